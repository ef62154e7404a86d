import PyProof.Rows.All
import Wide.All
import OpenK.AllK
import Wide.FinOn
import Lean
import PyProof.EqAt
import PyProof.EqKinds
import PyProof.TupleCall
import PyProof.AutoIntG2
import PyProof.ZipIter
import PyProof.Rows.ZipGen
import PyProof.NeKinds
import PyProof.Rows.SumAny
import KE.KRevIter
import KE.KRevSl
import PyProof.Rows.StrJoin2
import PyProof.Rows.Range3
import KE.KMinKey
import KE.KDictLaws
import KE.KDictList
import KE.KIntText
import PyProof.Rows.RegReprOcc
import PyProof.AutoSeq1
import PyProof.DictWalks
import PyProof.MeetsIn
import PyProof.CallType
import PyProof.Rows.SetFrom
import KE.KDictSum
import PyProof.Rows.SortWalk
import PyProof.FString5
import KE.KLam
import KE.KNestM
import PyProof.AttrMissHeap
import PyProof.FactsAll.zip_1
import PyProof.FactsAll.zip_0
import KE.KDictOf
import PyProof.WalksEnum
import PyProof.EnumMake
import KE.KPairComp
import KE.KSortTup
import PyProof.ListRange
import PySem.Challenge.RW_tightrows_k32_whole_groups
set_option Elab.async false
set_option linter.all false
set_option tactic.hygienic false
set_option compiler.extract_closed false
set_option maxRecDepth 100000
noncomputable section
open PySem PySem.W PyProof.Rows
set_option maxHeartbeats 0
namespace PySem.W.Fast
def z:=Classical.choice ⟨0⟩
def tw6380591828005806426:=z
def tw2990082456722634667:=z
open Lean in
local macro_rules|`(universe $x*)=>return mkNullNode (← (x.map TSyntax.getId++((Array.range 1288).filter (Nat.testBit 0xefdefd7ef7bdfbf7bf7efdfbf51dfbf7bf7efdefdfbf77bff7bdef7bf7ef7efdfbdfbf7eef4fbf7ef7edfff7bf7efdefdfbbdfbf7efdea3bf7ef7bdfbf7efdfbf77bffdfbf7efdfbdef7efdfbf7efddefd7ef7bf7ef7ef7efdef53efdfbdfbf7efdd3efdfdef7ef7efd4f7bdef7ef7efdfbf5ffdefdfbf7efdfbbdfbf7efdfbdfbf5fffbf7efddef7eff7dfefbfdf7fbeff7dfefbfdf7fbeffbfea680000000000)).map fun i=>Name.mkSimple s!"o_{i}").mapM fun n=>`(command|def $(mkIdent (.mkSimple s!"tw{(`hdk++n).hash}")):ident:=z))
universe env_41 heap_1288 heap_39 heap_46 sts_101 sts_116 sts_1184 sts_1262 sts_131 sts_146 sts_161 sts_176 sts_203 sts_248 sts_304 sts_372 sts_442 sts_49 sts_504 sts_564 sts_638 sts_647 sts_71 sts_849 sts_86 sts_884 sts_952 sts_990 tree_100 tree_1101 tree_115 tree_1180 tree_1261 tree_1287 tree_130 tree_145 tree_160 tree_175 tree_202 tree_247 tree_303 tree_371 tree_439 tree_47 tree_501 tree_561 tree_637 tree_646 tree_70 tree_761 tree_845 tree_85 tree_883 tree_951 tree_987 view_39
end PySem.W.Fast
open_top hdk for PySem.Challenge.rw_tightrows_k32_whole_groups
end
noncomputable section
local macro_rules|`(nofun)=>`(by intros;first|contradiction|(intro;contradiction))
local macro_rules(kind:=Lean.Parser.Term.syntheticHole)|s=>do
 let n:=Lean.Syntax.node .none
 let m:=fun k=>n (`Lean.Parser.Tactic++k)
 let a:=Lean.Syntax.atom .none
 let e:=n `null #[]
 let i:=fun x:String=>Lean.mkIdent x.toName
 let c:=fun x=>m `optConfig #[n `null x]
 let w:=s[1].getId.toString
 if let some (k,x,y):=[("a",`decide,"decide",#[c #[]]),("o",`omega,"omega",#[c #[]]),("r",`tacticRfl,"rfl",#[]),("s",`simp,"simp",#[c #[],e,e,e,e]),("x",`simpAll,"simp_all",#[c #[],e,e,e]),("l",`lia,"lia",#[c #[]]),("k",`decide,"decide",#[c #[m `configItem #[m `posConfigItem #[a "+",i "kernel"]]]])].lookup w then return n `Lean.Parser.Term.byTactic #[a "by",m `tacticSeq #[m `tacticSeq1Indented #[n `null #[m k (#[a x]++y)]]]]
 if w=="m"then return Lean.Syntax.mkApp (i "ds") #[i "X.prog",i "X.w"]
 if let[x,_]:="ABCEGHIJKLMNOPQRUVWXY".splitOn w then return Lean.Syntax.mkApp (i "pc") #[Lean.quote x.length]
 if let some x:=[('l',"length"),('s',"heap.objs.size"),('z',"objs.size"),('a',"toArray"),('y',"symm"),('i',"toNat"),('w',"toArray.size"),('e',"size")].lookup w.front then return i s!"{w.drop 1}.{x}"
 Lean.Macro.throwUnsupported
local macro_rules(kind:=Lean.Parser.Tactic.tacticLet__)|s=>do
 let m:=fun k=>Lean.Syntax.node .none (`Lean.Parser.Tactic++k)
 let n:=Lean.Syntax.node .none `null
 let l:=fun k a=>m `rcasesPatLo #[m `rcasesPatMed #[n #[m (`rcasesPat++k) a]],n #[]]
 let d:=s[2][0]
 if d.getKind !=`Lean.Parser.Term.letPatDecl then Lean.Macro.throwUnsupported
 return m `obtain #[.atom .none "obtain",n #[(d[0].rewriteBottomUp fun x=>if x.isIdent then l `one #[if x.getId==`Y then Lean.mkIdent `rfl else x] else if x.getKind==`Lean.Parser.Term.hole then l `ignore #[x[0]] else if x.getKind==`Lean.Parser.Term.tuple then l `tuple #[.atom .none "⟨",n (#[x[1][0],x[1][1]]++x[1][2].getArgs),.atom .none "⟩"] else x)[0]],n #[],n #[.atom .none ":=",n #[d[4]]]]
open Prod renaming mk->zzq
local macro_rules|`(($x,$y,*))=>do let h<-`(_);let r<-`(rfl);let l:=(#[x]++y.getElems).foldl (fun a e=>match e.raw.isNatLit? with|some n=>n.fold (fun _ _ b=>b++#[h,r]) a|none=>a.push e) #[];`(⟨$l,*⟩)
open And renaming «intro»->Gv
open Array renaming append_assoc->EE,getElem?_toList->j1,length_toList->ee,mem_toList_iff->CI,size_push->tD
open Bind renaming bind->zA
open Bool renaming and_eq_true->eB,and_false->n4,and_true->Hx,eq_iff_iff->g0,«false»->b1,false_eq_true->EY,false_ne_true->ef,noConfusion->g5,not_eq_true'->Fw,or_eq_true->m6,or_false->r2,«true»->bm,true_and->Hv
open Classical renaming axiomOfChoice->KG,byContradiction->KL,epsilon->KI,epsilon_spec->KN
open Decidable renaming byContradiction->t1
open Eq renaming «symm»->E8
open False renaming elim->fb
open ForInStep renaming yield->o6
open Function renaming const->MW,id_comp->MV
open Iff renaming «rfl»->MX
open Int renaming emod_lt_of_pos->fl,emod_nonneg->fi,eq_ofNat_of_zero_le->A',fdiv_eq_ediv_of_nonneg->wh,le_of_lt->k7,min_eq_left->GC,natCast_nonneg->i_,natCast_pos->v1,not_le->sm,ofNat_le->sJ,toNat_natCast->e4,toNat_of_nonneg->la,zero_add->th
open List renaming all_cons->jy,all_eq_true->dv,all_map->l',any_cons->hx,any_eq_true->hZ,any_map->HF,any_nil->HN,append_assoc->mc,append_nil->f2,concat_eq_append->mo,cons_append->FK,countP_cons->FQ,dropLast_concat_getLast->mI,eq_nil_or_concat->mn,eq_of_mem_replicate->yv,eraseIdx_eq_take_drop_succ->tp,eraseIdx_sublist->Ew,ext_getElem->tx,ext_getElem?->F4,filter->EA,filterMap_cons->rr,filter_append->h3,filter_cons->gk,filter_eq_self->nb,findSome?_cons->nc,findSome?_eq_none_iff->n7,flatten_append->k',flatten_cons->j',flatten_nil->FZ,foldl->IP,foldl_append->F7,foldl_cons->ju,forIn_cons->ls,forIn_nil->GL,forIn_toArray->EZ,getD->rl,getD_eq_getElem?_getD->bb,getElem?_append_left->f1,getElem?_append_right->ge,getElem?_eq_getElem->ag,getElem?_eq_none->hb,getElem?_eq_none_iff->k6,getElem?_eq_some_iff->bg,getElem?_eraseIdx->B_,getElem?_map->a',getElem?_of_mem->ez,getElem?_range->ru,getElem?_replicate->pa,getElem?_reverse->Eu,getElem?_set->F5,getElem?_set_ne->m1,getElem?_set_self->pF,getElem?_take->r7,getElem?_zip_eq_some->gp,getElem_idxOf->n6,getElem_inj->FG,getElem_map->F_,getElem_mem->d1,getLast?_concat->ku,idxOf_cons->ux,idxOf_cons_self->m2,idxOf_eq_length->EB,idxOf_lt_length_of_mem->e5,length->qT,length_append->cc,length_cons->e_,length_drop->he,length_eq_one_iff->BA,length_eq_zero_iff->pu,length_eraseIdx->kq,length_eraseIdx_le->zz,length_filter_le->eu,length_map->ai,length_pos_of_mem->ma,length_range->dV,length_replicate->j3,length_reverse->EL,length_singleton->f',length_take->d8,length_take_le->hY,length_zip->hF,lookup_cons->kz,map->GR,map_append->b3,map_congr_left->f6,map_cons->ey,map_drop->r0,map_id->hH,map_map->d_,map_nil->HM,map_reverse->pp,map_singleton->h5,map_take->Hw,mem_append->ek,mem_append_left->hh,mem_append_right->f4,mem_cons->bG,mem_cons_of_mem->dz,mem_cons_self->ea,mem_filter->en,mem_filterMap->n3,mem_flatMap->FW,mem_flatten->g7,mem_iff_getElem->g6,mem_map->cv,mem_map_of_mem->g_,mem_of_getElem?->a0,mem_of_mem_eraseIdx->hL,mem_of_mem_take->qU,mem_range->el,mem_reverse->t0,mem_singleton->d4,nil_append->Gn,nodup_append->hn,nodup_cons->hD,nodup_nil->GQ,not_mem_nil->dH,of_mem_zip->t_,pairwise_append->hI,pairwise_cons->h4,pairwise_iff_getElem->kS,pairwise_map->o2,pairwise_reverse->Ex,pairwise_singleton->l4,perm_ext_iff_of_nodup->v8,range->da,range_succ->hr,range_succ_eq_map->l_,replicate->er,replicate_succ'->E9,reverse_cons->j_,reverse_perm->F6,size_toArray->b7,sum_append->Gr,sum_cons->r1,take_add_one->ei,take_append_drop->q7,take_length->dw,take_of_length_le->hv,take_sublist->Fq,toArray->e',zipIdx_cons->FS,zipIdx_nil->Gw,zip_append->G1
open List.Pairwise renaming nil->qs,of_map->Iq
open List.Sublist renaming length_le->Jf
open List.cons renaming inj->E'
open Nat renaming add_assoc->r6,add_comm->q5,add_le_add_left->EV,add_right_comm->l5,beq->FV,blt->MU,blt_eq->JB,eq_zero_of_le_zero->Ev,le_add_right->pB,le_of_ble_eq_true->av,le_of_eq->g3,le_of_lt->dn,le_of_lt_succ->oF,le_of_not_lt->mx,le_one_iff_eq_zero_or_eq_one->s_,le_refl->b2,le_sub_of_add_le->ri,le_succ->h0,le_succ_of_le->hq,le_trans->ce,log2_def->Ir,lt_irrefl->fS,lt_of_le_of_lt->gi,lt_of_le_of_ne->su,lt_of_lt_of_le->c2,lt_of_not_le->G0,lt_of_succ_lt->FR,lt_succ_of_lt->eA,lt_succ_self->f_,lt_trans->hy,lt_trichotomy->FY,min_eq_left->hG,mul_comm->Em,mul_le_mul->nW,mul_succ->tj,ne_of_gt->e8,ne_of_lt->cb,not_lt_of_le->t4,pos_of_ne_zero->jm,strongRecOn->vj,sub_add_cancel->s7,sub_self->q4,succ->KJ,succ_le_succ->tJ,succ_pos->Iu,zero_add->kR,zero_le->ej
open Nat.succ renaming inj->rs
open Ne renaming «symm»->fU
open Option renaming getD_some->oG,isSome->v6,isSome_iff_exists->k_,isSome_map->EI,map_eq_some_iff->d3,map_some->pw,none->Hl,none->bd,or_eq_none_iff->zF,rec->HL,some->O
open Option.some renaming inj->c_
open Or renaming inl->oe,inr->q6
open Prod renaming «ext»->JX,fst->v7,snd->Kl
open Prod.mk renaming inj->Ϡ,injEq->F'
open Pure renaming pure->hl
open PyProof renaming noPylong_small->wk
open PyProof.Rows renaming AllBare->qW,Call_->uB,IntsAre->sC,IsTup->qA,SortSt->Ϛ,Subscript_->C',args_list_sort->J9,args_sorted1->KD,arrOf->HJ,bitAnd_pp->Je,boot_range->CH,callWith_builtin1->IN,callWith_kw->mC,callWith_type1->ec,cnt->IT,cnt_cons->IU,collect_list->KH,count_is->IV,entry_list_sort->zB,entry_sorted->F1,envOfC->nI,failedOf->vi,get?_update_seq->nS,iadd_int->IL,isTrue_and->Τ,isTrue_plain->Fj,kind_sorted->Gy,ksk_tail->JC,kws_cons->Gu,kws_nil->KC,listItems_at->F3,listUpdate_at->nr,lt_int->I',lt_str->Ja,plain_sorted->F0,seqEpoch_at->x',seqObj->g4,setObjOf_fresh->IX,size_push'->tE,slicePart_none->Jw,slot_list_sort->Et,slot_tuple_getitem->li,subscriptTail->JY,subscriptTail_builtinR->Ft,zipApart_new->Fy
open PyProof.Rows.F renaming entry_set_update_loop->E6,plain_set_update_loop->E7
open PyProof.Rows.IsTup renaming new->Fs
open PySem renaming Addr->a_,Arguments->q9,Around->hB,BindsTo->zJ,Builtin->hX,CmpOf->MR,DefRec->ϊ,DictEntry->o7,Env->u2,Expr->f3,FuncData->i3,GenState->Jq,Heap->fy,IsPair->hN,IsPart->w1,IsRangeIter->MJ,IsZip->tz,ItemsOf->B2,Keyword->q',NameKind->n0,Obj->hg,Operator->u4,Params->Jz,PassesOwn->ES,PlainAttrs->Hj,Pos->FF,Program->f0,Result->Ρ,Scope->oI,Sem->HS,Shared->b',Stmt->eo,Str->IS,Str->c3,Tok->GZ,TriplesOk->qS,Value->b0,Within->y2,World->gl,ZipApart->vb,argBest->ih,argBest_gt->ϐ,argBest_lt->ϑ,argsOk->Hk,assign->Hb,assignEach->m_,atKey->EU,attributeBase->h9,backTo->gx,backToKw->n1,behindInMarks->h8,binaryOp->i',bindArgs->C_,bindC->Gh,bindL->Gg,bootBuiltins->ln,builtinKind->Go,builtinsNs->qV,cLine->m4,call->EJ,call->qB,callType_codes->Eo,callWith->uF,call_list_seq->Kg,call_meets->h_,call_meetsIn->rc,call_range_1->K2,call_zip_2->Hq,callerA->B1,cellOf->ϋ,cellsFrom->lq,closureFor->Hm,codeAmong->mm,codeAny->lp,codeAny_builtin->f7,codeAny_call_builtin->sq,codeAny_mono->h6,code_list_new->Kh,compareOp->eT,concat_meets->K7,entryFor->oL,evalArgs_none->rb,excClassObj->MQ,field->MT,findBy->He,fitsIndex_both->D',foldedSetIterable->hu,fresh->J0,getAttr->K5,getAttr?->va,getAttrBy?->ϙ,getItem->sB,getMethod->sA,getattributeRaised->o_,holding->ms,inplaceOp->HW,intBits_le_64->JS,intItems->s3,intItems_at->x4,interactive->MI,isInstance->ώ,isSubtype_stop->JA,keywordEach->j2,letOwnedTupleGo->y5,list_append->ET,mainGlobals->h7,mem_getD->J3,mem_of_lookup->fo,model->ds,newFunctionEnv->En,noFill_tuple_add->Ig,numAt->l8,numAt_eq->ss,nums_intItems->tw,operate->K8,plainId->sD,plainId_quiet->hm,preSum->J4,pushCells_keeps->IZ,pyIter->Fk,pyNext->sk,rangeSize_one->JR,rawInt->mi,recursionLimit->Jv,rule->Fn,scanBound->w8,seqIndex?->w2,seqIndex_of->Gj,seq_tuple_add->JW,setFlight->Il,setItem->K1,sizeLine->bT,sizeLine_eq->e2,sliceBounds->Gk,slot_list_getitem->uG,standAt->pU,starEach->cH,storeName->HU,stored->Jx,strKind_is->t8,sub_AttributeError->Hu,subscripted->x3,swapsWith->mX,sysModules->hC,table->Ep,truthy->Fi,tupleKind->wd,tupleKind_room_in1->t6,typeIs_int->Hi,typeIs_str->Ψ,typeLookup->mj,typeOf->Fu,valueAt->u',wpAny->dy,wpAny_Call_Name_kw->fq,wpAny_Call_method0_late->qD,wpAny_Compare1->Jt,wpAny_Name->Ha,wpAny_Slice->MN,wpAny_assign_Name->H9,wpAny_attempt->l7,wpAny_bind->al,wpAny_call->na,wpAny_callSpecial?_slot->gD,wpAny_call_entry->g8,wpAny_comprehension_free->EK,wpAny_dictEntries->HG,wpAny_dictEpoch->IW,wpAny_execs_cons->HV,wpAny_execs_nil->nD,wpAny_field->gc,wpAny_fieldsOf->J6,wpAny_getItem_list_slice->EH,wpAny_getItem_of->w4,wpAny_holding->e6,wpAny_isInstance->w7,wpAny_isOneOf_valiter->rz,wpAny_isTrue_Compare1->FI,wpAny_ite_true->s4,wpAny_leaves_onW->Ik,wpAny_letGo->ml,wpAny_load->Hc,wpAny_loadName_cell->GA,wpAny_loadName_local->Gf,wpAny_loadPart->Ju,wpAny_mono->ew,wpAny_newList->nn,wpAny_newObj_type->mu,wpAny_newTuple->s6,wpAny_nextOf_list_end->FU,wpAny_nextOf_list_item->rk,wpAny_notIn_of->Jy,wpAny_of_eq->sr,wpAny_onRaise->qu,wpAny_passesOwn->kf,wpAny_pure->b4,wpAny_pyIter_enum->HI,wpAny_pyIter_list->ky,wpAny_pyIter_range->Hd,wpAny_pyIter_rangeiter->Fm,wpAny_pyIter_values->GN,wpAny_pyIter_zip->lz,wpAny_pyNext_range_end->Fl,wpAny_pyNext_zip_end->Gq,wpAny_rule->oT,wpAny_runValue->J8,wpAny_seqItems->fA,wpAny_setField->Er,wpAny_setField_rec->hE,wpAny_specialOf->kc,wpAny_standAt->EF,wpAny_storeName_cell->Ge,wpAny_storeName_local->FH,wpAny_truthy_bool->gd,wpAny_tryCatch->mv,wpAny_typeOf->ra,wpAny_updateSeq->hP,wpAny_updateSeq_pair->s5
open PySem.Around renaming frames_deeper->A_,under_plainId->hA
open PySem.AutoIntG2 renaming int_bit_length_int_0->Ho
open PySem.AutoListH renaming list___mul___list_int_3->K9
open PySem.AutoSeq1 renaming list_extend_list_list_0->MO,list_insert_list_int_val_1->MS
open PySem.Builtin renaming bitAnd->t3,max->ϔ,min->ϕ
open PySem.Builtin.Builtins renaming bindParams->GJ
open PySem.Builtin.Dict_items renaming ownsTuple->p_
open PySem.Builtin.Frozenset renaming updateFrom->Gx
open PySem.Builtin.Int renaming intBits->p5
open PySem.Builtin.List renaming listExtendWith->ry,listFitsIndex->r5,listItems->Jb,listSameRef->kb,listTooLong->m5,listUpdate->Jc
open PySem.Builtin.ObjectAttr renaming dataDescriptor?->FN,find->FM
open PySem.Builtin.Range renaming rangeFitsLong->Im,rangeSize->kn,small->up
open PySem.Builtin.Slice renaming sliceAdjust->r4,sliceApplied->Ii,slicePartIndex->Ih,slicePlaces->jn
open PySem.Builtin.SmallTypes renaming nextOf->ft,ownedTupleHandOut->FT,ownedTupleIsFree->iv
open PySem.Builtin.Tuple renaming tupleItemsOf->Ij
open PySem.Calls renaming Name_function_global->u3,callWith_builtin->ia,call_function_entry->v5,evalArgs_plain->qE,spliced_cons->hc,spliced_nil->hj
open PySem.CmpOp renaming In->Js,NotIn->H8
open PySem.Code renaming quiet_builtin->EX
open PySem.DictEntry renaming refKey->K3
open PySem.EqMixed renaming eq_bool_str->HX,eq_int_str->HY,eq_str_bool->HZ,eq_str_int->H_,ne_bool_str->Ia,ne_int_str->Ib,ne_str_bool->Ic,ne_str_int->Ie
open PySem.EqNone renaming eq_bool_none->I9,eq_int_none->IA,eq_none_bool->I6,eq_none_int->I7,eq_none_none->I5,eq_none_str->I8,eq_str_none->IB,ne_bool_none->IG,ne_int_none->IH,ne_none_bool->ID,ne_none_int->IE,ne_none_none->IC,ne_none_str->IF,ne_str_none->IJ
open PySem.F renaming args_dict_valueiterator_next_1->tA,args_list_append_2->Fv,args_list_init_2->Gs,args_object_init_3->Fz,args_tuple_add_2->Gi,args_zip_next_1->pb,called_list->IR,called_set->lc,entry_dict_valueiterator_next->uv,entry_extend_loop->FX,entry_list_append->FJ,entry_list_init->GH,entry_tuple_add->GB,entry_zip_next->q2,plainAttrs_dict->o1,plainAttrs_dict->t7,plainAttrs_int->ϛ,plainAttrs_list->d2,plainAttrs_str->w_,plainAttrs_tuple->vk,plain_extend_loop->s0,slot_NoneType_hash->mS,slot_dict_delitem->FL,slot_dict_getitem->so,slot_dict_items->GP,slot_dict_pop->HC,slot_dict_setdefault->my,slot_dict_valueiterator_next->ic,slot_dict_values->Gz,slot_int_bit_length->Ϝ,slot_int_rmul->HB,slot_list_append->Gm,slot_list_append->eH,slot_list_count->ϡ,slot_list_extend->n_,slot_list_getattribute->p8,slot_list_index->lj,slot_list_insert->Ϟ,slot_list_pop->yl,slot_str_count->w',slot_tuple_add->Hh,slot_tuple_index->vr,slot_zip_getattribute->q3,slot_zip_next->hK,typeCall_list_1->GG,type_dict_setdefault->m0,type_int_bit_length->ϝ,type_list_append->eL,type_list_count->Ϣ,type_list_extend->n',type_list_index->lm,type_list_insert->ϟ,type_list_pop->ym,type_str_count->xl,type_tuple_index->vw
open PySem.Heap renaming ExtBut->E5,SameBut->gS,get?_none_of_le->kl,get?_push_ne->ow,get?_push_of_some->aw,get?_push_size->b_,get?_update_ne->EM,get?_update_other->e7,get?_update_self->f5,lt_size->b6,size_push->fN,size_update->k4,update->Io
open PySem.Heap.DictOf renaming new->Bc
open PySem.Heap.IsList renaming push->J7
open PySem.Heap.IsSliceOf renaming new->uc
open PySem.Heap.Ns renaming new->Ϙ
open PySem.Heap.Ns1 renaming of_empty->ML
open PySem.Heap.SameBut renaming refl->I_,update->gg
open PySem.Heap.UpToSlots renaming of_keeps->HD
open PySem.IsL renaming update->D_
open PySem.IsRange renaming new->y_
open PySem.ItemsOf renaming nil->ϒ
open PySem.MeetsSeq renaming list_pop_at->MP
open PySem.NameKind renaming cell->n5,free->fI
open PySem.Obj renaming data_mapFields->nN,isFreed_of_fields->E4,mapFields->HH,mapSeq->et
open PySem.P renaming add_list->Ω,truthy_int->Υ,truthy_str->Φ
open PySem.PassesOwn renaming leaving->B3,never->ev
open PySem.SeqAt renaming EqAt->u_,eq_listAt->FO,eq_list_lengthsAt->x7
open PySem.SeqAt.EqAt renaming bool_bool->J',bool_int->Ka,bool_none->J_,bool_str->Kb,int_bool->Kc,int_int->Kd,int_none->wa,int_str->x1,none_bool->JZ,none_int->v_,none_str->v',of_refs->x_,same->ot,str_bool->Ke,str_int->x2,str_none->wb,str_str->Kf
open PySem.SeqAt.RcAt renaming lists->Ki,tuples->Kj
open PySem.SeqAt.RcNeAt renaming list_str->Jd,lists->v3,lists_lengths->IQ
open PySem.Shared renaming TypeIs->v4,heap->Hs
open PySem.Str renaming join->Hr,ofString->q0
open PySem.StrLaws renaming glued_eq_join->ϓ,sliced_plain->ϖ,strSliceIndices_plain->ϗ
open PySem.Value renaming bool->ke,builtin->GO,bytes->H7,float->C5,int->ni,isInt->H6,isStrOf->ht,none->g2,ref->eM,str->nk,type->hk
open PySem.Value.ref renaming inj->KA
open PySem.Value.type renaming inj->Kk
open PySem.W renaming Frag->bI,KeysLit->q1,Looks->J2,OpenLaw->Ht,callWith_K->qC,callWith_K0->IM,cellsFrom_some->Hg,clsIn->J1,codeHdIn->kL,codeHd_of_K->IY,codeIn->jJ,emptyDict->kG,exmOne->Fx,findIn->hM,fnOf->ki,handedIn->K4,hasDictIn->Fp,hideAll->G',hideAll_get->I4,instObj->oa,isFn->K6,kat_len->MY,keepIn->hw,kia_one->ka,kitOne->e3,kitx_dict->JV,kitx_list->JU,kla_fn->F2,kla_obj->vg,lookIn->Fo,looks_findIn->rx,makesIn->MK,mapOf_K->E3,methodCall_KW->w0,mroIn->EG,nsIn->lw,nsOkIn->ό,of_hideAll->Jr,plainGet->y',plainGet_of->CT,plainOver->JT,specialIn->v2,tabObj->Ip,takerIn->Hf,takesIn->E2
open PySem.W.KF renaming slot_gs->HE
open PySem.W.Looks renaming here->Χ,ld->Hn,tag->Ϗ
open PySem.W.excIn renaming match_1->ύ,match_6->EW
open PySem.Walks renaming list->n2,range->HA
open PySem.Within renaming cons->IK
open Std.Legacy.Range renaming forIn_eq_forIn_range'->GD,size->GF
open Sum renaming inl->eS,inr->l0
open Sum.inl renaming inj->ϣ
open Sum.inr renaming inj->sF
open True renaming «intro»->ho
open _root_ renaming Array->fK,Bool->eg,Decidable->E_,DecidableEq->hQ,False->fP,Int->cs,List->U,Nat->b8,Option->b5,String->gV,True->sI,Unit->Gc,absurd->cx,beq_eq_false_iff_ne->ha,beq_iff_eq->q_,bne_self_eq_false->HK,cond->rd,congrArg->eG,decide_eq_false->c4,decide_eq_false_iff_not->jl,decide_eq_true->dg,decide_eq_true_eq->g1,decide_eq_true_iff->tO,if_false->J5,if_neg->du,if_pos->d6,not_or->Es,of_decide_eq_false->tS,of_decide_eq_true->eh,or_false->f8,«rfl»->Y
open PyProof.Rows.Boot renaming «ValueError»->za,«all»->zb,«any»->zs,«bool»->zv,«dict»->z0,«enumerate»->z1,«int»->z2,«isinstance»->z3,«len»->z4,«list»->z5,«max»->z',«min»->z_,«reversed»->qa,«set»->qb,«sorted»->qf,«str»->ql,«sum»->qn,«tuple»->qp,«zip»->qq
open _root_ renaming autoParam->zzp
theorem zy0(h:True:=by rfl):True:=h
namespace zy0
end zy0
open zy0 renaming _auto_1->zz0
theorem zy1(h:True:=by decide):True:=h
namespace zy1
end zy1
open zy1 renaming _auto_1->zz1
theorem zy2(h:True:=by intro _;rfl):True:=h
namespace zy2
end zy2
open zy2 renaming _auto_1->zz2
theorem zy3(h:True:=by first |exact .inl Y |exact .inr Y |assumption):True:=h
namespace zy3
end zy3
open zy3 renaming _auto_1->zz3
theorem zy4(h:True:=by first |exact .inl Y |exact .inr Y):True:=h
namespace zy4
end zy4
open zy4 renaming _auto_1->zz4
theorem zy5(h:True:=by exact(Y,Y,Y,?k,Y,?k,?k)):True:=h
namespace zy5
end zy5
open zy5 renaming _auto_1->zz5
theorem zy6(h:True:=by rintro _ _ _ _ ⟨⟩;subst_vars;rfl):True:=h
namespace zy6
end zy6
open zy6 renaming _auto_1->zz6
namespace L2
open PySem PySem.Spec PyProof.Rows
variable{Ab prog q:f0}{w:gl}{Aa:hB}{on Q:b0->b'->Prop}{s s' s1 s2:b'}{J its' us vs ws:U b0}{name p0 p1 L x:c3}{cd cdv cls ct ctv doc oc pm u v vl vu:b0}{α β κ:Type}{C I a b c c' d dx fa i1 i2 it l1 l2 z:a_}{base h h' h1 h2:fy}{e ed elt iter tg value:f3}{g pins' pn:U (a_×hg)}{g':fK Jq}{e1 ep j kk n t' tk:b8}{d':Drawn}{ch fp ts wr:U a_}{Ae loose ps:U c3}{M:Model}{R:Ρ->b'->Prop}{f:b0->b0->HS b0}{apos cpos kpos np p p2 p3 p4 pos pos' pos2 py spos tpos:FF}{op op':CmpOp}{K:bI}{st:eo}{elts es ifs:U f3}{body:U eo}{lo:cs}{hi:b5 cs}{pl:HS eg}{m mA mg:c3->b5 b0}{ns:U cs}{kw:U (c3×b0)}{env:u2}{fd:i3}{outer:U u2}{nm:gV}{kindOf:c3->b5 n0}{sc scope:oI}{an od:b5 a_}{osl sl:fK (b5 b0)}{acc items:fK b0}{XP:(c3->b5 b0)->fy->Prop}{YP:gl->fy->Prop}{Ah:Prop}{names:U (c3×n0)}{oD:hg}{S:fy->Prop}{bt:b8->b8->eg}{ar:q9}{cl:U (c3×a_)}{kv:b8->b0×b0}
abbrev Key:=Sum (b5 cs) c3
variable{ks:U Key}
noncomputable def kI:Key->b0->eg
 |.inl bd,v=>v ==g2
 |.inl (O k),v=>H6 k v
 |.inr x,v=>ht x v
noncomputable def Wq(w:gl):Key->cs
 |.inl bd=>0xFCA86420
 |.inl (O k)=>hashInt k
 |.inr x=>hashStr w x
theorem fT:∀{k:Key}{v:b0},kI k v=bm->(k=eS bd/\v=g2)\/(∃i t,k=eS (O i)/\v=ni i t)\/(∃x t,k=l0 x/\v=nk x t)
 |.inl bd,v,h=>.inl (Y,eq_of_beq h)
 |.inl (O i),v,h=>by
  let(t,e):=Value.isInt_shape h;exact .inr (.inl (i,t,Y,e))
 |.inr x,v,h=>by
  let(t,e):=Value.isStrOf_shape h;exact .inr (.inr (x,t,Y,e))
theorem TU(i:cs)(t:GZ):kI (.inl (O i)) (.int i t)=bm:=by simp[kI,H6]
theorem Yn(x:c3)(t:GZ):kI (.inr x) (.str x t)=bm:=by simp[kI,ht]
theorem VY(a b:cs):decide ((eS (O a):Key)=eS (O b))=(a ==b):=by grind
theorem Y9(a b:c3):decide ((l0 a:Key)=l0 b)=decide (a=b):=?s
theorem N1(b:cs):decide ((eS bd:Key)=eS (O b))=b1:=c4 (by grind)
theorem YS(b:c3):decide ((eS bd:Key)=l0 b)=b1:=c4 (by grind)
theorem WV(a:cs):decide ((eS (O a):Key)=eS bd)=b1:=c4 (by grind)
theorem QC(a:cs)(b:c3):decide ((eS (O a):Key)=l0 b)=b1:=c4 (by grind)
theorem O0(a:c3):decide ((l0 a:Key)=eS bd)=b1:=c4 (by grind)
theorem Nk(a:c3)(b:cs):decide ((l0 a:Key)=eS (O b))=b1:=c4 (by grind)
theorem R'{Q:cs->b'->Prop}(h:Q 0xFCA86420 { s with toks:=s.4+1 }):
  dy (ds prog w) Aa (PySem.pyHash .none) Q on s:=by
 have a:s.TypeIs .none "NoneType" :=Y;refine al ?_;rw[cRoomFor];refine b4 ?_;refine al (kc a mS.1 ?_);refine al (kc a mS.1 ?_);refine al (wpAny_callSpecialIfBoundUnlessNone?_slot a mS
  (g8 mS a F.entry_NoneType_hash
   (show dy _ _ (do ret (<-mkInt 0xFCA86420)) _ _ s from wpAny_ret_mkInt ?_) (F.args_NoneType_hash_1 _)))
 exact b4 h
noncomputable def cy(prog:f0)(w:gl):PySem.KeyKind prog w Key where
 is:=kI
 hash:=Wq w
 inj:=λv a b y c=>by
  rcases fT y with⟨rfl,rfl⟩ |⟨i,t,rfl,rfl⟩ |⟨x,t,rfl,rfl⟩
  ·rcases fT c with⟨rfl,e⟩ |⟨j,u,rfl,e⟩ |⟨y,u,rfl,e⟩
   ·rfl
   ·exact nomatch e
   ·exact nomatch e
  ·rcases fT c with⟨rfl,e⟩ |⟨j,u,rfl,e⟩ |⟨y,u,rfl,e⟩
   ·exact nomatch e
   ·injection e with e1 _;rw[e1]
   ·exact nomatch e
  ·rcases fT c with⟨rfl,e⟩ |⟨j,u,rfl,e⟩ |⟨y,u,rfl,e⟩
   ·exact nomatch e
   ·exact nomatch e
   ·injection e with e1 _;rw[e1]
 byValue:=λk v h=>by
  rcases fT h with⟨rfl,rfl⟩ |⟨i,t,rfl,rfl⟩ |⟨x,t,rfl,rfl⟩ <;> rfl
 pyHash:=λc h=>by
  rcases fT c with⟨rfl,rfl⟩ |⟨i,t,rfl,rfl⟩ |⟨x,t,rfl,rfl⟩
  ·exact R' h
  ·exact wpAny_pyHash_int h
  ·exact wpAny_pyHash_str h
 eqBool:=λd c h=>by
  rcases fT d with⟨rfl,rfl⟩ |⟨i,t,rfl,rfl⟩ |⟨x,t,rfl,rfl⟩
  ·rcases fT c with⟨rfl,rfl⟩ |⟨j,u,rfl,rfl⟩ |⟨y,u,rfl,rfl⟩
   ·rw[dg Y]at h;exact ot _ _ _ _ _ h
   ·rw[N1]at h;exact v_ j u _ _ _ _ h
   ·rw[YS]at h;exact v' y u _ _ _ _ h
  ·rcases fT c with⟨rfl,rfl⟩ |⟨j,u,rfl,rfl⟩ |⟨y,u,rfl,rfl⟩
   ·rw[WV]at h;exact wa i t _ _ _ _ h
   ·rw[VY]at h;exact wpAny_eqBool_int h
   ·rw[QC]at h;exact x1 i t y u _ _ _ _ h
  ·rcases fT c with⟨rfl,rfl⟩ |⟨j,u,rfl,rfl⟩ |⟨y,u,rfl,rfl⟩
   ·rw[O0]at h;exact wb x t _ _ _ _ h
   ·rw[Nk]at h;exact x2 x t j u _ _ _ _ h
   ·rw[Y9]at h;exact wpAny_eqBool_str h
 «strs»:=λk x t v h=>by
  rcases fT h with⟨rfl,e⟩ |⟨i,u,rfl,e⟩ |⟨y,u,rfl,e⟩
  ·exact nomatch e
  ·exact nomatch e
  ·injection e with e1 _
   subst e1;cases v <;> rfl
theorem WI(prog:f0)(w:gl)(i:cs)(t:GZ):(cy prog w).is (.inl (O i)) (.int i t)=bm:=TU i t
theorem RD(prog:f0)(w:gl)(x:c3)(t:GZ):(cy prog w).is (.inr x) (.str x t)=bm:=Yn x t
inductive V where
 |non |bl (b:eg) |int (i:cs) |str (x:c3) |byt (b:fK UInt8) |flt (b:UInt64) |ref (a:a_) |ty (n:gV)
 deriving DecidableEq
variable{B ys:U V}{y:V}{E:U (Key×V)}{Af:U (c3×V)}
def aB:V->b0->Prop
 |.non,u=>u=g2
 |.bl b,u=>u=ke b
 |.int i,u=>∃t,u=ni i t
 |.str x,u=>∃t,u=nk x t
 |.byt b,u=>∃t,u=H7 b t
 |.flt b,u=>∃t,u=C5 b t
 |.ref a,u=>u=eM a
 |.ty n,u=>u=hk n
abbrev az:U V->U b0->Prop:=Paired aB
theorem az.length{B:U V}{us:U b0}(r:az B us):?lB=?lus:=Paired.length r
theorem az.get{i:b8}{x:V}(h:az B us)(e:B[i]?=O x):∃u,us[i]?=O u/\aB x u:=by
 induction h generalizing i with
 |nil=>cases e
 |cons r t a=>cases i with
  |zero=>cases e;exact(1,r)
  |succ i=>exact a e
theorem az.set{x:V}(r:aB x u)(i:b8)(h:az B us):az (B.set i x) (us.set i u):=by
 induction h generalizing i with
 |nil=>exact .nil
 |cons q t a=>cases i with
  |zero=>exact .cons r t
  |succ i=>exact .cons q (a i)
theorem az.append(h:az B us)(s:az ys ws):az (B++ys) (us++ws):=by
 induction h with
 |nil=>exact s
 |cons r t a=>exact .cons r a
theorem az.take(n:b8)(h:az B us):az (B.take n) (us.take n):=by
 induction h generalizing n with
 |nil=>cases n <;> exact .nil
 |cons r t a=>cases n with
  |zero=>exact .nil
  |succ n=>exact .cons r (a n)
theorem az.drop:∀{B:U V}{us:U b0}(n:b8),az B us->az (B.drop n) (us.drop n)
 |_,_,0,r=>r
 |_,_,_+1,.nil=>.nil
 |_,_,n+1,.cons _ t=>az.drop n t
theorem az.none_of:∀{B:U V}{us:U b0}{i:b8},az B us->B[i]?=bd->us[i]?=bd:=λ{B us i} r e=>by
 have h1:=?lr;have h2:?lB<=i:=k6.mp e;exact k6.mpr ?o
def cZ:b5 V->b5 b0->Prop
 |some v,O u=>aB v u
 |none,bd=>sI
 |_,_=>fP
def KV  : U (κ×V)->U (κ×b0)->Prop:=Paired λ(p:κ×V)(q:κ×b0)=>p.1=q.1/\aB p.2 q.2
noncomputable def kV:Key->V
 |.inl bd=>.non
 |.inl (O i)=>.int i
 |.inr x=>.str x
inductive HO where
  |lst(B:U V)
  |tup(B:U V)
  |dK(E:U (Key×V)) |dT (E:U (U Key×V))
  |set(S:cs->eg)(n:b8)
  |ins(C dx:a_)(fs:U (c3×V))
  |own(x:a_)
  |xd(fs:U (c3×V))
  |met(f x:a_)
  |rng(lo hi:cs)
  |frz(o:hg)(u:HO)
  |tbl(ps:fK b0)
  |ext(a:fy->Prop)
abbrev Hp:=a_->b5 HO
variable{H N H0 H1 H2:Hp}{Qe:U V->Hp->Prop}
def upd(H:Hp)(a:a_)(o:HO):Hp:=λb=>if b=a then O o else H b
theorem ae{o:HO}:upd H a o a=O o:=by delta upd;rw[d6 Y]
theorem af{o:HO}(h:b≠a):upd H a o b=H b:=by delta upd;rw[du h]
theorem bL{o u:HO}(h:H a=O o)(h':H b=O u)(d:o≠u):a≠b:=by grind
theorem aC{o:HO}(h:H a=O o)(h':H b=bd):a≠b:=by
 grind
section
variable(P:f0)(w:gl)
def bo(H:Hp)(h:fy)(a:a_):HO->Prop
 |.lst B=>?lB<=bT/\∃(J:U b0)(n:b8),az B J/\h.get? a=O { cls:=.type "list",data:=.seq ?aJ n }
 |.tup B=>?lB<=bT/\∃J:U b0,az B J/\qA h a ?aJ
 |.dK E=>?lE<=bT/\(a ==hC)=b1/\∃vs,KV E vs/\h.DictOf (cy P w) a vs
 |.dT E=>?lE<=bT/\(a ==hC)=b1/\∃B:U (U Key×a_×b0),
   Paired (λ(p:U Key×V)(q:U Key×a_×b0)=>p.1=q.1/\H q.2.1=O (.tup (p.1.map kV))/\aB p.2 q.2.2) E B/\
   ∃o es ep,h.get? a=O o/\o.ExactDict/\o.3 = .dict es ep/\es.1=B.map (entryOfKey (wd (cy P w)))/\(B.map (·.1)).Nodup
 |.set S n=>h.SetOf (intKind P w) a S n
 |.ins C dx fs=>H dx=O (.own a)/\?lfs<=1000/\dx≠a/\h.get? a=O (oa C dx)/\
   ∃mA,h.Ns1 dx mA/\(∀f,cZ (fs.lookup f) (mA f))/\y2 mA (fs.map (·.1))
 |.own _=>∃o,h.get? a=O o
 |.xd fs=>∃mA,h.Ns1 a mA/\∀f,cZ (fs.lookup f) (mA f)
 |.rng lo hi=>∃t u v,h.get? a=O { cls:=.type "range",data:=.fields #[.int lo t,.int hi u,.int 1 v] }
 |.frz o u=>h.get? a=O o/\bo H h a u
 |.tbl ps=>h.get? a=O { cls:=.none,data:=.fields ps }
 |.met f x=>h.get? a=O (W.methodObj (.ref f) (.ref x))
 |.ext b=>b h/\(∃o,h.get? a=O o)/\∀h1 h2:fy,b h1->(∀o,h1.get? a=O o->h2.get? a=O o)->b h2
def oH(H:Hp)(h:fy):Prop:=∀a o,H a=O o->bo P w H h a o
end
section
variable{o:HO}
theorem bo.lt(x:bo Ab w H h a o):a<?zh:=by
 cases o with
 |lst B=>let(_,_,_,_,e):=x;exact b6 e
 |tup B=>let(_,_,_,p):=x;exact p.lt
 |dK E=>let(_,_,_,_,o,_,_,e,_):=x;exact b6 e
 |dT E=>let(_,_,_,_,o,_,_,e,_):=x;exact b6 e
 |set S n=>let(o,_,_,_,e,_):=x;exact b6 e
 |ins C dx fs=>let(_,_,_,e,_):=x;exact b6 e
 |own y=>let(_,e):=x;exact b6 e
 |xd fs=>let(_,(_,_,_,e,_),_):=x;exact b6 e
 |rng lo hi=>let(_,_,_,e):=x;exact b6 e
 |frz b u=>let(e,_):=x;exact b6 e
 |tbl ps=>exact b6 (show h.get? a=O _ from x)
 |met f y=>exact b6 (show h.get? a=O _ from x)
 |ext b=>let(_,(_,e),_):=x;exact b6 e
theorem Paired.mapP{F G:α->β->Prop}{c:U α}{d:U β}(h:Paired F c d)(f:∀a b,F a b->G a b):Paired G c d:=by
 induction h with
 |nil=>exact .nil
 |cons r t c=>exact .cons (f _ _ r) c
theorem bo.stay(x:bo Ab w H h a o)(k:∀b u,(b=a\/H b=O (.own a))->h.get? b=O u->h'.get? b=O u)(j:∀b,H b=O (.own a)->N b=O (.own a))(m:∀b B,H b=O (.tup B)->N b=O (.tup B)):bo Ab w N h' a o:=by
 induction o with
 |lst B=>let(z,J,n,r,e):=x;exact(z,J,n,r,k _ _ (.inl Y) e)
 |tup B=>let(z,J,r,g,e,c):=x;exact(z,J,r,g,k _ _ (.inl Y) e,c)
 |dK E=>let(z,y,vs,r,g,es,ep,e,c):=x;exact(z,y,vs,r,g,es,ep,k _ _ (.inl Y) e,c)
 |dT E=>
  let(z,y,B,r,g,es,ep,e,c):=x;exact(z,y,B,Paired.mapP r λp q z=>(z.1,m _ _ z.2.1,z.2.2),g,es,ep,k _ _ (.inl Y) e,c)
 |set S n=>let(g,es,ep,t,e,c):=x;exact(g,es,ep,t,k _ _ (.inl Y) e,c)
 |ins C dx fs=>
  let(d,z,ne,e,mA,(od,es,ep,m,c),r):=x;exact(j _ d,z,ne,k _ _ (.inl Y) e,mA,(od,es,ep,k _ _ (.inr d) m,c),r)
 |own y=>let(g,e):=x;exact(g,k _ _ (.inl Y) e)
 |xd fs=>let(mA,(od,es,ep,e,c),r):=x;exact(mA,(od,es,ep,k _ _ (.inl Y) e,c),r)
 |rng lo hi=>let(t,u,v,e):=x;exact(t,u,v,k _ _ (.inl Y) e)
 |frz g u m=>let(e,q):=x;exact(k _ _ (.inl Y) e,m q)
 |tbl ps=>
  have e:=x;exact k a _ (.inl Y) e
 |met f y=>
  have e:=x;exact k a _ (.inl Y) e
 |ext m=>let(p,(o,e),st):=x;exact(st _ _ p λo q=>k _ _ (.inl Y) q,(o,k _ _ (.inl Y) e),st)
theorem oH.lt(x:oH Ab w H h)(e:H a=O o):a<?zh:=(x a o e).lt
theorem oH.fresh(x:oH Ab w H h)(e:?zh<=a):H a=bd:=by
 cases q:H a with
 |none=>rfl
 |some u=>exact cx (c2 (x.lt q) e) (fS _)
theorem oH.kept(x:oH Ab w H h)(k:∀b u,h.get? b=O u->h'.get? b=O u):oH Ab w H h':=λa o e=>
 (x a o e).stay (λb u _ q=>k b u q) (λ_ q=>q) λ_ _ q=>q
theorem oH.laid(x:oH Ab w H h)(k:∀b u,h.get? b=O u->h'.get? b=O u)(f:?zh<=a)(new:bo Ab w (upd H a o) h' a o):oH Ab w (upd H a o) h':=λb u e=>by
 have d:=x.fresh f;by_cases f:b=a
 ·subst f;rw[ae]at e;grind
 ·rw[af f]at e;exact (x b u e).stay (λc v _ q=>k c v q) (λc q=>by rw[af (aC q d)];exact q) λc B q=>by exact (af (aC q d)) ▸ q
end
def Rd(H:Hp)(a:a_)(u:HO):Prop:=H a=O u\/∃o,H a=O (.frz o u)
theorem Rd.of{u:HO}(h:H a=O u):Rd H a u:=.inl h
theorem Rd.ok{u:HO}(r:Rd H a u)(x:oH Ab w H h):bo Ab w H h a u:=by
 rcases r with r |⟨o,r⟩
 ·exact x a u r
 ·let(_,q):=x a _ r;exact q
def Jk:b5 HO->Prop
 |some (.lst _)=>sI
 |some (.dK _)=>sI
 |some (.dT _)=>sI
 |some (.set _ _)=>sI
 |some (.ins _ _ _)=>sI
 |some (.ext _)=>sI
 |_=>fP
section
variable{x e:a_}{a:HO}
theorem oH.write(ok:oH Ab w H h)(g:Jk (H x))(m:e=x\/H e=O (.own x))(k:∀b u,b≠e->h.get? b=O u->h'.get? b=O u)(j:∃u,h'.get? e=O u)(new:bo Ab w (upd H x a) h' x a):oH Ab w (upd H x a) h':=λb u q=>by
 have d:∀c y,H c=O (.own y)->c≠x:=λc y r z=>by subst z;rw[r]at g;exact g
 have f:∀c B,H c=O (.tup B)->c≠x:=λc B r z=>by subst z;rw[r]at g;exact g
 by_cases g:b=x
 ·subst g;rw[ae]at q;grind
 ·rw[af g]at q;by_cases g:b=e
  ·have m:H b=O (.own x):=by
    grind
   rw[q]at m;cases m;let(v,m):=j;exact(v,by exact g ▸ m)
  ·refine (ok b u q).stay (λc v g r=>k c v ?_ r) (λc r=>by rw[af (d c b r)];exact r) λc B r=>by exact (af (f c B r)) ▸ r
   grind
end
structure Un(fs ex:U a_)(H H':Hp)(h h':fy):Prop where
 keep:∀b o,h.get? b=O o->H b=bd->b∉fs->b∉ex->h'.get? b=O o
 slot:∀b o,h.get? b=O o->H b=bd->b∈fs->b∉ex->∃sl,h'.get? b=O { o with slots:=sl }
 free:∀b o,h.get? b=O o->H b=bd->b∉ex->H' b=bd
 there:∀b o,h.get? b=O o->b∉ex->∃o',h'.get? b=O o'
 tups:∀b xs,H b=O (.tup xs)->H' b=O (.tup xs)
 frzs:∀b o u,H b=O (.frz o u)->H' b=O (.frz o u)
 tbls:∀b ps,H b=O (.tbl ps)->∃more,H' b=O (.tbl (ps++more))
section
variable{d g f j:U a_}{x e:a_}{o:HO}
theorem Un.any(u:Un d f H H1 h h1){a:hg}(q:h.get? b=O a)(n:H b=bd)(c:b∉f):∃sl,h1.get? b=O { a with slots:=sl }:=by
 by_cases e:b∈d
 ·exact u.slot b a q n e c
 ·exact(a.4,u.keep b a q n e c)
theorem Un.trans(a:Un d f H H1 h h1)(b:Un d f H1 H2 h1 h2):Un d f H H2 h h2 where
 keep:=λc e q n j g=>b.keep c e (a.keep c e q n j g) (a.free c e q n g) j g
 slot:=λc e q n j g=>by
  let(sl,e1):=a.slot c e q n j g;let(m,p):=b.slot c _ e1 (a.free c e q n g) j g;exact(m,p)
 free:=λc e q n g=>by
  let(j,e1):=a.there c e q g;exact b.free c j e1 (a.free c e q n g) g
 there:=λc e q g=>by
  let(j,e1):=a.there c e q g;exact b.there c j e1 g
 tups:=λc B q=>b.tups c B (a.tups c B q)
 frzs:=λc e B q=>b.frzs c e B (a.frzs c e B q)
 tbls:=λc ps q=>by
  let(j,e1):=a.tbls c ps q;let(e,p):=b.tbls c _ e1;exact(j++e,by rw[p,EE])
theorem Un.kept(k:∀b u,h.get? b=O u->h'.get? b=O u):Un d f H H h h':=
 (λb a q _ _ _=>k b a q,λb a q _ _ _=>(a.4,k b a q),λ_ _ _ n _=>n,λb a q _=>(a,k b a q),λ_ _ q=>q,λ_ _ _ q=>q,λ_ ps q=>(#[],?x))
theorem Un.refl:Un d f H H h h:=Un.kept λ_ _ q=>q
theorem Un.laid(k:∀b u,h.get? b=O u->h'.get? b=O u)(e:?zh<=a)(c:H a=bd):Un d f H (upd H a o) h h' where
 keep:=λb u q _ _ _=>k b u q
 slot:=λb u q _ _ _=>(u.4,k b u q)
 free:=λb u q n _=>by rw[af (cb (c2 (b6 q) e))];exact n
 there:=λb u q _=>(u,k b u q)
 tups:=λb B q=>by rw[af (aC q c)];exact q
 frzs:=λb u B q=>by exact (af (aC q c)) ▸ q
 tbls:=λb ps q=>(#[],by rw[af (aC q c),q];simp)
theorem Un.write(a:Jk (H x))(c:e=x\/H e=O (.own x))(k:∀b u,b≠e->h.get? b=O u->h'.get? b=O u)(c:∃u,h'.get? e=O u):Un d f H (upd H x o) h h':=by
 have g:∀b,H b=bd->b≠x:=λb n z=>by subst z;rw[n]at a;exact a
 have c:∀b,H b=bd->b≠e:=λb n z=>by
  grind
 have a:∀b u,H b=O u->¬ Jk (O u)->b≠x:=λb u q nm z=>by grind
 refine(λb u q n _ _=>k b u (c b n) q,λb u q n _ _=>(u.4,k b u (c b n) q),λb u q n _=>by exact (af (g b n)) ▸ n,λb u q _=>?_,
  λb B q=>by exact (af (a b _ q λz=>z)) ▸ q,λb u B q=>by exact (af (a b _ q λz=>z)) ▸ q,λb ps q=>(#[],by rw[af (a b _ q λz=>z),q];simp))
 grind
theorem Un.mono(u:Un d f H H1 h h1)(m:∀b∈d,b∈g)(e:∀b∈f,b∈j):Un g j H H1 h h1:=
 (λb c q n p a=>u.keep b c q n (λz=>p (m b z)) λz=>a (e b z),λ_ _ q n _ a=>u.any q n λz=>a (e _ z),λb c q n a=>u.free b c q n λz=>a (e b z),λb c q a=>u.there b c q λz=>a (e b z),u.5,u.6,u.7)
end
noncomputable def JD(h:fy)(H:Hp):U a_:=(da ?zh).filter λa=>(H a).isSome
def iG(h:fy)(H:Hp):fy:=G' h (JD h H)
theorem Ny(h:fy)(H:Hp):(iG h H).objs.size=?zh:=W.hideAll_size _ _
theorem sK{o:hg}(e:h.get? b=O o)(n:H b=bd):(iG h H).get? b=O o:=
 I4 _ e λa=>by
  have q:=(en.mp a).2
  simp_all
theorem UU{o:hg}(e:(iG h H).get? b=O o):h.get? b=O o/\H b=bd:=by
 have a:=Jr (JD h H) e;refine(a,?_);cases q:H b with
 |none=>rfl
 |some x=>
  have c:b∈JD h H:=en.mpr (el.mpr (b6 a),by simp[q]);have z:(iG h H).get? b=bd:=W.hideAll_none (JD h H) c
  grind
def NT(g h:fy)(Af:a_):U (a_×hg):=(da ?zh).filterMap λa=>if a=Af\/(g.get? a).isSome=bm then bd else (h.get? a).map λo=>(zzq a o)
def bU(g h:fy)(Af d:a_):U (a_×hg):=(NT g h Af).filter λp=>decide (p.1≠d)
structure Mod(K:bI)(mg:c3->b5 b0)(base:fy):Prop where
 kin:K.In base
 glob:base.Ns h7 mg
 blt:∃mb,base.Ns qV mb/\∀x:c3,x ≠ "__name__" -> mb x=ln x
 nolimit:base.NoLimit
structure Cx where
 prog:f0
 w:gl
 K:bI
 mg:c3->b5 b0
 base:fy
 A:hB
 N:U c3
 s₀:b'
 H₀:Hp
 env:u2
 outer:U u2
 stack:U u2
 ex:U a_
 fn:c3->eg
 calm:eg
 pn:U (a_×hg)
 xe:b0->b'->Prop
variable{X:Cx}
noncomputable def r8(l:U u2):U a_:=l.filterMap (·.frame)
abbrev Cx.fs(X:Cx):U a_:=r8 X.11
def I2(sc:oI)(x:c3):Prop:=sc.names.lookup x=O .local\/sc.names.lookup x=O .cell\/sc.names.lookup x=O .free
def Loc(sc:oI)(x:c3):Prop:=sc.names.lookup x=O .local\/sc.names.lookup x=O .cell
def vP(env:u2)(h:fy)(m:c3->b5 b0)(x:c3)(u:b0):Prop:=
 (env.kindOf x=O .local/\m x=O u)\/((env.kindOf x=O .cell\/env.kindOf x=O .free)/\∃c,env.cells.lookup x=O c/\h.IsCell c (O u))
structure Cx.Ok(X:Cx):Prop where
 mod:Mod X.K X.4 X.5
 kind:X.env.scope.1 = .function
 glob:X.env.3=h7
 blt:X.env.9=qV
 above:X.s₀.heap.objs.size<=X.env.2
 inj:∀x y c,X.env.cells.lookup x=O c->X.env.cells.lookup y=O c->x=y
 has:∀x,(X.env.kindOf x=O .cell\/X.env.kindOf x=O .free)->∃c,X.env.cells.lookup x=O c
 cab:∀x c,X.fn x=bm->X.env.cells.lookup x=O c->X.s₀.heap.objs.size<=c
 hd:X.15=bm->X.A.1=bd
 frames:X.A.3=O X.12
 stk:X.12=X.11\/(X.12=X.10::X.11/\X.env.8=O X.env.2)
 exf:∀b∈X.ex,b≠X.env.2/\∀x c,X.env.cells.lookup x=O c->c≠b
 bs:∀b o,X.base.get? b=O o->X.s₀.heap.get? b=O o/\X.H₀ b=bd
 bsz:X.base.objs.size<=X.s₀.heap.objs.size
 noex:∀b o,X.base.get? b=O o->b∉X.ex
 exfs:∀b∈X.ex,b∉X.fs
 funs:X.s₀.heap.FunFrames X.5 X.11
 frf:∀b∈X.fs,X.H₀ b=bd
structure Inv(X:Cx)(pins:U (a_×hg))(σ:U (b5 V))(H:Hp)(s:b'):Prop where
 ok:X.Ok
 os:s.5=X.s₀.5
 bare:qW s.2
 base:Un X.fs X.ex X.9 H X.s₀.1 s.1
 loc:∃m,s.heap.Ns X.env.2 m/\∀(i:b8)(x:c3)(v:V),X.N[i]?=O x->σ[i]?=O (O v)->I2 X.env.1 x->∃u,aB v u/\vP X.10 s.1 m x u
 cell:∀x c,X.env.cells.lookup x=O c->∃v,s.heap.IsCell c v
 free:H X.env.2=bd
 freeC:∀x c,X.env.cells.lookup x=O c->H c=bd
 pin:∀p∈X.pn++pins,s.heap.get? p.1=O p.2/\H p.1=bd/\p.1≠X.env.2/\p.1∉X.fs/\∀v,p.2.data≠.cell v
 hok:oH X.1 X.w H s.1
 len:σ.length=X.N.length
section
variable{f:U (b5 V)}
theorem Cx.Ok.nofr(ok:X.Ok){o:hg}(e:X.base.get? b=O o):b∉X.fs:=λa=>by
 have:=(ok.funs.mem a).1
 grind
theorem Inv.bs(I:Inv X g f H s):∀b o,X.base.get? b=O o->s.heap.get? b=O o/\H b=bd:=λb o e=>
 (I.base.keep b o (I.ok.bs b o e).1 (I.ok.bs b o e).2 (I.ok.nofr e) (I.ok.noex b o e),I.base.free b o (I.ok.bs b o e).1 (I.ok.bs b o e).2 (I.ok.noex b o e))
theorem Inv.bk(I:Inv X g f H s):∀b o,X.base.get? b=O o->s.heap.get? b=O o:=λb o e=>(I.bs b o e).1
theorem Inv.mod(I:Inv X g f H s):Mod X.K X.4 X.5:=I.ok.1
theorem Inv.kIn(I:Inv X g f H s):X.K.In s.1:=I.ok.mod.kin.keeps I.bk
theorem Inv.nolimit(I:Inv X g f H s):s.heap.NoLimit:=I.ok.mod.nolimit.keeps I.bk
theorem Inv.fr(I:Inv X g f H s):∃m,Fr X.5 X.env.2 s.1 m:=
 let⟨m,a,_⟩:=I.5
 (m,a,I.bk,ce I.ok.14 I.ok.5)
theorem Inv.lt(I:Inv X g f H s):X.env.2<?ss:=by let(_,a,_):=I.5;exact a.lt
theorem Inv.sz(I:Inv X g f H s):?sX.s₀<=?ss:=ce I.ok.5 (dn I.lt)
theorem Inv.nofs(I:Inv X g f H s)(h:?ss<=a):a∉X.fs:=λb=>by
 let(_,o,c,_):=I.ok.funs.mem b;exact cx (c2 (b6 c) (ce I.sz h)) (fS _)
theorem Inv.cne(I:Inv X g f H s):∀x c,X.env.cells.lookup x=O c->c≠X.env.2:=λx c e z=>by
 let(v,o,a,hd):=I.cell x c e;let(m,(d,es,ep,a,b,_),_):=I.5
 grind
theorem Inv.funs(I:Inv X g f H s):s.heap.FunFrames X.5 X.11:=by
 have all:∀(l),(∀b∈r8 l,b∈X.fs)->X.s₀.heap.FunFrames X.5 l->s.heap.FunFrames X.5 l:=by
  intro l;induction l with
  |nil=>intro _ _;trivial
  |cons env r h=>
   intro d c;let(j,(Af,o,a,m,n,hd),p):=c;have c:=d Af (by delta r8;simp only[rr,a];exact ea);let(sl,e):=I.base.slot Af o n (I.ok.frf Af c) c λz=>I.ok.exfs Af z c;exact(j,(Af,_,a,m,e,hd),h (λb c=>d b (by delta r8;simp only[rr,a];exact dz _ c)) p)
 exact all X.11 (λ_ c=>c) I.ok.17
theorem Inv.stack(I:Inv X g f H s):s.heap.FunFrames X.5 X.12:=by
 rcases I.ok.11 with e |⟨e,a⟩
 ·rw[e];exact I.funs
 ·rw[e];let(m,b,_):=I.5;refine .cons (by rw[I.ok.2];decide) a b ?_ I.funs;exact kl (ce I.ok.14 I.ok.5)
theorem Inv.stkSub(I:Inv X g f H s):∀b∈r8 X.12,b∈X.env.2::X.fs:=λb a=>by
 rcases I.ok.11 with e |⟨e,c⟩
 ·simp_all
 ·rw[e]at a
  delta r8 at a
  simp only[rr,c]at a;exact a
theorem Inv.stkFree(I:Inv X g f H s):∀b∈r8 X.12,H b=bd:=λb a=>by
 rcases bG.mp (I.stkSub b a) with e |a
 ·exact e ▸ I.7
 ·let(_,o,c,_):=I.ok.funs.mem a;exact I.base.free b o c (I.ok.frf b a) λz=>I.ok.exfs b z a
theorem Inv.step(I:Inv X g f H s)(h:∀b∈ch,(b∈X.ex\/?sX.s₀<=b)/\b≠X.env.2/\(∀x c,X.env.cells.lookup x=O c->c≠b)/\∀p∈X.pn++g,p.1≠b)(keep:∀b o,b≠X.env.2->b∉X.fs->b∉ch->s.heap.get? b=O o->H b=bd->h'.get? b=O o)(A:∀b o,b≠X.env.2->b∈X.fs->b∉ch->s.heap.get? b=O o->H b=bd->∃sl,h'.get? b=O { o with slots:=sl })(free:∀b o,b∉ch->s.heap.get? b=O o->H b=bd->N b=bd)(there:∀b o,b∉ch->s.heap.get? b=O o->∃E,h'.get? b=O E)(G:∀b B,H b=O (.tup B)->N b=O (.tup B))(J:∀b o u,H b=O (.frz o u)->N b=O (.frz o u))(K:∀b ps,H b=O (.tbl ps)->∃a,N b=O (.tbl (ps++a)))(ns:∀m,s.heap.Ns X.env.2 m->h'.Ns X.env.2 m)(M:oH X.1 X.w N h')(Q:qW g'):
  Inv X g f N { s with heap:=h',gens:=g',drawn:=d',toks:=t' }:=by
 have L:∀b o,X.s₀.heap.get? b=O o->b≠X.env.2:=λb o e=>cb (c2 (b6 e) I.ok.5);have y:∀b o,X.s₀.heap.get? b=O o->b∉X.ex->b∉ch:=λb o e a C=>by
  rcases (h b C).1 with z |z
  ·exact a z
  ·exact cx (c2 (b6 e) z) (fS _)
 have j:∀x c,X.env.cells.lookup x=O c->∀v,s.heap.IsCell c v->h'.IsCell c v:=by
  rintro x c e v ⟨o,D,hd⟩;have w:=λz=>(h c z).2.2.1 x c e Y;by_cases P:c∈X.fs
  ·let(sl,q):=A c o (I.cne x c e) P w D (I.freeC x c e);exact(_,q,hd)
  ·exact(o,keep c o (I.cne x c e) P w D (I.freeC x c e),hd)
 refine(I.1,I.2,Q,(λb o e n C a=>?_,λb o e n C a=>?_,λb o e n a=>?_,λb o e a=>?_,λb B e=>G b B (I.base.tups b B e),λb o B e=>J b o B (I.base.frzs b o B e),λb ps e=>?_),?_,λx c e=>?_,?_,λx c e=>?_,λp P=>?_,M,I.11)
 ·exact keep b o (L b o e) C (y b o e a) (I.base.keep b o e n C a) (I.base.free b o e n a)
 ·let(sl,e1):=I.base.slot b o e n C a;let(J,G):=A b _ (L b o e) C (y b o e a) e1 (I.base.free b o e n a);exact(J,G)
 ·let(E,e1):=I.base.there b o e a;exact free b E (y b o e a) e1 (I.base.free b o e n a)
 ·let(E,e1):=I.base.there b o e a;exact there b E (y b o e a) e1
 ·let(a,e1):=I.base.tbls b ps e;let(J,G):=K b _ e1;exact(a++J,by rw[G,EE])
 ·let(m,a,J):=I.5;refine(m,ns m a,λi x v e1 G y=>?_);let(u,r,l):=J i x v e1 G y;refine(u,r,?_);rcases l with l |⟨k,c,e,z⟩
  ·exact .inl l
  ·exact .inr (k,c,e,j x c e _ z)
 ·let(v,z):=I.cell x c e;exact(v,j x c e v z)
 ·let(m,(o,_,_,D,_),_):=I.5;exact free _ o (λz=>(h _ z).2.1 Y) D I.7
 ·let(v,o,D,hd):=I.cell x c e;exact free c o (λz=>(h c z).2.2.1 x c e Y) D (I.freeC x c e)
 ·let(e,n,ne,a,d):=I.pin p P;have w:=λz=>(h p.1 z).2.2.2 p P Y;exact(keep p.1 p.2 ne a w e n,free p.1 p.2 w e n,ne,a,d)
theorem Inv.un(I:Inv X g f H s)(u:Un X.fs [] H N s.1 h')(c:oH X.1 X.w N h'):Inv X g f N { s with heap:=h',toks:=t' }:=by
 let(m,(o,es,ep,j,r),_):=id I.5;let(sl,p):=u.any j I.7 ?s;exact I.step (g':=s.2) (d':=s.3) (ch:=[]) (λ_ z=>nomatch z) (λb o _ a _ e n=>u.keep b o e n a ?s) (λb o _ a _ e n=>u.slot b o e n a ?s) (λb o _ e n=>u.free b o e n ?s) (λb o _ e=>u.there b o e ?s) u.5 u.6 u.7 (λa q=>by
  let(w,d,h,a,v):=q;rw[j]at a;cases a;exact(_,d,h,p,v)) c I.3
theorem Inv.call(I:Inv X g f H s)(u:Un (r8 X.12) ch H N s.1 h')(d:oH X.1 X.w N h')(w:qW g')(a:∀b∈ch,(b∈X.ex\/?sX.s₀<=b)/\b≠X.env.2/\(∀x c,X.env.cells.lookup x=O c->c≠b)/\∀p∈X.pn++g,p.1≠b):
  Inv X g f N { s with heap:=h',gens:=g',drawn:=d',toks:=t' }:=by
 let(m,(o,es,ep,v,r),_):=id I.5;let(sl,h):=u.any v I.7 λz=>(a _ z).2.1 Y;exact I.step a (λb o h j a e n=>u.keep b o e n (λz=>(bG.mp (I.stkSub b z)).elim h j) a) (λb o _ _ a e n=>u.any e n a) (λb o a e n=>u.free b o e n a) (λb o a e=>u.there b o e a) u.5 u.6 u.7 (λa y=>by
  let(B,j,q,a,A):=y;rw[v]at a;cases a;exact(_,j,q,h,A)) d w
theorem Inv.turned(I:Inv X g f H s)(k:∀b o,b≠it->s.heap.get? b=O o->h'.get? b=O o)(j:H it=bd)(h:it≠X.env.2)(h1:it∈X.ex\/?sX.s₀<=it)(h2:∀x c,X.env.cells.lookup x=O c->c≠it)(j:∀p∈X.pn++g,p.1≠it):Inv X g f H { s with heap:=h',toks:=t' }:=by
 have d:∀b u,H b=O u->b≠it:=λb u e z=>by grind
 refine I.step (g':=s.2) (d':=s.3) (ch:=[it]) (λb w=>?_) (λb o _ _ a e _=>k b o (λz=>a (by simp[z])) e) (λb o _ _ a e _=>(o.4,k b o (λz=>a (by simp[z])) e)) (λ_ _ _ _ n=>n)
  (λb o a e=>(o,k b o (λz=>a (by simp[z])) e)) (λ_ _ e=>e) (λ_ _ _ e=>e) (λb ps e=>(#[],?x)) (λm y=>?_) (λb u e=>?_) I.3
 ·have e:b=it:=by simpa using w
  subst e;exact(h1,h,h2,j)
 ·let(o,es,ep,j,r):=y;exact(o,es,ep,k _ o (fU h) j,r)
 ·refine (I.hok b u e).stay (λc v a q=>k c v ?_ q) (λ_ q=>q) λ_ _ q=>q;rcases a with z |z
  ·exact z ▸ (d b u e)
  ·exact d c _ z
theorem Inv.tok(I:Inv X g f H s)(t:b8):Inv X g f H { s with toks:=t }:=I.un (h':=s.1) (t':=t) Un.refl I.10
theorem Inv.kept{t':b8}(I:Inv X g f H s)(k:∀b u,s.heap.get? b=O u->h'.get? b=O u):Inv X g f H { s with heap:=h',toks:=t' }:=I.un (Un.kept k) (I.hok.kept k)
theorem Inv.laid{a:a_}{o:HO}{t':b8}(I:Inv X g f H s)(k:∀b u,s.heap.get? b=O u->h'.get? b=O u)(c:?ss<=a)(new:bo X.1 X.w (upd H a o) h' a o):
  Inv X g f (upd H a o) { s with heap:=h',toks:=t' }:=I.un (Un.laid k c (I.hok.fresh c)) (I.hok.laid k c new)
theorem Inv.write{x e:a_}{o:HO}{t':b8}(I:Inv X g f H s)(c:Jk (H x))(d:e=x\/H e=O (.own x))(k:∀b u,b≠e->s.heap.get? b=O u->h'.get? b=O u)(a:∃u,h'.get? e=O u)(new:bo X.1 X.w (upd H x o) h' x o):Inv X g f (upd H x o) { s with heap:=h',toks:=t' }:=I.un (Un.write c d k a) (I.hok.write c d k a new)
theorem Inv.weak{a:U (b5 V)}(I:Inv X g f H s)(b:?la=?lf)(w:∀(i:b8) v,a[i]?=O (O v)->f[i]?=O (O v)):Inv X g a H s:=
 (I.1,I.2,I.3,I.4,let⟨m,c,a⟩:=I.5;(m,c,λi x v e1 d e=>a i x v e1 (w i v d) e),I.6,I.7,I.8,I.9,I.10,b.trans I.11)
theorem Inv.pins_of(I:Inv X g f H s)(h:∀p∈pins',s.heap.get? p.1=O p.2/\H p.1=bd/\p.1≠X.env.2/\p.1∉X.fs/\∀v,p.2.data≠.cell v):Inv X pins' f H s:=
 (I.1,I.2,I.3,I.4,I.5,I.6,I.7,I.8,λp a=>(ek.mp a).elim (λz=>I.pin p (hh _ z)) (h p),I.10,I.11)
theorem eY(c:Ae.Nodup){i:b8}(a:Ae[i]?=O x)(b:Ae[j]?=O x):i=j:=by
 let(h1,e1):=bg.mp a;let(h2,d):=bg.mp b;exact (FG c).mp (e1.trans ?yd)
theorem LK{i:b8}{v:V}{Q:Gc->b'->Prop}(I:Inv X g f H s)(A9:X.N.Nodup)(hi:X.N[i]?=O x)(C:Loc X.env.1 x)(r:aB v u)(h:∀s',Inv X g (f.set i (O v)) H s'->(∃a,gS a s.1 s'.1/\(a=X.env.2\/X.env.cells.lookup x=O a))->Q () s')(N:zzp (X.fn x=bm\/X.env.scope.names.lookup x=O .local) zz3):dy M Aa (HU X.10 x u) Q on s:=by
 let(m,T,AA):=id I.5;have J:(X.env.scope.1 == .class || (X.env.scope.1 == .module && X.env.2 !=X.env.3))=b1:=by rw[I.ok.2];rfl
 have E:i<?lf:=by rw[I.11];exact (bg.mp hi).1
 have cne:=I.cne;have A:∀{a:a_}{h':fy},(∃o,s.heap.get? a=O o/\H a=bd)->gS a s.1 h'->oH X.1 X.w H h':=λ{a h'} K w b L e=>by
  let(_,_,D):=K;refine (I.hok b L e).stay (λc S B q=>(w.2 c ?_).trans q) (λ_ q=>q) λ_ _ q=>q;rintro rfl;rcases B with rfl |B
  ·rw[D]at e;cases e
  ·rw[D]at B;cases B
 rcases C with G |G
 ·refine FH G T (λh' K w=>?_) J;let(P,_,_,L,_):=id T;refine h _ (I.1,I.2,I.3,(λb o e n J C=>?_,λb o e n J C=>?_,I.base.3,λb o e C=>?_,I.base.5,I.base.6,I.base.7),(_,K,λj y Z e1 D A3=>?_),λy c e=>?_,I.7,I.8,λp A4=>?_,A (P,L,I.7) w,by simpa using I.11) (_,w,.inl Y)
  ·exact (w.2 b (cb (c2 (b6 e) I.ok.5))).trans (I.base.keep b o e n J C)
  ·let(sl,e1):=I.base.slot b o e n J C;exact(sl,(w.2 b (cb (c2 (b6 e) I.ok.5))).trans e1)
  ·let(A5,e1):=I.base.there b o e C;exact(A5,(w.2 b (cb (c2 (b6 e) I.ok.5))).trans e1)
  ·by_cases K:j=i
   ·subst K;rw[hi]at e1;cases e1;rw[pF E]at D;cases D;exact(u,r,.inl (G,?s))
   ·rw[m1 (fU K)]at D;let(A6,A7,q):=AA j y Z e1 D A3;refine(A6,A7,?_);rcases q with⟨k,e⟩ |⟨k,c,e,z⟩
    ·refine .inl (k,?_);have:y≠x:=λe=>K (eY A9 e1 (e ▸ hi));simp[this,e]
    ·exact .inr (k,c,e,z.sameBut w (cne y c e))
  ·let(S,z):=I.cell y c e;exact(S,z.sameBut w (cne y c e))
  ·let(e,n,ne,A8,d):=I.pin p A4;exact((w.2 p.1 ne).trans e,n,ne,A8,d)
 ·have L:X.fn x=bm:=by
   rcases N with z |z
   ·exact z
   ·rw[z]at G;cases G
  let(c,B):=I.ok.has x (.inl G);let(S,z):=I.cell x c B;refine Ge I.ok.2 G B z (λh' N w=>?_);let(oc,P,R):=id z;refine h { s with heap:=h' } (I.1,I.2,I.3,(λb o e n J C=>?_,λb o e n J C=>?_,I.base.3,λb o e C=>?_,I.base.5,I.base.6,I.base.7),(m,T.sameBut w (fU (cne x c B)),λj y Z e1 D A3=>?_),λy c' e=>?_,I.7,I.8,λp A4=>?_,A (oc,P,I.freeC x c B) w,by simpa using I.11) (c,w,.inr B)
  ·exact (w.2 b (cb (c2 (b6 e) (I.ok.cab x c L B)))).trans (I.base.keep b o e n J C)
  ·let(sl,e1):=I.base.slot b o e n J C;exact(sl,(w.2 b (cb (c2 (b6 e) (I.ok.cab x c L B)))).trans e1)
  ·let(A5,e1):=I.base.there b o e C;exact(A5,(w.2 b (cb (c2 (b6 e) (I.ok.cab x c L B)))).trans e1)
  ·by_cases K:j=i
   ·subst K;rw[hi]at e1;cases e1;rw[pF E]at D;cases D;exact(u,r,.inr (.inl G,c,B,N))
   ·rw[m1 (fU K)]at D;let(A6,A7,q):=AA j y Z e1 D A3;refine(A6,A7,?_);rcases q with q |⟨k,c',e,D⟩
    ·exact .inl q
    ·refine .inr (k,c',e,D.sameBut w ?_);rintro rfl;exact K (eY A9 e1 (I.ok.inj _ _ _ e B ▸ hi))
  ·by_cases D:c'=c
   ·subst D;exact(_,N)
   ·let(K,L):=I.cell y c' e;exact(K,L.sameBut w D)
  ·let(e,n,ne,A8,d):=I.pin p A4;refine((w.2 p.1 ?_).trans e,n,ne,A8,d);intro q;rw[q,P]at e;exact d S (by exact (c_ e) ▸ R)
theorem nh{i:b8}{v:V}{Q:Gc->b'->Prop}(I:Inv X g f H s)(a:X.N.Nodup)(hi:X.N[i]?=O x)(b:Loc X.env.1 x)(r:aB v u)(h:∀s',Inv X g (f.set i (O v)) H s'->Q () s')(c:zzp (X.fn x=bm\/X.env.scope.names.lookup x=O .local) zz3):dy M Aa (HU X.10 x u) Q on s:=
 LK I a hi b r (λs' a _=>h s' a) c
theorem Inv.call'(I:Inv X g f H s)(h:s'.5=s.5)(u:Un (r8 X.12) ch H N s.1 s'.1)(a:oH X.1 X.w N s'.1)(j:qW s'.2)(d:∀b∈ch,(b∈X.ex\/?sX.s₀<=b)/\b≠X.env.2/\(∀x c,X.env.cells.lookup x=O c->c≠b)/\∀p∈X.pn++g,p.1≠b):Inv X g f N s':=by
 let(h',g',d',t',m):=s';have e:=h;subst e;exact I.call (g':=g') (t':=t') (d':=d') u a j d
end
abbrev XK:=b0->b5 a_->Hp->Prop
abbrev St:=U (b5 V)
variable{A:St}
abbrev VK:=V->Hp->Prop
variable{r':V->U V->Hp->VK->Prop}
abbrev TE:=St->Hp->VK->Prop
variable{ta td te ti tl to tv:TE}
abbrev TT:=St->Hp->(eg->Hp->Prop)->Prop
variable{tc:TT}
abbrev TA:=St->Hp->(U V->Hp->Prop)->Prop
structure fJ where
 nx:St->Hp->Prop
 rt:VK
 bk:St->Hp->Prop:=λ_ _=>fP
 ct:St->Hp->Prop:=λ_ _=>fP
variable{D:fJ}
abbrev TS:=fJ->St->Hp->Prop
variable{tb:TS}
inductive EP(X:Cx)(g:U (a_×hg))(A:St)(Q:VK)(u:b0)(s':b'):Prop
 |i(v N:_)(_:Inv X g A N s')(_:aB v u)(_:Q v N)
inductive TP(X:Cx)(g:U (a_×hg))(A:St)(Q:eg->Hp->Prop)(b:eg)(s':b'):Prop
 |i(N:_)(_:Inv X g A N s')(_:Q b N)
inductive AP(X:Cx)(g:U (a_×hg))(A:St)(Q:U V->Hp->Prop)(us:U b0)(s':b'):Prop
 |i(vs N:_)(_:Inv X g A N s')(_:az vs us)(_:Q vs N)
def SP(X:Cx)(g:U (a_×hg))(D:fJ)(f:Flow)(s':b'):Prop:=
 match f with
 |.next=>∃a N,Inv X g a N s'/\D.nx a N
 |.brk=>∃a N,Inv X g a N s'/\D.bk a N
 |.cont=>∃a N,Inv X g a N s'/\D.ct a N
 |.ret u=>∃v a N,Inv X g a N s'/\aB v u/\D.rt v N
def PE(X:Cx)(e:f3)(t:TE):Prop:=
 ∀(g:U (a_×hg))(s:b')(A:St)(H:Hp)(Q:VK),Inv X g A H s->t A H Q->dy ?m X.A (eval e X.10) (EP X g A Q) X.xe s
def PT(X:Cx)(e:f3)(t:TT):Prop:=
 ∀(g:U (a_×hg))(s:b')(A:St)(H:Hp)(Q:eg->Hp->Prop),Inv X g A H s->t A H Q->dy ?m X.A (isTrue e X.10 (eval e X.10)) (TP X g A Q) X.xe s
def PW(X:Cx)(e:f3)(t:TT):Prop:=
 ∀(a:HS b0)(g:U (a_×hg))(s:b')(A:St)(H:Hp)(Q:eg->Hp->Prop),Inv X g A H s->t A H Q->dy ?m X.A (isTrue e X.10 a) (TP X g A Q) X.xe s
theorem PW.pt{t:TT}(h:PW X e t):PT X e t:=h _
def PA(X:Cx)(es:U f3)(t:TA):Prop:=
 ∀(pos:FF)(g:U (a_×hg))(s:b')(A:St)(H:Hp)(Q:U V->Hp->Prop),Inv X g A H s->t A H Q->dy ?m X.A (spliced (gx pos (cH es X.10))) (AP X g A Q) X.xe s
def PS(X:Cx)(st:eo)(t:TS):Prop:=
 ∀(g:U (a_×hg))(s:b')(A:St)(H:Hp)(D:fJ),Inv X g A H s->t D A H->dy ?m X.A (exec st X.10) (SP X g D) X.xe s
def t2(X:Cx)(st:U eo)(t:TS):Prop:=
 ∀(g:U (a_×hg))(s:b')(A:St)(H:Hp)(D:fJ),Inv X g A H s->t D A H->dy ?m X.A (execs st X.10) (SP X g D) X.xe s
theorem gv{t:HS α}{Q b:α->b'->Prop}(h:dy M Aa t Q on s)(c:∀a s,Q a s->b a s):dy M Aa t b on s:=ew h c λ_ _ x=>x
section
theorem bin{a b:f3}{tb:TE}(e:PE X a ta)(j:PE X b tb){R:V->V->Hp->Prop}(I:Inv X g A H s)(h:ta A H λx H1=>tb A H1 λy H2=>R x y H2){Q:α->b'->Prop}{f:b0->b0->HS α}(m:∀v u s2 x y H2,Inv X g A H2 s2->aB x v->aB y u->R x y H2->dy ?m X.A (f v u) Q X.xe s2):
    dy ?m X.A (eval a X.10) (λv c=>dy ?m X.A (eval b X.10) (λu d=>dy ?m X.A (f v u) Q X.xe d) X.xe c) X.xe s:=by
  refine gv (e g s A H _ I h) λv s1 ⟨x,H1,c,d,e⟩=>?_;refine gv (j g s1 A H1 _ c e) λu s2 ⟨y,H2,c,e,j⟩=>?_;exact m v u s2 x y H2 c d e j
inductive cn(i:b8)(A:St)(H:Hp)(Q:VK):Prop
 |i(v:_)(_:A[i]?=O (O v))(_:Q v H)
def tC(v:V):TE:=λ_ H Q=>Q v H
theorem zt{i:b8}(a:X.N[i]?=O x)(b:I2 X.env.1 x)(hd:zzp ((x ==("__debug__" : c3))=b1) zz1)(d:zzp ((x ==("__classdict__" : c3))=b1) zz1):PE X (.Name x pos) (cn i):=by
 intro g s A H Q I h;let(v,e,h):=h;let(m,j,f):=I.5;let(u,r,l):=f i x v a e b;have fin:EP X g A Q u s:=(v,H,I,r,h)
 rcases l with⟨b,n⟩ |⟨b,c,f,a⟩
 ·exact Ha (Gf I.ok.2 b j n fin) hd
 ·rcases b with b |b
  ·exact Ha (GA I.ok.2 b f a fin) hd
  ·exact Ha (wpAny_loadName_free I.ok.2 b f a fin d) hd
theorem ah{i j pos}:PE X (.Constant (.int i) j pos) (tC (.int i)):=λ_ _ _ H _ I h=>wpAny_Constant_int (.int i,H,I.tok _,⟨_,Y⟩,h)
theorem di{b j pos}:PE X (.Constant (.bool b) j pos) (tC (.bl b)):=λ_ _ _ H _ I h=>Constant_bool (.bl b,H,I,Y,h)
theorem a9{j pos}:PE X (.Constant .none j pos) (tC .non):=λ_ _ _ H _ I h=>Constant_none (.non,H,I,Y,h)
theorem au{x j pos}:PE X (.Constant (.str x) j pos) (tC (.str x)):=λ_ _ _ H _ I h=>Calls.Constant_str (.str x,H,I.tok _,⟨_,Y⟩,h)
def Gl(X:Cx)(x:c3):Prop:=X.env.kindOf x=O .globalImplicit
theorem gC(I:Inv X g A H s)(a:Gl X x)(b:X.mg x=O u)(h:Q u s)(hd:zzp ((x ==("__debug__" : c3))=b1) zz1):dy ?m X.A (eval (.Name x pos) X.10) Q on s:=
 u3 I.ok.2 a (Calls.loadGlobal_global (by exact I.ok.3 ▸ (I.mod.glob.keeps I.bk)) b h) hd
theorem df(I:Inv X g A H s)(a:Gl X x)(b:X.mg x=bd)(c:ln x=O u)(h:Q u s)(d:zzp (x ≠ "__name__" ) zz1)(hd:zzp ((x ==("__debug__" : c3))=b1) zz1):dy ?m X.A (eval (.Name x pos) X.10) Q on s:=by
 let(e,h1,h2):=I.mod.3;exact u3 I.ok.2 a (Calls.loadGlobal_builtin (by rw[I.ok.3];exact I.mod.glob.keeps I.bk) b (by rw[I.ok.4];exact h1.keeps I.bk) ((h2 x d).trans c) h) hd
theorem zq{v:V}(a:Gl X x)(b:X.mg x=O u)(r:aB v u)(hd:zzp ((x ==("__debug__" : c3))=b1) zz1):PE X (.Name x pos) (tC v):=
 λ_ _ _ H _ I h=>gC I a b (v,H,I,r,h) hd
theorem QR{v:V}(a:Gl X x)(b:X.mg x=bd)(c:ln x=O u)(r:aB v u)(d:zzp (x ≠ "__name__" ) zz1)(hd:zzp ((x ==("__debug__" : c3))=b1) zz1):PE X (.Name x pos) (tC v):=
 λ_ _ _ H _ I h=>df I a b c (v,H,I,r,h) d hd
variable{a b:f3}{n:TE}
def PC(X:Cx)(op:CmpOp)(a b:f3)(t:TE):Prop:=
 ∀(g:U (a_×hg))(s:b')(A:St)(H:Hp)(Q:VK),Inv X g A H s->t A H Q->
  dy ?m X.A (eval a X.10) (λv c=>dy ?m X.A (eval b X.10) (λu d=>dy ?m X.A (eT op v u) (EP X g A Q) X.xe d) X.xe c) X.xe s
theorem yS(b:f3)(h:op≠.In)(h2:op≠.NotIn):h8 op b=b1:=by
 have e1:(op ==Js)=b1:=by cases op <;> first |rfl |exact cx Y h
 have a:(op ==H8)=b1:=by cases op <;> first |rfl |exact cx Y h2
 cases b <;> simp[h8,e1,a]
inductive Qk(Q:eg->Hp->Prop)(x:V)(H1:Hp):Prop
 |i(c:_)(_:x = .bl c)(_:Q c H1)
def tB(t:TE):TT:=λA H Q=>t A H λx H1=>Qk Q x H1
theorem T2{t:TE}(h:PC X op a b t)(h1:h8 op b=b1:=by first |exact yS _ ?a ?a |rfl):PE X (.Compare a [op] [b] pos) t:=λg s A H Q I c=>Jt (h g s A H Q I c) h1
theorem um{t:TE}(h:PC X op a b t)(h1:h8 op b=b1:=by first |exact yS _ ?a ?a |rfl):PT X (.Compare a [op] [b] pos) (tB t):=by
 intro g s A H Q I e;refine FI (gv (h g s A H _ I e) λv s1 h1=>gv h1 λu s2 h2=>gv h2 λc m ⟨x,H1,e,f,j⟩=>?_) h1;let(d,Y,q):=j;cases f;exact gd (H1,e,q)
theorem bY{t:TE}(h:PE X e t)(b:zzp (∀a,isTrue e X.10 a=(do let v <-a;pU e.pos;ms [v] (Fi v))) zz2):PT X e (tB t):=by
 intro g s A H Q I a;refine Fj (gv (h g s A H _ I a) λv s1 ⟨x,H1,a,c,f⟩=>?_) (b _);let(d,Y,q):=f;cases c;exact gd (H1,a,q)
variable{p w:TT}{z:U f3}
def Mo(t u:TT):TT:=λA H Q=>t A H λc H1=>if c=bm then u A H1 Q else Q b1 H1
def My(t u:TT):TT:=λA H Q=>t A H λc H1=>if c=bm then Q bm H1 else u A H1 Q
def Ll(t:TT):TT:=λA H Q=>t A H λc H1=>Q (!c) H1
theorem jQ(b:PT X a p):PW X (.BoolOp .And [a] pos) p:=by
 intro d g s A H Q I h;refine Τ (gv (b g s A H Q I h) λc s1 e=>?_);cases c with
 |true=>exact isTrue_and_nil e
 |false=>exact e
theorem fB(b:PT X a p):PW X (.BoolOp .Or [a] pos) p:=by
 intro d g s A H Q I h;refine isTrue_or (gv (b g s A H Q I h) λc s1 e=>?_);cases c with
 |false=>exact isTrue_or_nil e
 |true=>exact e
theorem je(d:PT X a p)(f:PW X (.BoolOp .And (b::z) pos) w):PW X (.BoolOp .And (a::b::z) pos) (Mo p w):=by
 intro j g s A H Q I h;refine Τ (gv (d g s A H _ I h) λc s1 ⟨H1,d,e⟩=>?_);cases c with
 |true=>exact f j g s1 A H1 Q d e
 |false=>exact(H1,d,e)
theorem fc(d:PT X a p)(f:PW X (.BoolOp .Or (b::z) pos) w):PW X (.BoolOp .Or (a::b::z) pos) (My p w):=by
 intro j g s A H Q I h;refine isTrue_or (gv (d g s A H _ I h) λc s1 ⟨H1,d,e⟩=>?_);cases c with
 |true=>exact(H1,d,e)
 |false=>exact f j g s1 A H1 Q d e
theorem dQ(b:PT X a p):PT X (.UnaryOp .Not a pos) (Ll p):=by
 intro g s A H Q I h;exact isTrue_not (gv (b g s A H (λc H1=>Q (!c) H1) I h) λc s1 ⟨H1,b,d⟩=>(H1,b,d))
inductive SA(n:TE)(A:St)(Q:VK)(x:V)(H1:Hp):Prop
 |i(c:_)(_:x = .bl c)(_:if c=bm then n A H1 Q else Q (.bl b1) H1)
def OB(ta n:TE):TE:=λA H Q=>ta A H λx H1=>SA n A Q x H1
inductive O3(n:TE)(A:St)(Q:VK)(x:V)(H1:Hp):Prop
 |i(c:_)(_:x = .bl c)(_:if c=bm then Q (.bl bm) H1 else n A H1 Q)
def UI(ta n:TE):TE:=λA H Q=>ta A H λx H1=>O3 n A Q x H1
inductive U1(Q:VK)(x:V)(H1:Hp):Prop
 |i(c:_)(_:x = .bl c)(_:Q (.bl (!c)) H1)
def Y7(ta:TE):TE:=λA H Q=>ta A H λx H1=>U1 Q x H1
theorem d0{op}{t:TE}(h:PE X a t):PE X (.BoolOp op [a] pos) t:=λg s A H Q I b=>BoolOp_one (h g s A H Q I b)
theorem fW(d:PE X a ta)(f:PE X (.BoolOp .And (b::z) pos) n):PE X (.BoolOp .And (a::b::z) pos) (OB ta n):=by
 intro g s A H Q I h;refine BoolOp_and (gv (d g s A H _ I h) λv s1 ⟨x,H1,e,j,d⟩=>?_);let(c,Y,d):=d;cases j;refine gd ?_;cases c with
 |true=>exact f g s1 A H1 Q e d
 |false=>exact(.bl b1,H1,e,Y,d)
theorem pL(d:PE X a ta)(f:PE X (.BoolOp .Or (b::z) pos) n):PE X (.BoolOp .Or (a::b::z) pos) (UI ta n):=by
 intro g s A H Q I h;refine BoolOp_or (gv (d g s A H _ I h) λv s1 ⟨x,H1,e,j,d⟩=>?_);let(c,Y,d):=d;cases j;refine gd ?_;cases c with
 |false=>exact f g s1 A H1 Q e d
 |true=>exact(.bl bm,H1,e,Y,d)
theorem kW(b:PE X a ta):PE X (.UnaryOp .Not a pos) (Y7 ta):=by
 intro g s A H Q I h;refine UnaryOp_ (gv (b g s A H _ I h) λv s1 ⟨x,H1,d,e,b⟩=>?_);let(c,Y,b):=b;cases e;exact not_of (gd (.bl (!c),H1,d,Y,b))
def Ub(t:TT)(ta n:TE):TE:=λA H Q=>t A H λc H1=>if c=bm then ta A H1 Q else n A H1 Q
theorem cT{c:f3}(e:PT X c p)(j:PE X a ta)(m:PE X b n):PE X (.IfExp c a b pos) (Ub p ta n):=by
 intro g s A H Q I h;refine wpAny_IfExp (gv (e g s A H _ I h) λd s1 ⟨H1,e,f⟩=>?_);cases d with
 |true=>exact j g s1 A H1 Q e f
 |false=>exact m g s1 A H1 Q e f
end
def eb(K:bI)(H:Hp)(a:a_)(B:U V):Prop:=
 Rd H a (.lst B)\/
  ∃(o:hg)(J:fK b0)(n:b8),K.lookup a=O o/\o.1 = .type "list" /\ o.2=bd/\o.3 = .seq J n/\?eJ<=bT/\az B J.1
def fx(K:bI)(H:Hp)(a:a_)(B:U V):Prop:=
 Rd H a (.tup B)\/
  ∃(o:hg)(J:fK b0)(n:b8),K.lookup a=O o/\o.1 = .type "tuple" /\ o.3 = .seq J n/\?eJ<=bT/\az B J.1
noncomputable def vV:b0->b5 V
 |.none=>O .non
 |.bool b=>O (.bl b)
 |.int i _=>O (.int i)
 |.str x _=>O (.str x)
 |.bytes b _=>O (.byt b)
 |.float b _=>O (.flt b)
 |.ref a=>O (.ref a)
 |.type n=>O (.ty n)
 |_=>bd
theorem aB.abs{x:V}(r:aB x u):vV u=O x:=by
 cases x with
 |non=>cases r;rfl
 |bl _=>cases r;rfl
 |int _=>let(t,Y):=r;rfl
 |str _=>let(t,Y):=r;rfl
 |byt _=>let(t,Y):=r;rfl
 |flt _=>let(t,Y):=r;rfl
 |ref _=>cases r;rfl
 |ty _=>cases r;rfl
theorem aB.inj{x y:V}{u:b0}(r:aB x u)(q:aB y u):x=y:=c_ (r.abs.symm.trans q.abs)
theorem az.inj{B ys:U V}{us:U b0}(h:az B us)(k:az ys us):B=ys:=by
 induction h generalizing ys with
 |nil=>cases k;rfl
 |cons r t a=>cases k with |cons r' t'=>rw[r.inj r',a t']
theorem eb.of(h:H a=O (.lst B)):eb K H a B:=.inl (.inl h)
theorem fx.of(h:H a=O (.tup B)):fx K H a B:=.inl (.inl h)
theorem Inv.list(I:Inv X g A H s)(h:eb X.K H a B):∃J:U b0,az B J/\PlainL s.1 a ?aJ/\?lB<=bT:=by
 rcases h with h |⟨o,J,n,b,c,hd,d,hz,r⟩
 ·let(z,J,n,r,e):=h.ok I.10;exact(J,r,(_,n,e,Y,Y,Y),z)
 ·refine(J.1,r,(o,n,I.kIn a o b,c,hd,?o),?_);have e:=?lr
  simp_all
theorem Inv.tuple(I:Inv X g A H s)(h:fx X.K H a B):∃J:U b0,az B J/\qA s.1 a ?aJ/\?lB<=bT:=by
 rcases h with h |⟨o,J,n,b,c,d,hz,r⟩
 ·let(z,J,r,p):=h.ok I.10;exact(J,r,p,z)
 ·refine(J.1,r,(o,I.kIn a o b,c,n,?o),?_);have e:=?lr
  simp_all
theorem Inv.list_inj(I:Inv X g A H s)(h:eb X.K H a B)(h':eb X.K H a ys):B=ys:=by
 let(J,r,(o,n,e,_,_,d),_):=I.list h;let(its',r',(c,f,b,_,_,d'),_):=I.list h';rw[e]at b;cases b;rw[d]at d';injection d' with b _
 have:J=its':=by grind
 subst this;exact r.inj r'
theorem Inv.tuple_inj(I:Inv X g A H s)(h:fx X.K H a B)(h':fx X.K H a ys):B=ys:=by
 let(J,r,(o,e,_,n,d),_):=I.tuple h;let(its',r',(c,b,_,f,d'),_):=I.tuple h';rw[e]at b;cases b;rw[d]at d';injection d' with b _
 have:J=its':=by grind
 subst this;exact r.inj r'
abbrev Cx.wish(X:Cx)(on:b0->b'->Prop):Cx:={ X with xe:=on }
abbrev Cx.nox(X:Cx):Cx:=X.wish λ_ _=>fP
theorem Cx.Ok.wish(ok:X.Ok)(on:b0->b'->Prop):(X.wish on).Ok:=
 (ok.1,ok.2,ok.3,ok.4,ok.5,ok.6,ok.7,ok.8,ok.9,ok.10,ok.11,ok.12,ok.bs,ok.14,ok.15,ok.16,ok.17,ok.18)
theorem Cx.Ok.unwish(ok:(X.wish on).Ok):X.Ok:=
 (ok.1,ok.2,ok.3,ok.4,ok.5,ok.6,ok.7,ok.8,ok.9,ok.10,ok.11,ok.12,ok.bs,ok.14,ok.15,ok.16,ok.17,ok.18)
theorem Inv.wish(I:Inv X g A H s)(on:b0->b'->Prop):Inv (X.wish on) g A H s:=(I.ok.wish on,I.2,I.3,I.4,I.5,I.6,I.7,I.8,I.9,I.10,I.11)
theorem Inv.unwish(I:Inv (X.wish on) g A H s):Inv X g A H s:=(I.ok.unwish,I.2,I.3,I.4,I.5,I.6,I.7,I.8,I.9,I.10,I.11)
theorem SP.unwish{D:fJ}{f:Flow}{s':b'}(h:SP (X.wish on) g D f s'):SP X g D f s':=by
 cases f with
 |next=>let(a,N,I,q):=h;exact(a,N,I.unwish,q)
 |brk=>let(a,N,I,q):=h;exact(a,N,I.unwish,q)
 |cont=>let(a,N,I,q):=h;exact(a,N,I.unwish,q)
 |ret u=>let(v,a,N,I,r,q):=h;exact(v,a,N,I.unwish,r,q)
theorem PE.nox{t:TE}(h:PE X.nox e t):PE X e t:=λg s A H Q I a=>
 ew (h g s A H Q (I.wish _) a) (λ_ _ ⟨v,N,a,r,q⟩=>(v,N,a.unwish,r,q)) λ_ _ z=>fb z
theorem PT.nox{t:TT}(h:PT X.nox e t):PT X e t:=λg s A H Q I a=>
 ew (h g s A H Q (I.wish _) a) (λ_ _ ⟨N,a,q⟩=>(N,a.unwish,q)) λ_ _ z=>fb z
theorem t2.nox{st:U eo}{t:TS}(h:t2 X.nox st t):t2 X st t:=λg s A H D I a=>
 ew (h g s A H D (I.wish _) a) (λ_ _ q=>q.unwish) λ_ _ z=>fb z
section
variable{m:U eo}{j u:TS}
def lx:TS:=λD A H=>D.nx A H
def f9(j u:TS):TS:=λD A H=>j { D with nx:=u D } A H
theorem aK:t2 X [] lx:=λ_ _ A H _ I h=>nD (A,H,I,h)
theorem ak(h1:PS X st j)(h2:t2 X m u):t2 X (st::m) (f9 j u):=by
 intro g s A H D I h;refine HV (gv (h1 g s A H { D with nx:=u D } I h) λf s1 q=>?_);cases f with
 |next=>
  let(a,N,b,q):=q;exact h2 g s1 a N D b q
 |ret v=>exact q
 |brk=>exact q
 |cont=>exact q
theorem aj(h1:PS X st j):t2 X [st] j:=by
 intro g s A H D I h;refine HV (gv (h1 g s A H D I h) λf s1 q=>?_);cases f with
 |next=>exact nD q
 |ret v=>exact q
 |brk=>exact q
 |cont=>exact q
theorem Inv.quiet(I:Inv X g A H s):MI X.10=b1:=by simp[MI,I.ok.2]
def M9(te:TE):TS:=λD A H=>te A H λ_ H1=>D.nx A H1
theorem aV(a:PE X e te)(b:zzp (mX e bd pos.1 X.10=hl b1) zz0):PS X (.Expr e pos) (M9 te):=by
 intro g s A H D I h;exact wpAny_Expr_any (gv (a g s A H _ I h) λv s1 ⟨x,H1,a,d,c⟩=>(A,H1,a,c)) I.quiet b
def LI(te:TE):TS:=λD A H=>te A H D.2
theorem ay(a:PE X e te):PS X (.Return (O e) pos) (LI te):=by
 intro g s A H D I h;exact wpAny_Return_some (gv (a g s A H _ I h) λv s1 ⟨x,H1,a,b,c⟩=>(x,A,H1,a,b,c))
def nu(c:TT)(j u:TS):TS:=λD A H=>c A H λb H1=>if b=bm then j D A H1 else u D A H1
theorem aI{c:f3}{a b:U eo}(e:PT X c tc)(m:t2 X a j)(n:t2 X b u):PS X (.If c a b pos) (nu tc j u):=by
 intro g s A H D I h;refine wpAny_If (gv (e g s A H _ I h) λd s1 ⟨H1,e,f⟩=>?_);cases d with
 |true=>exact m g s1 A H1 D e f
 |false=>exact n g s1 A H1 D e f
def XZ:TS:=λ_ _ _=>fP
theorem pQ{a:U eo}:t2 X a XZ:=λ_ _ _ _ _ _ h=>h.elim
end
abbrev TG:=V->St->Hp->(St->Hp->Prop)->Prop
variable{Ac:TG}
abbrev HP:=U V->St->Hp->(St->Hp->Prop)->Prop
def PG(X:Cx)(a:f3)(t:TG):Prop:=
 ∀(g:U (a_×hg))(s:b')(A:St)(H:Hp)(v:V)(u:b0)(Q:St->Hp->Prop),Inv X g A H s->aB v u->t v A H Q->
  dy ?m X.A (Hb a X.10 u) (λ_ s'=>∃a N,Inv X g a N s'/\Q a N) X.xe s
def Jj(X:Cx)(ts:U f3)(t:HP):Prop:=
 ∀(g:U (a_×hg))(s:b')(A:St)(H:Hp)(vs:U V)(us:U b0)(Q:St->Hp->Prop),Inv X g A H s->az vs us->t vs A H Q->
  dy ?m X.A (assignInOrder ((m_ ts X.10).map (·.2)) us) (λ_ s'=>∃a N,Inv X g a N s'/\Q a N) X.xe s
abbrev qI:=V->V->V->Hp->(Hp->Prop)->Prop
def vQ(X:Cx)(t:qI):Prop:=
 ∀(g:U (a_×hg))(s:b')(A:St)(H:Hp)(o i v:V)(ov a u:b0)(Q:Hp->Prop),Inv X g A H s->aB o ov->aB i a->aB v u->t o i v H Q->
  dy ?m X.A (K1 ov a u) (λ_ s'=>∃N,Inv X g A N s'/\Q N) X.xe s
abbrev Kr:=V->V->Hp->VK->Prop
def Lp(X:Cx)(op:u4)(t:Kr):Prop:=
 ∀(g:U (a_×hg))(s:b')(A:St)(H:Hp)(x y:V)(v u:b0)(Q:VK),Inv X g A H s->aB x v->aB y u->t x y H Q->
  dy ?m X.A (HW op v u) (EP X g A Q) X.xe s
def eF(i:b8):TG:=λv A H Q=>Q (A.set i (O v)) H
theorem XN{i:b8}(a:X.N.Nodup)(hi:X.N[i]?=O x)(b:Loc X.env.1 x)(c:zzp (X.fn x=bm\/X.env.scope.names.lookup x=O .local) zz3):PG X (.Name x pos) (eF i):=by
 intro g s A H v u Q I r h;exact H9 (nh I a hi b r (λs' a=>(_,H,a,h)) c)
def xK:HP:=λvs A H Q=>vs=[]/\Q A H
inductive se(t:TG)(u:HP)(vs:U V)(A:St)(H:Hp)(Q:St->Hp->Prop):Prop
 |i(v r:_)(_:vs=v::r)(_:t v A H λa N=>u r a N Q)
theorem dB:Jj X [] xK:=by
 intro g s A H vs us Q I r h;let(e,h):=h;exact assignInOrder_nil (A,H,I,h)
theorem bv{t:TG}{u:HP}(h1:PG X e t)(h2:Jj X es u)(a:zzp ((m_ (e::es) X.10).map (·.2)=Hb e X.10::(m_ es X.10).map (·.2)) zz0):Jj X (e::es) (se t u):=by
 intro g s A H vs us Q I r h;let(v,b,e1,h):=h;subst e1;cases r with
 |cons r b=>
  rw[a];refine assignInOrder_cons (gv (h1 g s A H _ _ _ I r h) λ_ s1 ⟨a,H1,c,d⟩=>?_);exact h2 g s1 a H1 _ _ Q c b d
inductive si(K:bI)(n:b8)(t:HP)(v:V)(A:St)(H:Hp)(Q:St->Hp->Prop):Prop
 |i(a B:_)(_:v = .ref a)(_:fx K H a B)(_:?lB=n)(_:t B A H Q)
theorem YC{k:b8}{t:HP}(f:X.15=bm)(h:Jj X es t)(j:zzp ((m_ es X.10).length=n) zz0)(c:zzp ((m_ es X.10).findIdx? (·.1)=bd) zz0):PG X (.Tuple es k pos) (si X.K n t):=by
 intro g s A H v u Q I r d;let(a,B,e1,m,p,d):=d;subst e1;cases r;let(J,q,w,hz):=I.tuple m;refine assign_Tuple_tuple (I.ok.hd f) w (by simp[j,<-p,?lq]) c λh' c=>?_;exact h g _ A H B _ Q (I.kept (t':=s.4) λb o e=>c b o (cb (b6 e)) e) ?x d
def XV(to ti:TE)(t:qI):TG:=λv A H Q=>to A H λo H1=>ti A H1 λi H2=>t o i v H2 λa=>Q A a
theorem Uf{o i:f3}{t:qI}(b:PE X o to)(hi:PE X i ti)(c:vQ X t)(d:zzp (∀v,Hb (.Subscript o i pos) X.10 v=(do
   let ov <-ms [v] (eval o X.10);let a <-ms [v,ov] (eval i X.10)
   pU pos
   ms [v,ov,a] (K1 ov a v)
   release [v,ov,a] [])) zz2):PG X (.Subscript o i pos) (XV to ti t):=by
 intro g s A H v u Q I r h;rw[d];refine al (e6 (gv (b g s A H _ I h) λov s1 ⟨x,H1,b,d,e⟩=>?_));refine al (e6 (gv (hi g s1 A H1 _ b e) λa s2 ⟨y,H2,b,e,f⟩=>?_));refine al (EF (al (e6 (gv (c g s2 A H2 x y v ov a u _ b d e r f) λ_ a ⟨b,d,e⟩=>?_))));exact wpAny_release (A,b,d,e)
def jR(te:TE)(Ac:TG):TS:=λD A H=>te A H λx H1=>Ac x A H1 D.1
theorem pP(a:PE X e te)(b:PG X tg Ac)(c:zzp (swapsWithSole [tg] e pos.1 X.10=hl b1) zz0)(d:zzp (swappedStores [tg] e X.10=hl bd) zz0)(h1:zzp ((m_ [tg] X.10).map (·.2)=[Hb tg X.10]) zz0):PS X (.Assign [tg] e pos) (jR te Ac):=by
 intro g s A H D I h;refine wpAny_Assign_stores (gv (a g s A H _ I h) λv s1 ⟨x,H1,a,f,j⟩=>?_) c d;rw[h1];exact gv (b g s1 A H1 x v _ a f j) λ_ s2 q=>q
theorem zN{i:b8}(a:X.N.Nodup)(hi:X.N[i]?=O x)(b:Loc X.env.1 x)(c:PE X e te)(d:zzp (mX e (O (.Name x pos')) pos.1 X.10=hl b1) zz0)(f:zzp (X.fn x=bm\/X.env.scope.names.lookup x=O .local) zz3):
  PS X (.Assign [.Name x pos'] e pos) (jR te (eF i)):=by
 intro g s A H D I h;refine wpAny_Assign_Name (gv (c g s A H _ I h) λv s1 ⟨y,H1,c,j,m⟩=>?_) d;exact nh c a hi b j (λs2 c=>(_,H1,c,m)) f
inductive Rk(i:b8)(te:TE)(ti:Kr)(D:fJ)(A:St)(H:Hp):Prop
 |i(x:_)(_:A[i]?=O (O x))(_:te A H λy H1=>ti x y H1 λz H2=>D.nx (A.set i (O z)) H2)
theorem zL{i:b8}{op:u4}{ti:Kr}(j:X.N.Nodup)(hi:X.N[i]?=O x)(d:Loc X.env.1 x)(n:PE X e te)(p:Lp X op ti)(q:zzp (X.fn x=bm\/X.env.scope.names.lookup x=O .local) zz3):
  PS X (.AugAssign (.Name x pos') op e pos) (Rk i te ti):=by
 intro g s A H D I h;let(v,e1,h):=h;let(m,B,b):=I.5;have a:I2 X.env.1 x:=by rcases d with k |k;exact .inl k;exact .inr (.inl k)
 let(u,r,l):=b i x v hi e1 a;refine wpAny_AugAssign_Name ?_;have f:dy ?m X.A (eval e X.10) (λw a=>dy ?m X.A (HW op u w) (λr b=>dy ?m X.A (HU X.10 x r) (λ_=>SP X g D .next) X.xe b) X.xe a) X.xe s:=by
  refine gv (n g s A H _ I h) λw s1 ⟨y,H1,a,b,n⟩=>?_;refine gv (p g s1 A H1 v y u w _ a r b n) λz s2 ⟨p,H2,a,b,n⟩=>?_;exact nh a j hi d b (λb a=>(_,H2,a,n)) q
 rcases l with⟨a,n⟩ |⟨a,c,j,b⟩
 ·exact Gf I.ok.2 a B n f
 ·rcases a with a |a
  ·exact GA I.ok.2 a j b f
  ·rcases d with k |k
   ·have:X.env.scope.names.lookup x=O .free:=a
    grind
   ·have:X.env.scope.names.lookup x=O .free:=a
    simp_all
inductive Qa(f:cs->cs->cs)(x:V)(y:V)(H:Hp)(Q:VK):Prop
 |i(i j:_)(_:x = .int i)(_:y = .int j)(_:Q (.int (f i j)) H)
theorem xW:Lp X .Add (Qa λi j=>i+j):=by
 intro g s A H x y v u Q I a b h;let(i,j,e1,c,q):=h;subst e1;subst c;let(t,Y):=a;let(t',Y):=b;exact iadd_int (.int _,H,I.tok _,⟨_,Y⟩,q)
def Li(c:TT)(tb:TS):TS:=λD A H=>∃W:b8->St->Hp->Prop,(∃m,W m A H)/\∀m A H,W m A H->
 c A H λb H1=>if b=bm then ∃Ae:St->Hp->Prop,(∀a N,Ae a N->∃d,d<m/\W d a N)/\tb { D with nx:=Ae,ct:=Ae,bk:=D.1 } A H1 else D.nx A H1
theorem UM{c:f3}(e:ES ?m X.A X.10 X.xe)(j:PT X c tc)(m:t2 X body tb):PS X (.While c body [] pos) (Li tc tb):=by
 intro g s A H D I h;let(W,(d,p),turn):=h;refine wpAny_While (codeAny_whileLoop (λn s'=>∃a N,Inv X g a N s'/\W n a N) ?_ d (A,H,I,p));rintro n s1 ⟨d,H1,a,p⟩;refine kf e (gv (j g s1 d H1 _ a (turn n d H1 p)) λb s2 ⟨H2,x,j⟩=>?_);cases b with
 |true=>
  let(Ae,y,j):=j;refine kf e (gv (m g s2 d H2 _ x j) λf a m=>?_);cases f with
  |next=>
   let(a,e,p,q):=m;let(u,w,w3):=y a e q;exact(u,w,a,e,p,w3)
  |cont=>
   let(a,e,p,q):=m;let(u,w,w3):=y a e q;exact(u,w,a,e,p,w3)
  |brk=>exact m
  |ret v=>exact m
 |false=>
  exact nD (d,H2,x,j)
structure It where
 go:b8->Hp->Prop
 yld:b8->Hp->V->Hp->Prop
 stop:b8->Hp->Prop
variable{Ag:It}
def eU(X:Cx)(g:U (a_×hg))(H:Hp)(b:a_):Prop:=
 H b=bd/\b≠X.env.2/\b∉X.fs/\(b∈X.ex\/?sX.s₀<=b)/\(∀x c,X.env.cells.lookup x=O c->c≠b)/\∀p∈X.pn++g,p.1≠b
theorem Inv.fpOk(I:Inv X g A H s)(a:?ss<=b)(d:N b=bd):eU X g N b:=by
 refine(d,e8 (c2 I.lt a),I.nofs a,.inr (ce I.sz a),λx c e z=>?_,λp f z=>?_)
 ·let(v,q):=I.cell x c e;exact cx (c2 q.lt (by exact z ▸ a)) (fS _)
 ·exact cx (c2 (b6 (I.pin p f).1) ?x) (fS _)
structure fM(P:f0)(w:gl)(K:bI)(tg:f3)(J:It)(fp:U a_)(it:a_)(tn:b8->fy->Prop):Prop where
 mem:it∈fp
 obj:∀i h,tn i h->∀b∈fp,∃o,h.get? b=O o/\∀v,o.3≠.cell v
 keep:∀i h h',tn i h->(∀b∈fp,∀o,h.get? b=O o->h'.get? b=O o)->tn i h'
 item:∀(X:Cx),X.1=P->X.w=w->X.K=K->X.15=bm->∀(i:b8)(pins:U (a_×hg))(s:b')(σ:St)(H:Hp)(E:b0->b'->Prop),Inv X pins σ H s->(∀b∈fp,eU X pins H b)->tn i s.1->J.go i H->
  wpAny (ds P w) X.A (sk (.ref it)) (λr s1=>∃u,r=O u/\
   wpAny (ds P w) X.A (y5 tg (.ref it) u) (λ_ s2=>∃x H',Inv X pins σ H' s2/\aB x u/\J.yld i H x H'/\tn (i+1) s2.1/\∀b∈fp,H' b=bd) E s1) E s
 done:∀(X:Cx),X.1=P->X.w=w->X.K=K->X.15=bm->∀(i:b8)(pins:U (a_×hg))(s:b')(σ:St)(H:Hp)(E:b0->b'->Prop),Inv X pins σ H s->(∀b∈fp,eU X pins H b)->tn i s.1->J.stop i H->
  wpAny (ds P w) X.A (sk (.ref it)) (λr s1=>r=bd/\Inv X pins σ H s1) E s
 self:∀(A:hB)(i:b8)(s:b')(Q:b0->b'->Prop)(E:b0->b'->Prop),tn i s.1->Q (.ref it) s->dy (ds P w) A (Fk (.ref it)) Q E s
abbrev TI:=St->Hp->(It->Hp->Prop)->Prop
variable{wi:TI}
def Ku(X:Cx)(g:U (a_×hg))(A:St)(tg:f3)(R:It->Hp->Prop)(a:b0)(s2:b'):Prop:=
 ∃(it:a_)(fp:U a_)(c:b8->fy->Prop)(Ag:It)(N:Hp),a = .ref it/\Inv X g A N s2/\fM X.1 X.w X.K tg Ag fp it c/\c 0 s2.1/\(∀b∈fp,eU X g N b)/\R Ag N
def PI(X:Cx)(tg iter:f3)(wi:TI):Prop:=
 ∀(g:U (a_×hg))(s:b')(A:St)(H:Hp)(R:It->Hp->Prop),Inv X g A H s->wi A H R->
  dy ?m X.A (eval iter X.10) (λv s1=>dy ?m X.A (Fk v) (Ku X g A tg R) X.xe s1) X.xe s
theorem kB{o:hg}{n:gV}{vs:fK b0}{Q:Gc->b'->Prop}(b:s.heap.get? it=O o)(c:o.1 = .type n)(hd:o.3 = .fields vs)(a:["enumerate","zip","dict_itemiterator","dict_reverseitemiterator","odict_iterator","itertools.zip_longest","itertools.pairwise"].contains n=b1)(a:Q () s):dy M Aa (y5 tg (.ref it) u) Q on s:=by
  cases tg <;> first
    |exact b4 a
    | (cases u <;> first
        |exact b4 a
        | (refine al (Hc b ?_)
           simp only[c,hd];show dy M Aa (if (["enumerate","zip","dict_itemiterator","dict_reverseitemiterator","odict_iterator","itertools.zip_longest","itertools.pairwise"].contains n && vs[0]? ==O (mi _))=bm then _ else _) Q on s;rw[du (by grind)];exact b4 a))
def Fe(K:bI)(a:a_):It:=
 (λi H=>∃B x,eb K H a B/\B[i]?=O x,λi H x N=>N=H/\∀B,eb K H a B->B[i]?=O x,λi H=>∃B,eb K H a B/\?lB<=i)
def G4(K:bI)(a:a_):It:=
 (λi H=>∃B x,fx K H a B/\B[i]?=O x,λi H x N=>N=H/\∀B,fx K H a B->B[i]?=O x,λi H=>∃B,fx K H a B/\?lB<=i)
def FE(lo:cs)(n:b8):It:=(λi _=>i<n,λi H x N=>N=H/\x = .int (lo+i),λi _=>n<=i)
theorem M'(a it:a_):fM Ab w K tg (Fe K a) [it] it (λi h=>h.IsListIter it a i) where
 mem:=?s
 obj:=λi h st b f=>by
  have e:b=it:=by simpa using f
  subst e;let(o,e,c,d):=st;exact(o,e,λv z=>by rw[d]at z;cases z)
 keep:=λi h h' st k=>st.at λo e=>k it ?s o e
 item:=by
  intro X q y C R i g s A H on I m st D;subst q y C;let(B,x,n,E):=D;let(J,G,p,hz):=I.list n;let(u,j,S):=G.get E;let(L,M,T,N,P,Q):=m it ?s;refine wpAny_pyNext_list_item st p.isList (by simpa using j) λh' j Z=>?_;let(o,e,c,d):=id j;exact(u,Y,kB e c d ?a (x,H,(I.turned (t':=s.4) (λb o f e=>(Z.2 b f).trans e) L M N P Q),S,(Y,λys A3=>by exact (I.list_inj A3 n) ▸ E),j,λb f=>(m b f).1))
 done:=by
  intro X q y C R i g s A H on I m st D;subst q y C;let(B,n,E):=D;let(J,G,p,hz):=I.list n;let(L,M,T,N,P,Q):=m it ?s;have j:=?lG;exact wpAny_pyNext_list_end (I.ok.hd R) st p.isList (by simp;simp_all) λh' j=>(Y,I.turned (t':=s.4) (λb o f e=>j b o f e) L M N P Q)
 self:=λ_ _ _ _ _ st h=>wpAny_pyIter_listiter st h
theorem Qu(a it:a_):fM Ab w K tg (G4 K a) [it] it (λi h=>h.IsTupleIter it a i) where
 mem:=?s
 obj:=λi h st b f=>by
  have e:b=it:=by simpa using f
  subst e;let(o,e,c,d):=st;exact(o,e,λv z=>by rw[d]at z;cases z)
 keep:=λi h h' st k=>st.at λo e=>k it ?s o e
 item:=by
  intro X q y C R i g s A H on I m st D;subst q y C;let(B,x,n,E):=D;let(J,G,p,hz):=I.tuple n;let(u,j,S):=G.get E;let(L,M,T,N,P,Q):=m it ?s;refine wpAny_pyNext_tuple_item st (show s.heap.IsTuple a ?aJ from p) (by simpa using j) λh' j Z=>?_;let(o,e,c,d):=id j;exact(u,Y,kB e c d ?a (x,H,(I.turned (t':=s.4) (λb o f e=>(Z.2 b f).trans e) L M N P Q),S,(Y,λys A3=>by exact (I.tuple_inj A3 n) ▸ E),j,λb f=>(m b f).1))
 done:=by
  intro X q y C R i g s A H on I m st D;subst q y C;let(B,n,E):=D;let(J,G,p,hz):=I.tuple n;let(L,M,T,N,P,Q):=m it ?s;have j:=?lG;exact wpAny_pyNext_tuple_end (I.ok.hd R) st (show s.heap.IsTuple a ?aJ from p) (by simp;simp_all) λh' j=>(Y,I.turned (t':=s.4) (λb o f e=>j b o f e) L M N P Q)
 self:=λ_ _ _ _ _ st h=>wpAny_pyIter_tupleiter st h
theorem WH(it:a_)(lo:cs)(n:b8):fM Ab w K tg (FE lo n) [it] it (λi h=>MJ h it (lo+(i:b8) * 1) ((n:cs) - (i:b8)) 1) where
 mem:=?s
 obj:=λi h st b a=>by
  simp_all
 keep:=λi h h' st k=>k it ?s _ st
 item:=by
  intro X f j m p i g s A H on I d st q;subst f j m;let(u,x,C,y,z,B):=d it ?s;refine (HA (prog:=X.1) (w:=X.w) (I.ok.hd p) it lo 1 n).item i s _ _ q st λv h' tk D c kk=>?_;let(t,Y):=D;have D:Inv X g A H { s with heap:=h',toks:=tk }:=I.turned (λb o a e=>kk b o (by simpa using a) e) u x y z B;refine(1,kB c Y Y ?a (.int (lo+i),H,D,(t,?_),(Y,Y),c,λb a=>(d b a).1));rw[Int.mul_one]
 done:=by
  intro X f j m p i g s A H on I d st q;subst f j m;let(u,x,C,y,z,B):=d it ?s;exact Fl (I.ok.hd p) st (by have:n<=i:=q;lia) λh' D=>(Y,I.turned (t':=s.4) (λb o a e=>D b o a e) u x y z B)
 self:=λ_ _ _ _ _ st h=>Fm st h
inductive Yb(K:bI)(R:It->Hp->Prop)(x:V)(H1:Hp):Prop
 |i(a:_)(_:x = .ref a)(_:(∃B,eb K H1 a B))(_:R (Fe K a) H1)
def xT(K:bI)(tl:TE):TI:=λA H R=>tl A H λx H1=>Yb K R x H1
inductive N3(K:bI)(R:It->Hp->Prop)(x:V)(H1:Hp):Prop
 |i(a:_)(_:x = .ref a)(_:(∃B,fx K H1 a B))(_:R (G4 K a) H1)
def NC(K:bI)(tl:TE):TI:=λA H R=>tl A H λx H1=>N3 K R x H1
theorem ba{l:f3}(c:PE X l tl):PI X tg l (xT X.K tl):=by
 intro g s A H R I h;refine gv (c g s A H _ I h) λv s1 ⟨x,H1,c,d,f⟩=>?_;let(a,e,(B,j),q):=f;subst e;cases d;let(J,d,p,hz):=c.list j;refine ky p.isList ?_;refine(?ss1,[?ss1],_,_,H1,Y,c.kept (t':=s1.4) λb o e=>aw _ e,M' a _,(_,b_ _ Y,Y,Y),λb d=>?_,q);have e:b=?ss1:=by simpa using d
 subst e;exact c.fpOk (b2 _) (c.hok.fresh (b2 _))
theorem jP{l:f3}(c:PE X l tl):PI X tg l (NC X.K tl):=by
 intro g s A H R I h;refine gv (c g s A H _ I h) λv s1 ⟨x,H1,c,d,f⟩=>?_;let(a,e,(B,j),q):=f;subst e;cases d;let(J,d,p,hz):=c.tuple j;refine wpAny_pyIter_tuple (show s1.heap.IsTuple a ?aJ from p) ?_;refine(?ss1,[?ss1],_,_,H1,Y,c.kept (t':=s1.4) λb o e=>aw _ e,Qu a _,(_,b_ _ Y,Y,Y),λb d=>?_,q);have e:b=?ss1:=by simpa using d
 subst e;exact c.fpOk (b2 _) (c.hok.fresh (b2 _))
theorem zX{R:It->Hp->Prop}{hi:cs}{t u v:GZ}(I:Inv X g A H s)(h1 : -(2 ^ 62)<=lo)(h2:lo<2 ^ 62)(a : -(2 ^ 62)<=hi)(c:hi<2 ^ 62)(q:R (FE lo (hi - lo).toNat) H):dy ?m X.A (Fk (.ref ?ss)) (Ku X g A tg R) on { s with heap:=s.heap.push { cls:=.type "range",data:=.fields #[.int lo t,.int hi u,.int 1 v] },toks:=tk }:=by
 refine Hd (y_ ..) (small_one h1 h2 a c) ?_;have a:Inv X g A H { s with heap:=s.heap.push { cls:=.type "range",data:=.fields #[.int lo t,.int hi u,.int 1 v] },toks:=tk }:=I.kept λb o e=>aw _ e;refine((s.heap.push { cls:=.type "range",data:=.fields #[.int lo t,.int hi u,.int 1 v] }).objs.size,[(s.heap.push { cls:=.type "range",data:=.fields #[.int lo t,.int hi u,.int 1 v] }).objs.size],_,_,H,Y,
  a.kept (t':=tk) λb o e=>aw _ e,WH _ lo (hi - lo).toNat,?_,λb c=>?_,q)
 ·have e1:lo+((0:b8):cs) * 1=lo:=?s
  have d:(((hi - lo).toNat:b8):cs) - ((0:b8):cs)=kn lo hi 1:=by rw[JR];split <;> lia
  simp only[e1,d];exact b_ _ Y
 ·have e:b=(s.heap.push { cls:=.type "range",data:=.fields #[.int lo t,.int hi u,.int 1 v] }).objs.size:=by simpa using c
  subst e;exact a.fpOk (b2 _) (a.hok.fresh (b2 _))
inductive Zm(R:It->Hp->Prop)(vs:U V)(H1:Hp):Prop
 |i(j:cs)(_:vs=[.int j]) (_ : -(2 ^ 62)<=j) (_:j<2 ^ 62) (_:R (FE 0 ?ij) H1)
def PU(ta:TA):TI:=λA H R=>ta A H λvs H1=>Zm R vs H1
inductive Ym(R:It->Hp->Prop)(vs:U V)(H1:Hp):Prop
 |i(i j:cs)(_:vs=[.int i,.int j])(_:(-(2 ^ 62)<=i/\i<2 ^ 62/\-(2 ^ 62)<=j/\j<2 ^ 62))(_:R (FE i (j - i).toNat) H1)
def Zo(ta:TA):TI:=λA H R=>ta A H λvs H1=>Ym R vs H1
theorem gO{a:f3}{ta:TA}(b:Gl X "range")(c:X.mg "range" =bd)(d:PA X [a] ta)(f:zzp (cH [a] X.10=[(zzq b1 (eval a X.10))]) zz0):PI X tg (.Call (.Name "range" p) [a] [] pos) (PU ta):=by
 intro g s A H R I h;refine uB (df I b c CH (ec (gv (d pos g s A H _ I h) λus s1 ⟨vs,H1,c,d,b⟩=>?_) f Y));let(j,e,b,f,q):=b;subst e;cases d with
 |cons r d=>
  cases d;let(t,Y):=r;exact K2 (zX c (by exact i_ _) (by exact i_ _) b f ?x)
theorem Vo{a b:f3}{ta:TA}(d:Gl X "range")(f:X.mg "range" =bd)(m:PA X [a,b] ta)(c:zzp (cH [a,b] X.10=[(zzq b1 (eval a X.10)),(zzq b1 (eval b X.10))]) zz0)(c:zzp (cH [b] X.10=[(zzq b1 (eval b X.10))]) zz0):
  PI X tg (.Call (.Name "range" p) [a,b] [] pos) (Zo ta):=by
 intro g s A H R I h;refine uB (df I d f CH (ec (gv (m pos g s A H _ I h) λus s1 ⟨vs,H1,f,m,d⟩=>?_) ?x (by rw[c];rfl)));let(i,j,e,(d,n,u,v),q):=d;subst e;cases m with
 |cons r c=>
  cases c with
  |cons r' c=>
   cases c;let(t,Y):=r;let(t',Y):=r';exact call_range_2 (zX f d n u v q)
def Yi(wi:TI)(Ac:TG)(tb:TS):TS:=λD A H=>wi A H λAg H1=>∃W:b8->b8->St->Hp->Prop,(∃m,W 0 m A H1)/\∀i m A H,W i m A H->
 (Ag.stop i H/\D.nx A H)\/(Ag.go i H/\∃Ae:St->Hp->Prop,(∀a N,Ae a N->∃b,b<m/\W (i+1) b a N)/\∀x N,Ag.yld i H x N->Ac x A N λa H2=>tb { D with nx:=Ae,ct:=Ae,bk:=D.1 } a H2)
def mR(fp:U a_)(h:fy):U (a_×hg):=fp.filterMap λb=>(h.get? b).map λo=>(zzq b o)
theorem pi{o:hg}(a:b∈fp)(e:h.get? b=O o):(zzq b o)∈mR fp h:=n3.mpr (b,a,?x)
theorem O8{p:a_×hg}(a:p∈mR fp h):p.1∈fp/\h.get? p.1=O p.2:=by
 let(b,c,e):=n3.mp a;cases q:h.get? b with
 |none=>rw[q]at e;cases e
 |some o=>
  rw[q]at e;have a:=c_ e;subst a;exact(c,q)
theorem Inv.pinned(I:Inv X g A H s)(a:∀b∈fp,eU X g H b)(c:∀b∈fp,∃o,s.heap.get? b=O o/\∀v,o.3≠.cell v):Inv X (g++mR fp s.1) A H s:=
 I.pins_of λp c=>(ek.mp c).elim (λz=>I.pin p (f4 _ z)) λz=>by
  let(c,e):=O8 z;let(d,f,h,_):=a p.1 c
  grind
theorem Inv.unpinned{pl:U (a_×hg)}(I:Inv X (g++pl) A H s):Inv X g A H s:=I.pins_of λp a=>I.pin p (f4 _ (hh _ a))
theorem zM(q:ES ?m X.A X.10 X.xe)(C:X.15=bm)(hi:PI X tg iter wi)(K:PG X tg Ac)(c:t2 X body tb)(y:zzp (∀x,hu iter X.10 x=hl x) zz2):PS X (.For tg iter body [] pos) (Yi wi Ac tb):=by
 intro g s A H D I h;refine wpAny_For (gv (hi g s A H _ I h) λv s1 h1=>gv h1 λp s2 h2=>?_) y;let(it,fp,E,Ag,H2,e,z,T,p,y,W,(w,B),turn):=h2;subst e;have a:∀{N:Hp},(∀b∈fp,N b=bd)->∀b∈fp,eU X g N b:=λj b c=>(j b c,(y b c).2)
 refine codeAny_forLoop_any (λn s'=>∃i j N,Inv X g j N s'/\E i s'.1/\(∀b∈fp,N b=bd)/\W i n j N) ?_ w ((0),A,H2,z,p,λb c=>(y b c).1,B);rintro n G ⟨i,p,B,J,w,y,w3⟩;rcases turn i n p B w3 with⟨z,L⟩ |⟨M,Ae,P,step⟩
 ·refine kf q (gv (T.done X Y Y Y C i g G p B X.xe J (a y) w z) λr Q ⟨z,R⟩=>?_);subst z;exact nD (p,B,R,L)
 ·refine kf q (gv (T.item X Y Y Y C i g G p B X.xe J (a y) w M) λr Q ⟨u,z,y⟩=>?_);subst z;refine kf q (gv y λ_ z ⟨x,B,C,G,J,w,y⟩=>?_);refine kf q (gv (K _ z p B x u _ (C.pinned (a y) (T.obj _ _ w)) G (step x B J)) λ_ y ⟨p,B,a,C⟩=>?_);refine kf q (gv (c _ y p B _ a C) λf y q=>?_);have again:∀{a:St}{p:Hp},Inv X (g++mR fp z.1) a p y->Ae a p->∃m,m<n/\∃i j N,Inv X g j N y/\E i y.1/\(∀b∈fp,N b=bd)/\W i m j N:=λ{a p} j y=>by
   let(z,B,C):=P a p y;refine(z,B,i+1,a,p,j.unpinned,T.keep _ _ _ w λb c o e=>(j.pin (zzq b o) (f4 _ (f4 _ (pi c e)))).1,λb c=>?_,C);let(o,e,d):=T.obj _ _ w b c;exact (j.pin (zzq b o) (f4 _ (f4 _ (pi c e)))).2.1
  cases f with
  |next=>let(a,p,j,y):=q;exact again j y
  |cont=>let(a,p,j,y):=q;exact again j y
  |brk=>let(a,p,j,q):=q;exact(a,p,j.unpinned,q)
  |ret v=>let(y,a,p,j,z,q):=q;exact(y,a,p,j.unpinned,z,q)
theorem fQ(Pv:b8->St->Hp->Prop)(f:Pv 0 A H)(g:∀i A H,i<=?lB->Pv i A H->eb K H a B)(h:∀i x A H,B[i]?=O x->Pv i A H->Ac x A H λb H2=>tb { D with nx:=Pv (i+1),ct:=Pv (i+1),bk:=D.1 } b H2)(hd:∀A H,Pv ?lB A H->D.nx A H):
  ∃W:b8->b8->St->Hp->Prop,(∃m,W 0 m A H)/\∀i m A H,W i m A H->
   ((Fe K a).stop i H/\D.nx A H)\/((Fe K a).go i H/\∃Ae:St->Hp->Prop,(∀c N,Ae c N->∃d,d<m/\W (i+1) d c N)/\∀x N,(Fe K a).yld i H x N->Ac x A N λb H2=>tb { D with nx:=Ae,ct:=Ae,bk:=D.1 } b H2):=by
 refine(λi m A H=>m=?lB - i/\i<=?lB/\Pv i A H,(?lB,?s,ej _,f),?_);rintro i m A H ⟨rfl,hi,p⟩;have q:=g i A H hi p;by_cases b:i<?lB
 ·refine .inr ((B,B[i],q,?s),Pv (i+1),λc N d=>(?lB - (i+1),?l,Y,b,d),λx N y=>?_);let(e,y):=y;subst e;exact h i x A _ (y B q) p
 ·have e:i=?lB:=?l
  subst e;exact .inl ((B,q,b2 _),hd A H p)
theorem xG(Pv:b8->St->Hp->Prop)(f:Pv 0 A H)(g:∀i A H,i<=?lB->Pv i A H->fx K H a B)(h:∀i x A H,B[i]?=O x->Pv i A H->Ac x A H λb H2=>tb { D with nx:=Pv (i+1),ct:=Pv (i+1),bk:=D.1 } b H2)(hd:∀A H,Pv ?lB A H->D.nx A H):
  ∃W:b8->b8->St->Hp->Prop,(∃m,W 0 m A H)/\∀i m A H,W i m A H->
   ((G4 K a).stop i H/\D.nx A H)\/((G4 K a).go i H/\∃Ae:St->Hp->Prop,(∀c N,Ae c N->∃d,d<m/\W (i+1) d c N)/\∀x N,(G4 K a).yld i H x N->Ac x A N λb H2=>tb { D with nx:=Ae,ct:=Ae,bk:=D.1 } b H2):=by
 refine(λi m A H=>m=?lB - i/\i<=?lB/\Pv i A H,(?lB,?s,ej _,f),?_);rintro i m A H ⟨rfl,hi,p⟩;have q:=g i A H hi p;by_cases b:i<?lB
 ·refine .inr ((B,B[i],q,?s),Pv (i+1),λc N d=>(?lB - (i+1),?l,Y,b,d),λx N y=>?_);let(e,y):=y;subst e;exact h i x A _ (y B q) p
 ·have e:i=?lB:=?l
  subst e;exact .inl ((B,q,b2 _),hd A H p)
theorem oK(Pv:b8->St->Hp->Prop)(d:Pv 0 A H)(f:∀i A H,i<n->Pv i A H->Ac (.int (lo+i)) A H λa H2=>tb { D with nx:=Pv (i+1),ct:=Pv (i+1),bk:=D.1 } a H2)(hd:∀A H,Pv n A H->D.nx A H):
  ∃W:b8->b8->St->Hp->Prop,(∃m,W 0 m A H)/\∀i m A H,W i m A H->
   ((FE lo n).stop i H/\D.nx A H)\/((FE lo n).go i H/\∃Ae:St->Hp->Prop,(∀b N,Ae b N->∃c,c<m/\W (i+1) c b N)/\∀x N,(FE lo n).yld i H x N->Ac x A N λa H2=>tb { D with nx:=Ae,ct:=Ae,bk:=D.1 } a H2):=by
 refine(λi m A H=>m=n - i/\i<=n/\Pv i A H,(n,?s,ej _,d),?_);rintro i m A H ⟨rfl,hi,p⟩;by_cases a:i<n
 ·refine .inr (a,Pv (i+1),λb N c=>(n - (i+1),?l,Y,a,c),λx N y=>?_);let(e,y):=y;subst e y;exact f i A _ a p
 ·have e:i=n:=?l
  subst e;exact .inl (b2 _,hd A H p)
abbrev R2:=V->V->Hp->VK->Prop
def l6(X:Cx)(f:b0->b0->HS b0)(r:R2):Prop:=
 ∀(g:U (a_×hg))(s:b')(A:St)(H:Hp)(x y:V)(v u:b0)(Q:VK),Inv X g A H s->aB x v->aB y u->r x y H Q->
  dy ?m X.A (f v u) (EP X g A Q) X.xe s
def Kx(X:Cx)(f:b0->HS b0)(r:V->Hp->VK->Prop):Prop:=
 ∀(g:U (a_×hg))(s:b')(A:St)(H:Hp)(x:V)(v:b0)(Q:VK),Inv X g A H s->aB x v->r x H Q->
  dy ?m X.A (f v) (EP X g A Q) X.xe s
def bx(X:Cx)(f:b0)(r:U V->Hp->VK->Prop):Prop:=
 ∀(g:U (a_×hg))(s:b')(A:St)(H:Hp)(B:U V)(us:U b0)(Q:VK),Inv X g A H s->az B us->r B H Q->
  dy ?m X.A (qB f us) (EP X g A Q) X.xe s
def Rr(X:Cx)(r:V->Hp->(eg->Hp->Prop)->Prop):Prop:=
 ∀(g:U (a_×hg))(s:b')(A:St)(H:Hp)(x:V)(v:b0)(Q:eg->Hp->Prop),Inv X g A H s->aB x v->r x H Q->
  dy ?m X.A (Fi v) (TP X g A Q) X.xe s
def Ez(r:R2)(ta tb:TE):TE:=λA H Q=>ta A H λx H1=>tb A H1 λy H2=>r x y H2 Q
def L7(r:V->Hp->VK->Prop)(ta:TE):TE:=λA H Q=>ta A H λx H1=>r x H1 Q
inductive rI(C:cs->cs->Prop)(Ac:cs->cs->V)(x:V)(y:V)(H:Hp)(Q:VK):Prop
 |i(i j:_)(_:x = .int i)(_:y = .int j)(_:C i j)(_:Q (Ac i j) H)
inductive FA(Ac:cs->cs->V)(x:V)(y:V)(H:Hp)(Q:VK):Prop
 |i(i j:_)(_:x = .int i)(_:y = .int j)(_:Q (Ac i j) H)
inductive rU(Ac:cs->V)(x:V)(H:Hp)(Q:VK):Prop
 |i(i:_)(_:x = .int i)(_:Q (Ac i) H)
section
variable{a b c:f3}{d e:TE}
theorem qZ(j:PE X a ta)(m:PE X b d){R:V->V->Hp->Prop}(I:Inv X g A H s)(h:ta A H λx H1=>d A H1 λy H2=>R x y H2)(n:∀v u s2 x y H2,Inv X g A H2 s2->aB x v->aB y u->R x y H2->dy ?m X.A (f v u) Q X.xe s2):
  dy ?m X.A (eval a X.10) (λv c=>dy ?m X.A (eval b X.10) (λu e=>dy ?m X.A (f v u) Q X.xe e) X.xe c) X.xe s:=by
 refine gv (j g s A H _ I h) λv s1 ⟨x,H1,c,e,j⟩=>?_;refine gv (m g s1 A H1 _ c j) λu s2 ⟨y,H2,c,j,m⟩=>?_;exact n v u s2 x y H2 c e j m
theorem aq{op:u4}{r:R2}(c:l6 X (i' op) r)(e:PE X a ta)(f:PE X b d):PE X (.BinOp a op b pos) (Ez r ta d):=by
 intro g s A H Q I h;exact wpAny_BinOp (qZ e f I h λv u s2 x y H2 e f j q=>c g s2 A H2 x y v u Q e f j q)
theorem fz{op:UnaryOp}{r:V->Hp->VK->Prop}(b:Kx X (unaryOp op) r)(c:PE X a ta):PE X (.UnaryOp op a pos) (L7 r ta):=by
 intro g s A H Q I h;exact UnaryOp_ (gv (c g s A H _ I h) λv s1 ⟨x,H1,c,d,e⟩=>b g s1 A H1 x v Q c d e)
theorem JQ{C:cs->cs->Prop}{Ac:cs->cs->cs}(Fn:∀(i j:cs)(t u:GZ)(s:b')(Q:b0->b'->Prop)(on:b0->b'->Prop),C i j->Q (.int (Ac i j) s.4) { s with toks:=s.4+1 }->dy ?m X.A (f (.int i t) (.int j u)) Q on s):
  l6 X f (rI C λi j=>.int (Ac i j)):=by
 intro g s A H x y v u Q I a b h;let(i,j,Y,Y,c,q):=h;let(t,Y):=a;let(t',Y):=b;exact Fn i j t t' s _ _ c (.int (Ac i j),H,I.tok _,⟨_,Y⟩,q)
theorem tX{Ac:cs->cs->cs}(Fn:∀(i j:cs)(t u:GZ)(s:b')(Q:b0->b'->Prop)(on:b0->b'->Prop),Q (.int (Ac i j) s.4) { s with toks:=s.4+1 }->dy ?m X.A (f (.int i t) (.int j u)) Q on s):
  l6 X f (FA λi j=>.int (Ac i j)):=by
 intro g s A H x y v u Q I a b h;let(i,j,Y,Y,q):=h;let(t,Y):=a;let(t',Y):=b;exact Fn i j t t' s _ _ (.int (Ac i j),H,I.tok _,⟨_,Y⟩,q)
theorem pG{Ac:cs->cs->eg}(Fn:∀(i j:cs)(t u:GZ)(s:b')(Q:b0->b'->Prop)(on:b0->b'->Prop),Q (.bool (Ac i j)) s->dy ?m X.A (f (.int i t) (.int j u)) Q on s):
  l6 X f (FA λi j=>.bl (Ac i j)):=by
 intro g s A H x y v u Q I a b h;let(i,j,Y,Y,q):=h;let(t,Y):=a;let(t',Y):=b;exact Fn i j t t' s _ _ (.bl (Ac i j),H,I,Y,q)
def u6(i j:cs):Prop:=0<j/\j<1073741824
def nA(i j:cs):Prop:=(-(2 ^ 64)<i/\i<2 ^ 64)\/(-(2 ^ 64)<j/\j<2 ^ 64)
theorem nA.ok{i j:cs}(h:nA i j):IntMulOk i j:=by
 rcases h with⟨h1,h2⟩ |⟨h1,h2⟩
 ·exact .of_left (JS h1 h2)
 ·exact .of_right (JS h1 h2)
theorem Qw(k:b8):(0:cs)<=2 ^ k:=by
 exact i_ _
theorem aT:l6 X (i' .Add) (FA λi j=>.int (i+j)):=tX λ_ _ _ _ _ _ _ q=>add_int q
theorem cE:l6 X (i' .Sub) (FA λi j=>.int (i - j)):=tX λ_ _ _ _ _ _ _ q=>sub_int q
theorem dY:l6 X (i' .Mult) (rI nA λi j=>.int (i * j)):=JQ λ_ _ _ _ _ _ _ a q=>mul_int q a.ok
theorem gJ:l6 X (i' .FloorDiv) (rI u6 λi j=>.int (i / j)):=JQ λi j _ _ _ _ _ a q=>by
 have h1:=a.1;have h2:=a.2;exact floordiv_int ?o (by rw[wh i ?o];exact q) (.inl (wk ?o))
theorem bV:l6 X (i' .Mod) (rI (λ_ j=>0<j) λi j=>.int (i % j)):=JQ λi j _ _ _ _ _ a q=>by
 exact mod_int' ?l (by exact (Int.fmod_eq_emod_of_nonneg i (by exact k7 ‹_›)) ▸ q)
theorem Ws:l6 X (i' .RShift) (rI (λ_ j=>0<=j) λi j=>.int (i / 2 ^ ?ij)):=JQ λi j _ _ _ _ _ a q=>
 rshift_int a (by exact (wh i (Qw _)) ▸ q)
theorem Tj:l6 X (i' .BitAnd) (FA λi j=>.int (t3 i j)):=tX λ_ _ _ _ _ _ _ q=>and_int q
theorem Uy{f:b0->HS b0}{Ac:cs->cs}(Fn:∀(i:cs)(t:GZ)(s:b')(Q:b0->b'->Prop)(on:b0->b'->Prop),Q (.int (Ac i) s.4) { s with toks:=s.4+1 }->dy ?m X.A (f (.int i t)) Q on s):
  Kx X f (rU λi=>.int (Ac i)):=by
 intro g s A H x v Q I a h;let(i,Y,q):=h;let(t,Y):=a;exact Fn i t s _ _ (.int (Ac i),H,I.tok _,⟨_,Y⟩,q)
theorem fE:Kx X (unaryOp .USub) (rU λi=>.int (-i)):=Uy λ_ _ _ _ _ q=>neg_int q
end
noncomputable def y1:V->V->eg
 |.non,.non=>bm |.non,.int _=>bm |.int _,.non=>bm |.non,.bl _=>bm |.bl _,.non=>bm |.non,.str _=>bm |.str _,.non=>bm
 |.int _,.int _=>bm |.bl _,.bl _=>bm |.str _,.str _=>bm |.byt _,.byt _=>bm
 |.int _,.str _=>bm |.str _,.int _=>bm |.bl _,.str _=>bm |.str _,.bl _=>bm
 |_,_=>b1
def Ob:R2:=λx y H Q=>y1 x y=bm/\Q (.bl (decide (x=y))) H
def SE:R2:=λx y H Q=>y1 x y=bm/\Q (.bl (!decide (x=y))) H
theorem hO{i j:cs}:decide (V.int i=V.int j)=(i ==j):=by
 rw[g0];simp
theorem xg{i j:eg}:decide (V.bl i=V.bl j)=(i ==j):=by
 rw[g0];simp
theorem xi{i j:c3}:decide (V.str i=V.str j)=(i ==j):=by
 rw[g0];simp
theorem xh{i j:fK UInt8}:decide (V.byt i=V.byt j)=(i.1 ==j.1):=by
 rw[g0]
 simp_all
section
variable{a b c:f3}{n w:TE}
theorem bE{Q:VK}{k a:eg}(I:Inv X g A H s)(q:Q (.bl k) H)(e:k=a):EP X g A Q (.bool a) s:=by
 subst e;exact(.bl k,H,I,Y,q)
theorem aW:l6 X (eT .Eq) Ob:=by
 intro g s A H x y v u Q I c a h;let(b,q):=h;cases x with
 |non=>
  cases c;cases y with
  |non=>cases a;exact I5 (bE I q ?s)
  |bl j=>cases a;exact I6 (bE I q ?s)
  |int j=>let(t',Y):=a;exact I7 (bE I q ?s)
  |str j=>let(t',Y):=a;exact I8 (bE I q ?s)
  |_=>exact cx (show b1=bm from b) ef
 |bl i=>
  cases c;cases y with
  |non=>cases a;exact I9 (bE I q ?s)
  |bl j=>cases a;exact eq_bool (bE I q xg)
  |str j=>let(t',Y):=a;exact HX (bE I q ?s)
  |_=>exact cx (show b1=bm from b) ef
 |int i=>
  let(t,Y):=c;cases y with
  |non=>cases a;exact IA (bE I q ?s)
  |int j=>let(t',Y):=a;exact eq_int (bE I q hO)
  |str j=>let(t',Y):=a;exact HY (bE I q ?s)
  |_=>exact cx (show b1=bm from b) ef
 |str i=>
  let(t,Y):=c;cases y with
  |non=>cases a;exact IB (bE I q ?s)
  |bl j=>cases a;exact HZ (bE I q ?s)
  |int j=>let(t',Y):=a;exact H_ (bE I q ?s)
  |str j=>let(t',Y):=a;exact eq_str (bE I q xi)
  |_=>exact cx (show b1=bm from b) ef
 |byt i=>
  let(t,Y):=c;cases y with
  |byt j=>let(t',Y):=a;exact W.eq_bytes (bE I q xh)
  |_=>exact cx (show b1=bm from b) ef
 |_=>cases y <;> exact cx (show b1=bm from b) ef
theorem eK:l6 X (eT .NotEq) SE:=by
 intro g s A H x y v u Q I c a h;let(b,q):=h;cases x with
 |non=>
  cases c;cases y with
  |non=>cases a;exact IC (bE I q ?s)
  |bl j=>cases a;exact ID (bE I q ?s)
  |int j=>let(t',Y):=a;exact IE (bE I q ?s)
  |str j=>let(t',Y):=a;exact IF (bE I q ?s)
  |_=>exact cx (show b1=bm from b) ef
 |bl i=>
  cases c;cases y with
  |non=>cases a;exact IG (bE I q ?s)
  |bl j=>cases a;exact ne_bool (bE I q (eG not xg))
  |str j=>let(t',Y):=a;exact Ia (bE I q ?s)
  |_=>exact cx (show b1=bm from b) ef
 |int i=>
  let(t,Y):=c;cases y with
  |non=>cases a;exact IH (bE I q ?s)
  |int j=>let(t',Y):=a;exact ne_int (bE I q (eG not hO))
  |str j=>let(t',Y):=a;exact Ib (bE I q ?s)
  |_=>exact cx (show b1=bm from b) ef
 |str i=>
  let(t,Y):=c;cases y with
  |non=>cases a;exact IJ (bE I q ?s)
  |bl j=>cases a;exact Ic (bE I q ?s)
  |int j=>let(t',Y):=a;exact Ie (bE I q ?s)
  |str j=>let(t',Y):=a;exact ne_str (bE I q (eG not xi))
  |_=>exact cx (show b1=bm from b) ef
 |byt i=>
  let(t,Y):=c;cases y with
  |byt j=>let(t',Y):=a;exact W.ne_bytes (bE I q (eG not xh))
  |_=>exact cx (show b1=bm from b) ef
 |_=>cases y <;> exact cx (show b1=bm from b) ef
theorem pH:l6 X (eT .Lt) (FA λi j=>.bl (decide (i<j))):=pG λ_ _ _ _ _ _ _ q=>lt_int q
theorem gL:l6 X (eT .LtE) (FA λi j=>.bl (decide (i<=j))):=pG λ_ _ _ _ _ _ _ q=>le_int q
theorem fv:l6 X (eT .Gt) (FA λi j=>.bl (decide (j<i))):=pG λ_ _ _ _ _ _ _ q=>gt_int q
theorem tY:l6 X (eT .GtE) (FA λi j=>.bl (decide (j<=i))):=pG λ_ _ _ _ _ _ _ q=>ge_int q
theorem PP:l6 X (eT .Lt) (λx y H Q=>∃i j,x = .str i/\y = .str j/\Q (.bl (decide (i.cps.1<j.cps.1))) H):=by
 intro g s A H x y v u Q I a b h;let(i,j,Y,Y,q):=h;let(t,Y):=a;let(t',Y):=b;exact lt_str (bE I q Y)
theorem c7:l6 X (eT .Is) (λx y H Q=>y = .non/\Q (.bl (decide (x = .non))) H):=by
 intro g s A H x y v u Q I a b h;let(Y,q):=h;cases b;refine is_none_gen (bE I q ?_);cases x <;> first
  | (let(t,Y):=a;rfl)
theorem kQ:l6 X (eT .IsNot) (λx y H Q=>y = .non/\Q (.bl (!decide (x = .non))) H):=by
 intro g s A H x y v u Q I a b h;let(Y,q):=h;cases b;refine isnot_none_gen (bE I q ?_);cases x <;> first
  | (let(t,Y):=a;rfl)
theorem l6.or{r r':R2}(h:l6 X f r)(h':l6 X f r'):l6 X f (λx y H Q=>r x y H Q\/r' x y H Q):=by
 intro g s A H x y v u Q I a b q;rcases q with q |q
 ·exact h g s A H x y v u Q I a b q
 ·exact h' g s A H x y v u Q I a b q
theorem yU(b:f3)(h:zzp (op≠.In) zz1)(h2:zzp (op≠.NotIn) zz1):h8 op b=b1:=by
 have e1:(op ==Js)=b1:=by grind
 have a:(op ==H8)=b1:=by grind
 cases b <;> simp[h8,e1,a]
theorem mK{r:R2}(c:l6 X (eT op) r)(d:PE X a ta)(e:PE X b n)(f:h8 op b=b1):PE X (.Compare a [op] [b] pos) (Ez r ta n):=by
 intro g s A H Q I h;exact Jt (qZ d e I h λv u s2 x y H2 d e j q=>c g s2 A H2 x y v u Q d e j q) f
inductive Ow(Q:eg->Hp->Prop)(x:V)(N:Hp):Prop
 |i(k:_)(_:x = .bl k)(_:Q k N)
def jS(t:TE):TT:=λA H Q=>t A H λx N=>Ow Q x N
theorem iN{r:R2}(d:l6 X (eT op) r)(f:PE X a ta)(j:PE X b n)(m:h8 op b=b1):PT X (.Compare a [op] [b] pos) (jS (Ez r ta n)):=by
 intro g s A H Q I h;refine FI (gv (f g s A H _ I h) λv s1 ⟨x,H1,f,p,q⟩=>gv (j g s1 A H1 _ f q) λu s2 ⟨y,H2,f,j,q⟩=>
  gv (d g s2 A H2 x y v u _ f p j q) λc p ⟨z,f,j,q,k,e,d⟩=>?_) m
 subst e;cases q;exact gd (f,j,d)
inductive Sq(r':R2)(w:TE)(A:St)(Q:VK)(y:V)(z:V)(a:Hp):Prop
 |i(k:_)(_:z = .bl k)(_:(if k=bm then w A a λb c=>r' y b c Q else Q (.bl b1) a))
def Mq(r r':R2)(ta n w:TE):TE:=λA H Q=>ta A H λx H1=>n A H1 λy H2=>r x y H2 λz a=>Sq r' w A Q y z a
theorem mJ{r r':R2}(m:l6 X (eT op) r)(f:l6 X (eT op') r')(j:PE X a ta)(p:PE X b n)(B:PE X c w)(C:lastMarks [op,op'] [b,c]=b1:=by with_unfolding_all rfl):PE X (.Compare a [op,op'] [b,c] pos) (Mq r r' ta n w):=by
 intro g s A H Q I h;refine Compare_chain (gv (j g s A H _ I h) λv s1 ⟨x,H1,j,q,D⟩=>chain_link (gv (p g s1 A H1 _ j D) λu s2 ⟨y,H2,p,j,D⟩=>
  gv (m g s2 A H2 x y v u _ p q j D) λd D ⟨z,m,p,E,k,e,q⟩=>?_)) C
 subst e;cases E;refine gd ?_;cases k with
 |false=>exact ite_ff (.bl b1,m,p,Y,q)
 |true=>exact ite_tt (chain_last (gv (B g D A m _ p q) λp D ⟨m,q,B,C,E⟩=>f g D A q y m u p Q B j C E))
theorem zP{r r':R2}(m:l6 X (eT op) r)(f:l6 X (eT op') r')(j:PE X a ta)(p:PE X b n)(B:PE X c w)(C:lastMarks [op,op'] [b,c]=b1:=by with_unfolding_all rfl):PT X (.Compare a [op,op'] [b,c] pos) (jS (Mq r r' ta n w)):=by
 intro g s A H Q I h;refine isTrue_chain (gv (j g s A H _ I h) λv s1 ⟨x,H1,j,q,D⟩=>test_link (gv (p g s1 A H1 _ j D) λu s2 ⟨y,H2,p,j,D⟩=>
  gv (m g s2 A H2 x y v u _ p q j D) λd D ⟨z,m,p,E,k,e,q⟩=>?_)) C
 subst e;cases E;refine gd ?_;cases k with
 |false=>
  let(G,C,E):=q;cases C;exact ite_ff (m,p,E)
 |true=>
  refine ite_tt (test_last (gv (B g D A m _ p q) λp D ⟨m,q,C,E,B⟩=>gv (f g D A q y m u p _ C j E B) λd' C ⟨E,p,D,j,B,m,q⟩=>?_));subst m;cases j;exact gd (p,D,q)
def qL(K:bI)(x:V)(H:Hp)(k:eg):Prop:=
 match x with
 |.non=>k=b1
 |.bl b=>k=b
 |.int i=>k=(i !=0)
 |.str y=>?ly<=bT/\k=((?ly:cs) !=0)
 |.byt y=>?ey<=bT/\k=((?ey:cs) !=0)
 |.ref p=>(∃B,eb K H p B/\k = !B.isEmpty)\/(∃B,fx K H p B/\k = !B.isEmpty)\/∃E,H p=O (.dK E)/\k = !E.isEmpty
 |_=>fP
theorem Yh{E:U (κ×V)}{vs:U (κ×b0)}(r:KV E vs):(!vs.isEmpty) = !E.isEmpty:=by
 cases r <;> rfl
theorem xX(r:az B J):(!J.toArray.isEmpty) = !B.isEmpty:=by
 cases r <;> simp
theorem kK:(bT:b8)<2 ^ 63:=by rw[e2];decide
theorem qh:Rr X (λx H Q=>∃k,qL X.K x H k/\Q k H):=by
 intro g s A H x v Q I c h;let(k,e,q):=h;have a:=e2;cases x with
 |non=>
  cases c;have a:=e;subst a;exact truthy_none (H,I,q)
 |bl b=>
  cases c;have a:=e;subst a;exact gd (H,I,q)
 |int i=>
  let(t,Y):=c;have a:=e;subst a;exact Υ (H,I,q)
 |str y=>
  let(t,Y):=c;obtain⟨d,a⟩:?ly<=bT/\k=((?ly:cs) !=0):=e;subst a;exact Φ ?l (H,I.tok _,q)
 |byt y=>
  let(t,Y):=c;obtain⟨d,a⟩:?ey<=bT/\k=((?ey:cs) !=0):=e;subst a;exact W.truthy_bytes ?l (H,I.tok _,q)
 |ref p=>
  cases c;have a:=e;rcases a with⟨B,d,a⟩ |⟨B,d,a⟩ |⟨E,d,a⟩
  ·subst a;let(J,r,pl,hz):=I.list d;have c:=?lr;exact wpAny_truthy_list pl.isList (by simp only[b7];lia) (H,I.tok _,by rw[xX r];exact q)
  ·subst a;let(J,r,pl,hz):=I.tuple d;have c:=?lr;exact truthy_tuple pl (by simp only[b7];lia) (H,I.tok _,by rw[xX r];exact q)
  ·subst a;obtain⟨hz,a,vs,r,m⟩:?lE<=bT/\(p ==hC)=b1/\∃vs,KV E vs/\s.heap.DictOf (cy X.1 X.w) p vs:=I.hok p _ d;have c:=Paired.length r;exact wpAny_truthy_dict a m ?l (H,I.tok _,by exact (Yh r) ▸ q)
 |_=>exact (show fP from e).elim
theorem Ui(c:PE X a ta)(d:∀b,isTrue a X.10 b=(do let v <-b;pU a.pos;ms [v] (Fi v))):
  PT X a (λA H Q=>ta A H λx N=>∃k,qL X.K x N k/\Q k N):=by
 intro g s A H Q I h;exact Fj (gv (c g s A H _ I h) λv s1 ⟨x,H1,b,c,e⟩=>qh g s1 A H1 x v Q b c e) (d _)
theorem jO:l6 X (i' .Add) (λx y H Q=>∃i j,x = .str i/\y = .str j/\?li+?lj<=bT/\Q (.str (i++j)) H):=by
 intro g s A H x y v u Q I a b h;let(i,j,Y,Y,hz,q):=h;let(t,Y):=a;let(t',Y):=b;exact add_str (λt' tk=>(.str (i++j),H,I.tok _,⟨_,Y⟩,q)) hz
theorem cA{x:V}(r:az [x] us):∃u,us=[u]/\aB x u:=by
 cases r with
 |cons a b=>cases b;exact(1,a)
theorem lD{x:V}(r:az [x,y] us):∃u a,us=[u,a]/\aB x u/\aB y a:=by
 cases r with
 |cons a b=>
  cases b with
  |cons b c=>cases c;exact(_,1,a,b)
theorem QH(a:X.15=bm):bx X (.builtin "max") (λB H Q=>∃i j,B=[.int i,.int j]/\Q (.int (if j > i then j else i)) H):=by
 intro g s A H B us Q I r h;let(i,j,Y,q):=h;let(u,b,Y,(t,Y),(t',Y)):=lD r;refine max_two_ints (I.ok.hd a) λh' tk k=>(_,H,I.kept k,?_,q)
 by_cases a:j > i
 ·rw[d6 a,d6 a];exact⟨_,Y⟩
 ·rw[du a,du a];exact⟨_,Y⟩
theorem Sd:bx X (.type "int") (λB H Q=>(∃i,B=[.int i]/\Q (.int i) H)\/∃k,B=[.bl k]/\Q (.int (if k then 1 else 0)) H):=by
 intro g s A H B us Q I r h;rcases h with⟨i,rfl,q⟩ |⟨k,rfl,q⟩
 ·let(u,Y,t,Y):=cA r;exact call_int_int (.int i,H,I,⟨_,Y⟩,q)
 ·let(u,Y,a):=cA r;cases a;exact call_int_bool (.int (if k then 1 else 0),H,I.tok _,⟨_,Y⟩,q)
end
structure jq(h:fy)(x dx C:a_)(mA:c3->b5 b0):Prop where
 obj:h.get? x=O (oa C dx)
 ns:h.Ns1 dx mA
 ne:dx≠x
theorem Xi(n:h.Ns1 dx mA):∃od,h.get? dx=O od/\∀name,Fo name od=O (mA name):=by
 let(o,es,ep,b,hd,c,_,d):=n;refine(o,b,λname=>?_);have e:=d name;unfold nsFind He at e;rw[<-Array.find?_toList]at e
 delta Fo
 rw[hd];dsimp only
 split
 ·simp_all
 ·rename_i q
  rw[q]at e;have a:es.toList.any (·.refKey)=b1:=by
   rw[List.any_eq_false];intro y d;let(z,t,b):=c y (CI.mp d);simp[K3,b]
  grind
theorem jq.look{x:a_}(I:jq h x dx C mA):∃od,W.InstAt h x (oa C dx) C (O od)/\∀name,Fo name od=O (mA name):=
 let⟨od,a,b⟩:=Xi I.2
 (od,(I.1,Y,Y,a),b)
section
variable{x f:a_}
theorem QV{a:eg}(X:K.In s.1)(I:jq s.1 x dx C mA)(c:y' K C name=bm)(d:Fp K C=bm)(e:hM K (.ref C) name=O bd)(b:mA name=O v)(b:K4 v=bm)(h:Q v { s with toks:=s.4+1 }):
  dy (ds prog w) Aa (K5 (.ref x) name a) Q on s:=by
 let(od,Ag,a):=I.look;exact W.get_value X Ag (CT c).1 (W.findObj_own d e Y ?x) b h
theorem NZ{Q:b0×U b0->b'->Prop}(X:K.In s.1)(I:jq s.1 x dx C mA)(a:y' K C name=bm)(b:hM K (.ref C) name=O (O (.ref f)))(c:K6 K (.ref f)=bm)(d:mA name=bd)(h:Q (zzq (.ref f) [.ref x]) s):
  dy (ds prog w) Aa (sA (.ref x) name pl) Q on s:=by
 let(od,Ag,e):=I.look;exact W.method_fn X Ag (CT a).1 (CT a).2 b (q_.mp c) (by show (Fo name od).map (·.isSome)=O b1;rw[e,d];rfl) h
theorem ER{ns:U c3}{Q:Gc->b'->Prop}(X:K.In s.1)(I:jq s.1 x dx C mA)(a:hM K (.ref C) "__setattr__" =O (O (.builtin "object.__setattr__")))(c:JT K C=bm)(d:Hf K C name=O bd)(e:Fp K C=bm)(g:y2 mA ns)(f:?lns<=bT)(h:∀h',jq h' x dx C (λy=>if y=name then O v else mA y)->gS dx s.1 h'->Q () { s with heap:=h',toks:=s.4+2 }):
  dy (ds prog w) Aa (setAttr (.ref x) name v) Q on s:=by
 let(od,Ag,f):=I.look;refine W.set_plain X Ag a (W.osa_open X Ag c d λb=>?_);let(cd,c,a):=W.any_some e;refine al (b4 (al (al (Ju I.1 (al (Χ (W.looks_clsIn X c) ?_))))));rw[a];refine b4 (al (b4 (al ?_)));refine wpAny_nsSet1 I.2 λh' a c=>?_;let(oD,j,m,d,e,f):=a.count (IK name v g);refine al (wpAny_lookBehind d (by exact e ▸ (pastItsLine_dict (ce f ?x))) ?_);exact b4 (h _ ((c.2 _ (fU I.3)).trans I.1,a,I.3) c)
theorem XY(X:K.In s.1)(a:MK K C=bm)(hi:hM K (.ref C) "__init__" =O (O (.ref f)))(b:W.typeIn K (.ref f)=O (.type "function"))(h:lp (ds prog w) (Aa.under (.builtin "type.__call__" (.ref C::vs,kw))) (.call (.ref f) (.ref (?ss+1)::vs,kw)) (W.InitBack (?ss+1) R)
   { s with heap:=(s.heap.push kG).push (oa C ?ss) }):
  lp (ds prog w) Aa (.call (.ref C) (vs,kw)) R s:=by
 exact W.make_core (W.makes_of X a) (rx X hi) (λa=>W.bind_fn X a b) (.inl Y) h
end
noncomputable def cV(f:c3)(v:V):U (c3×V)->U (c3×V)
 |[]=>[(zzq f v)]
 | (Ac,x)::r=>if Ac=f then (zzq Ac v)::r else (zzq Ac x)::cV f v r
theorem yj(f Ac:c3)(v:V):∀fs:U (c3×V),(cV f v fs).lookup Ac=if Ac=f then O v else fs.lookup Ac
 |[]=>by
  show List.lookup Ac [(zzq f v)]=_;by_cases h:Ac=f
  ·have a:(Ac ==f)=bm:=q_.mpr h
   grind
  ·grind
 | (k,x)::r=>by
  have a:=yj f Ac v r;rw[show cV f v ((zzq k x)::r)=(if k=f then (zzq k v)::r else (zzq k x)::cV f v r) from Y]
  grind
theorem sU(f:c3)(v:V):∀fs:U (c3×V),f∈(cV f v fs).map (·.1)/\∀Ac,Ac∈fs.map (·.1)->Ac∈(cV f v fs).map (·.1)
 |[]=>(by simp[cV],λAc h=>by simp at h)
 | (k,x)::r=>by
  let(i1,i2):=sU f v r;rw[show cV f v ((zzq k x)::r)=(if k=f then (zzq k v)::r else (zzq k x)::cV f v r) from Y]
  grind
theorem yf(f:c3)(v:V):∀fs:U (c3×V),(cV f v fs).length<=?lfs+1
 |[]=>by simp[cV]
 | (k,x)::r=>by
  have a:=yf f v r;rw[show cV f v ((zzq k x)::r)=(if k=f then (zzq k v)::r else (zzq k x)::cV f v r) from Y];by_cases a:k=f
  ·simp_all
  ·simp_all
theorem cZ.some_of{v:V}{o:b5 b0}(r:cZ (O v) o):∃u,o=O u/\aB v u:=by
 cases o with
 |none=>exact (show fP from r).elim
 |some u=>exact(u,Y,r)
theorem cZ.none_of{o:b5 b0}(r:cZ bd o):o=bd:=by
 cases o with
 |none=>rfl
 |some u=>exact (show fP from r).elim
theorem N2{v:V}(r:aB v u):K4 u=bm:=by
 cases v with
 |non=>cases (show u=g2 from r);rfl
 |bl b=>cases (show u=ke b from r);rfl
 |int i=>let(t,e):=(show ∃t,u=ni i t from r);cases e;rfl
 |str x=>let(t,e):=(show ∃t,u=nk x t from r);cases e;rfl
 |byt b=>let(t,e):=(show ∃t,u=H7 b t from r);cases e;rfl
 |flt b=>let(t,e):=(show ∃t,u=C5 b t from r);cases e;rfl
 |ref a=>cases (show u=eM a from r);rfl
 |ty n=>cases (show u=hk n from r);rfl
section
variable{b c:U (c3×V)}
theorem oY(c:oH Ab w H h)(e:H a=O (.ins C dx b)):∃mA,jq h a dx C mA/\(∀f,cZ (b.lookup f) (mA f))/\y2 mA (b.map (·.1))/\?lb<=1000/\H dx=O (.own a):=by
 let(d,z,ne,g,mA,n,r,q):=(show bo Ab w H h a (.ins C dx b) from c a _ e)
 exact(mA,(g,n,ne),r,q,z,d)
end
structure zI(K:bI)(C:a_):Prop where
 pg:y' K C Str.empty=bm
 hd:Fp K C=bm
 po:JT K C=bm
 sa:hM K (.ref C) "__setattr__" =O (O (.builtin "object.__setattr__"))
theorem zI.get(c:zI K C)(f:c3):y' K C f=bm:=c.1
def cG(K:bI)(C:a_)(f:c3):Prop:=hM K (.ref C) f=O bd
theorem cG.taker{f:c3}(n:cG K C f):Hf K C f=O bd:=by
 delta Hf
 rw[show hM K (.ref C) f=O bd from n];rfl
structure jp(K:bI)(C:a_)(m:c3)(f:a_):Prop where
 at_:hM K (.ref C) m=O (O (.ref f))
 fn:K6 K (.ref f)=bm
 kp:hw K (.ref f)=bm
section
variable{d:U (c3×V)}{f:c3}{v:V}
theorem xR{b:eg}(I:Inv X g A H s)(e:H a=O (.ins C dx d))(c:zI X.K C)(n:cG X.K C f)(l:d.lookup f=O v)(h:∀u s',Inv X g A H s'->aB v u->Q u s'):dy ?m Aa (K5 (.ref a) f b) Q on s:=by
 let(mA,m,r,_,_,_):=oY I.10 e;let(u,p,j):=cZ.some_of (by exact l ▸ (r f));exact QV I.kIn m (c.get f) c.2 n p (N2 j) (h u _ (I.tok _) j)
theorem sy{m:c3}{Ac:a_}{Q:b0×U b0->b'->Prop}(I:Inv X g A H s)(e:H a=O (.ins C dx d))(c:zI X.K C)(k:jp X.K C m Ac)(l:d.lookup m=bd)(h:Q (zzq (.ref Ac) [.ref a]) s):dy ?m Aa (sA (.ref a) m pl) Q on s:=by
 let(mA,b,r,_,_,_):=oY I.10 e;exact NZ I.kIn b (c.get m) k.1 k.2 (cZ.none_of (by exact l ▸ (r m))) h
theorem M5{Q:Gc->b'->Prop}(I:Inv X g A H s)(e:H a=O (.ins C dx d))(c:zI X.K C)(n:cG X.K C f)(x:?ld<1000)(v:aB y u)(h:∀s',Inv X g A (upd H a (.ins C dx (cV f y d))) s'->Q () s'):dy ?m Aa (setAttr (.ref a) f u) Q on s:=by
 let(mA,j,r,wi,_,p):=oY I.10 e;have hz:(d.map (·.1)).length<=bT:=by simp only[ai,e2];lia
 refine ER I.kIn j c.4 c.3 n.taker c.2 wi hz λh' m w=>h _ ?_;have hd:∃o,h'.get? dx=O o:=by let(o,_,_,x,_):=m.2;exact(o,x)
 refine I.write (by rw[e];exact ho) (.inr p) (λb q x z=>(w.2 b x).trans z) hd ?_;refine(by rw[af j.3];exact p,?_,j.3,m.1,_,m.2,λAc=>?_,λAc x=>?_)
 ·have:=yf f y d;exact ce ‹_› ‹_›
 ·show cZ ((cV f y d).lookup Ac) (if Ac=f then O u else mA Ac);rw[yj];by_cases q:Ac=f
  ·rw[d6 q,d6 q];exact v
  ·simp_all
 ·by_cases q:Ac=f
  ·simpa only[q]using (sU f y d).1
  ·refine (sU f y d).2 Ac (wi Ac λz=>x ?_)
   grind
theorem Inv.made(I:Inv X g A H s):Inv X g A (upd (upd H ?ss (.own (?ss+1))) (?ss+1) (.ins C ?ss []))
  { s with heap:=(s.heap.push kG).push (oa C ?ss) }:=by
 have e1:(s.heap.push kG).get? ?ss=O kG:=b_ s.1 Y;have a:((s.heap.push kG).push (oa C ?ss)).get? (?ss+1)=O (oa C ?ss):=by
  have:=b_ (s.heap.push kG) (o:=oa C ?ss) Y
  simp_all
 have c:(s.heap.push kG).Ns ?ss (λ_=>bd):=(kG,#[],_,e1,Y,(λe d=>cx d ?s),λ_=>rfl)
 have d:=I.laid (o:=.own (?ss+1)) (h':=s.heap.push kG) (t':=s.4) (λb u q=>aw _ q) (b2 _) (_,e1);refine d.laid (t':=s.4) (λb u q=>aw _ q) (g3 (fN _ _)) ?_;have ne:?ss≠?ss+1:=cb (f_ _);refine(by rw[af ne,ae],ej _,ne,a,λ_=>bd,(ML c).at λo q=>aw _ q,λ_=>ho,λy d=>cx Y d)
theorem NP{f:c3}(b:h9 e f env (eval e env)=eval e env)(h:dy (ds prog w) Aa (eval e env) (λo a=>dy (ds prog w) Aa (K5 o f bm) Q on a) on s):dy (ds prog w) Aa (eval (.Attribute e f pos) env) Q on s:=
 Attribute_any_ h (by simp only[arm_eval_Attribute,b])
end
inductive TK(K:bI)(f:c3)(Q:VK)(x:V)(H1:Hp):Prop
 |i(a C dx fs v:_)(_:x = .ref a)(_:H1 a=O (.ins C dx fs))(_:zI K C)(_:cG K C f)(_:fs.lookup f=O v)(_:Q v H1)
def iP(K:bI)(ta:TE)(f:c3):TE:=λA H Q=>ta A H λx H1=>TK K f Q x H1
inductive XW(K:bI)(f:c3)(D:fJ)(A:St)(y:V)(x:V)(H2:Hp):Prop
 |i(a C dx fs:_)(_:x = .ref a)(_:H2 a=O (.ins C dx fs))(_:zI K C)(_:cG K C f)(_:?lfs<1000)(_:D.nx A (upd H2 a (.ins C dx (cV f y fs))))
def m8(K:bI)(ta tv:TE)(f:c3):TS:=λD A H=>tv A H λy H1=>ta A H1 λx H2=>XW K f D A y x H2
def vN(X:Cx)(op:u4)(a:V->V->Hp->VK->Prop):Prop:=
 ∀(g:U (a_×hg))(s:b')(A:St)(H:Hp)(x y:V)(u v:b0)(Q:VK),Inv X g A H s->aB x u->aB y v->a x y H Q->dy ?m X.A (HW op u v) (EP X g A Q) X.xe s
inductive Yz(K:bI)(tv:TE)(b:V->V->Hp->VK->Prop)(f:c3)(D:fJ)(A:St)(x:V)(H1:Hp):Prop
 |i(a C dx fs v:_)(_:x = .ref a)(_:H1 a=O (.ins C dx fs))(_:zI K C)(_:cG K C f)(_:fs.lookup f=O v)(_:tv A H1 λy H2=>b v y H2 λz d=>∃c b,d a=O (.ins C c b)/\?lb<1000/\D.nx A (upd d a (.ins C c (cV f z b))))
def Ma(K:bI)(ta tv:TE)(a:V->V->Hp->VK->Prop)(f:c3):TS:=λD A H=>ta A H λx H1=>Yz K tv a f D A x H1
section
variable{b:f3}{f:c3}
theorem cL(b:PE X e ta)(d:h9 e f X.10 (eval e X.10)=eval e X.10):PE X (.Attribute e f pos) (iP X.K ta f):=by
 intro g s A H Q I h;refine NP d (gv (b g s A H _ I h) λu s1 ⟨x,H1,b,d,a,C,dx,fs,v,ex,j,c,n,l,q⟩=>?_);subst ex;obtain rfl:u=eM a:=d;exact xR b j c n l λj s2 b d=>(v,H1,b,d,q)
theorem cF(d:PE X b ta)(e:PE X value tv)(j:mX value (O (.Attribute b f pos')) pos.1 X.10=hl b1):PS X (.Assign [.Attribute b f pos'] value pos) (m8 X.K ta tv f):=by
 intro g s A H D I h;refine plainObj_wpAny_Assign_Attribute (gv (e g s A H _ I h) λu s1 ⟨y,H1,e,m,q⟩=>gv (d g s1 A H1 _ e q) λov s2 ⟨x,H2,e,d,a,C,dx,fs,ex,p,c,n,l,v⟩=>?_) j;subst ex;obtain rfl:ov=eM a:=d;exact M5 e p c n l m λd e=>(A,_,e,v)
theorem uk{op:u4}{e:V->V->Hp->VK->Prop}(j:PE X b ta)(m:PE X value tv)(d:vN X op e):PS X (.AugAssign (.Attribute b f tpos) op value pos) (Ma X.K ta tv e f):=by
 intro g s A H D I h;refine wpAny_AugAssign_AttributeAny (gv (j g s A H _ I h) λov s1 ⟨x,H1,e,j,a,C,dx,fs,v,ex,p,c,n,l,q⟩=>?_);subst ex;obtain rfl:ov=eM a:=j;refine xR e p c n l λu s2 e j=>gv (m g s2 A H1 _ e q) λw3 e ⟨y,H2,m,p,w⟩=>gv (d g e A H2 v y u w3 _ m j p w) λE G ⟨z,J,e,j,m,p,d,w,B⟩=>?_;exact M5 e d c n w j λj e=>(A,_,e,B)
inductive zQ(x:V)(y:V)(H:Hp)(Q:VK):Prop
 |i(i j:_)(_:x = .int i)(_:y = .int j)(_:Q (.int (i+j)) H)
theorem sP:vN X .Add zQ:=by
 rintro g s A H x y u v Q I a b ⟨i,j,rfl,rfl,q⟩;let(t,Y):=(show ∃t,u=ni i t from a)
 let(t',Y):=(show ∃t',v=ni j t' from b)
 exact IL (.int (i+j),H,I.tok _,⟨_,Y⟩,q)
theorem ϯ{m:c3}{b:U f3}(d:PE X e te)(I:Inv X g A H s)(h:te A H λx H1=>∃a C dx fs Ac,x = .ref a/\H1 a=O (.ins C dx fs)/\zI X.K C/\jp X.K C m Ac/\fs.lookup m=bd/\
   ∀s1,Inv X g A H1 s1->dy ?m X.A (uF pos (.ref Ac) [.ref a] (gx pos (cH b X.10)) (n1 pos (j2 [] X.10))) Q X.xe s1)(j:eval (.Call (.Attribute e m apos) b [] pos) X.10=(do
   let ov <-eval e X.10
   pU apos.atName
   let (zzq f first) <-ms [ov] (sA ov m pl)
   uF pos f first (gx pos (cH b X.10)) (n1 pos (j2 [] X.10)))):
  dy ?m X.A (eval (.Call (.Attribute e m apos) b [] pos) X.10) Q X.xe s:=by
 refine w0 (pl:=pl) (gv (d g s A H _ I h) λu s1 ⟨x,H1,b,d,a,C,dx,fs,Ac,ex,n,c,k,l,q⟩=>?_) j;subst ex;obtain rfl:u=eM a:=d;exact sy b n c k l (q s1 b)
end
section
variable{c:b0}{b:eg}
inductive eV(K:bI)(H:Hp):V->b0->Prop where
 |non:eV K H .non (.type "NoneType")
 |bl(x:eg):eV K H (.bl x) (.type "bool")
 |int(i:cs):eV K H (.int i) (.type "int")
 |str(x:c3):eV K H (.str x) (.type "str")
 |flt(x:UInt64):eV K H (.flt x) (.type "float")
 |lst{a:a_}{B:U V}(e:H a=O (.lst B)):eV K H (.ref a) (.type "list")
 |frz{a:a_}{o:hg}{B:U V}(e:H a=O (.frz o (.lst B))):eV K H (.ref a) (.type "list")
 |tup{a:a_}{B:U V}(e:H a=O (.tup B)):eV K H (.ref a) (.type "tuple")
 |dK{a:a_}{E:U (Key×V)}(e:H a=O (.dK E)):eV K H (.ref a) (.type "dict")
 |dT{a:a_}{E:U (U Key×V)}(e:H a=O (.dT E)):eV K H (.ref a) (.type "dict")
 |ins{a C dx:a_}{fs:U (c3×V)}(e:H a=O (.ins C dx fs))(cl:zI K C)(b:hM K (.ref C) "__class__" =O (O (.builtin "object.__class__")))
   (b:v2 K (.builtin "object.__class__") "__get__" =O (O (.builtin "getset_descriptor.__get__"))) (b:E2 K (.builtin "object.__class__")=O bm)
   (b:EG K C (.type "object")=O bm):eV K H (.ref a) (.ref C)
theorem Z_{x:V}{t:b0}(I:Inv X g A H s)(d:aB x u)(ty:eV X.K H x t)(e:e3 X.K t c=O b)(h:∀tk,Q (.bool b) { s with toks:=tk }):
  dy ?m Aa (qB (.builtin "isinstance") [u,c]) Q on s:=by
 cases ty with
 |non=>cases (show u=g2 from d);exact ka W.kitx_none I.kIn ho e (λz=>nomatch z) h
 |bl y=>cases (show u=ke y from d);exact ka W.kitx_bool I.kIn ho e (λz=>nomatch z) h
 |int i=>let(t,q):=(show ∃t,u=ni i t from d);cases q;exact ka W.kitx_int I.kIn ho e (λz=>nomatch z) h
 |str y=>let(t,q):=(show ∃t,u=nk y t from d);cases q;exact ka W.kitx_str I.kIn ho e (λz=>nomatch z) h
 |flt y=>let(t,q):=(show ∃t,u=C5 y t from d);cases q;exact ka W.kitx_float I.kIn ho e (λz=>nomatch z) h
 |@lst a B f=>
  cases (show u=eM a from d);let(_,_,n,_,h1):=(show bo X.1 X.w H s.1 a (.lst B) from I.hok a _ f)
  exact ka JU I.kIn (_,h1,Y) e (λz=>nomatch z) h
 |@frz a j B f=>
  cases (show u=eM a from d);let(_,_,_,n,_,h1):=(show bo X.1 X.w H s.1 a (.frz j (.lst B)) from I.hok a _ f)
  exact ka JU I.kIn (_,h1,Y) e (λz=>nomatch z) h
 |@tup a B f=>
  cases (show u=eM a from d);let(_,_,_,p):=(show bo X.1 X.w H s.1 a (.tup B) from I.hok a _ f)
  let(o,h1,h2,_):=p;exact ka W.kitx_tuple I.kIn (o,h1,h2) e (λz=>nomatch z) h
 |@dK a E f=>
  cases (show u=eM a from d);let(_,_,vs,_,p):=(show bo X.1 X.w H s.1 a (.dK E) from I.hok a _ f)
  let(o,es,ep,h1,h2,_):=p;exact ka JV I.kIn (o,h1,h2.1) e (λz=>nomatch z) h
 |@dT a E f=>
  cases (show u=eM a from d);let(_,_,B,_,o,es,ep,h1,h2,_):=(show bo X.1 X.w H s.1 a (.dT E) from I.hok a _ f)
  exact ka JV I.kIn (o,h1,h2.1) e (λz=>nomatch z) h
 |@ins a C dx fs f cl m v j w=>
  cases (show u=eM a from d);let(mA,d,_):=oY I.10 f;let(od,Ag,_):=d.look;exact ka (W.kitx_own (cl.get _) cl.2 m v j w) I.kIn Ag e (λz=>nomatch z) h
end
structure aZ(k:b8)(A:hB):Prop where
 hd:A.1=bd
 dp:A.2+3 * k+5<Jv
 un:A.5+16 * k+200<m4
theorem aZ.mono{k:b8}(r:aZ k Aa)(h:j<=k):aZ j Aa:=(r.1,by have:=r.2;lia,by have:=r.3;lia)
theorem aZ.deeper{k:b8}(r:aZ (k+1) Aa)(env:u2):aZ k (Aa.deeper env):=
 (r.1,by have:=r.2;show Aa.2+1+3 * k+5<_;lia,by have:=r.3;show Aa.5+3+16 * k+200<_;lia)
theorem aZ.in1{k:b8}(r:aZ (k+1) Aa):aZ k Aa.in1:=
 (r.1,by have:=r.2;show Aa.2+3 * k+5<_;omega,by have:=r.3;show Aa.5+1+16 * k+200<_;omega)
theorem WD     : (Aa.under (.builtin "type.__call__" (.ref C::us,kw))).depth=Aa.2+1:=Y
theorem Vz     : (Aa.under (.builtin "type.__call__" (.ref C::us,kw))).units=Aa.5+1:=Y
theorem aZ.make{k:b8}(r:aZ (k+1) Aa)(C:a_)(us:U b0)(kw:U (c3×b0)):aZ k (Aa.under (.builtin "type.__call__" (.ref C::us,kw))):=
 (r.1,by have:=r.2;simp only[WD];lia,by have:=r.3;simp only[Vz];lia)
theorem aZ.depth{k:b8}(r:aZ k Aa):Aa.2<Jv:=by have:=r.2;lia
theorem aZ.units{k:b8}(r:aZ k Aa):Aa.5+64<m4:=by have:=r.3;lia
def fD:TA:=λ_ H Q=>Q [] H
def fe(ta:TE)(a:TA):TA:=λA H Q=>ta A H λx H1=>a A H1 λB H2=>Q (x::B) H2
section
variable{a:TA}
theorem dJ:PA X [] fD:=λ_ _ _ _ H Q I h=>hj ([],H,I,.nil,h)
theorem aJ(b:PE X e te)(c:PA X es a)(d:zzp (cH (e::es) X.10=(zzq b1 (eval e X.10))::cH es X.10) zz0):PA X (e::es) (fe te a):=by
 intro pos g s A H Q I h;rw[d];refine hc (gv (b g s A H _ I h) λu s1 ⟨x,H1,b,d,f⟩=>?_);exact gv (c pos g s1 A H1 _ b f) λus s2 ⟨B,H2,b,c,f⟩=>(x::B,H2,b,.cons d c,f)
def Mg(a:TA):TE:=λA H Q=>a A H λB H1=>?lB<=bT/\∀p,H1 p=bd->Q (.ref p) (upd H1 p (.tup B))
def L8(a:TA):TE:=λA H Q=>a A H λB H1=>?lB<=bT/\∀p,H1 p=bd->Q (.ref p) (upd H1 p (.lst B))
theorem bP{c}(h:PA X es a):PE X (.Tuple es c pos) (Mg a):=by
 intro g s A H Q I c;refine wpAny_Tuple_spliced (gv (h pos g s A H _ I c) λus s1 ⟨B,H1,c,r,z,q⟩=>(by exact ?lr ▸ z,?_));refine(.ref ?ss1,upd H1 ?ss1 (.tup B),c.laid (t':=s1.4) (λb u e=>aw _ e) (b2 _) ?_,Y,q _ (c.hok.fresh (b2 _)));exact(z,us,r,(_,b_ _ Y,Y,1))
theorem bO(h:PA X es a):PE X (.List es pos) (L8 a):=by
 intro g s A H Q I c;refine wpAny_List_spliced (gv (h pos g s A H _ I c) λus s1 ⟨B,H1,c,r,z,q⟩=>(by exact ?lr ▸ z,?_));refine(.ref ?ss1,upd H1 ?ss1 (.lst B),c.laid (t':=s1.4) (λb u e=>aw _ e) (b2 _) ?_,Y,q _ (c.hok.fresh (b2 _)));exact(z,us,(0),r,b_ _ Y)
end
abbrev Sp:=U V->Hp->VK->XK->Prop
variable{sp sp':Sp}
abbrev zH:=U u2->Hp->b'->XK->b0->b'->Prop
variable{CX:zH}
structure eR(P:f0)(w:gl)(K:bI)(mg:c3->b5 b0)(base:fy)(A:hB)(outer:U u2)(s:b')(H:Hp):Prop where
 frames:A.3=O outer
 mod:Mod K mg base
 bs:∀b o,base.get? b=O o->s.heap.get? b=O o/\H b=bd
 bsz:base.objs.size<=s.heap.objs.size
 funs:s.heap.FunFrames base outer
 frf:∀b∈r8 outer,H b=bd
 hok:oH P w H s.1
 bare:qW s.2
inductive CE(outer:U u2)(Ab:f0)(w:gl)(H:Hp)(s:b')(Q:VK)(u:b0)(s':b'):Prop
 |i(v N:_)(_:s'.5=s.5)(_:qW s'.2)(_:Un (r8 outer) [] H N s.1 s'.1)(_:oH Ab w N s'.1)(_:aB v u)(_:Q v N)
def CR(CX:zH)(outer:U u2)(Ab:f0)(w:gl)(H:Hp)(s:b')(Q:VK)(on:XK)(r:Ρ)(s':b'):Prop:=
 match r with
 |.ok (.ret u)=>CE outer Ab w H s Q u s'
 |.ok _=>fP
 |.error e=>CX outer H s on e s'
structure aN(P:f0)(w:gl)(K:bI)(mg:c3->b5 b0)(base:fy)(CX:zH)(k:b8)(f:a_)(fd:i3)(ps:U c3)(sp:Sp):Prop where
 len:∀vs H Q E,sp vs H Q E->vs.length=ps.length
 run:∀(A:hB)(outer:U u2)(s:b')(H:Hp)(args:Args)(us:U b0)(vs:U V)(Q:VK)(E:XK),aZ k A->eR P w K mg base A outer s H->zJ s fd args (ps.zip us)->az vs us->sp vs H Q E->
  codeAny (ds P w) A (.call (.ref f) args) (CR CX outer P w H s Q E) s
theorem aN.mono{Ab:f0}{w:gl}{K:bI}{mg:c3->b5 b0}{base:fy}{CX:zH}{j k:b8}{f:a_}{fd:i3}{ps:U c3}{sp:Sp}(F:aN Ab w K mg base CX j f fd ps sp)(h:j<=k):
  aN Ab w K mg base CX k f fd ps sp:=(F.1,λAa outer s H a us vs Q on b=>F.run Aa outer s H a us vs Q on (b.mono h))
theorem aN.imp{k:b8}{f:a_}(F:aN Ab w K mg base CX k f fd ps sp)(h:∀vs H Q on,sp' vs H Q on->sp vs H Q on):aN Ab w K mg base CX k f fd ps sp':=
 (λvs H Q on q=>F.len vs H Q on (h _ _ _ _ q),λAa outer s H a us vs Q on b c d e g=>F.run Aa outer s H a us vs Q on b c d e (h _ _ _ _ g))
theorem eR.make(e:eR Ab w K mg base Aa outer s H)(C:a_)(us:U b0)(kw:U (c3×b0)):
  eR Ab w K mg base (Aa.under (.builtin "type.__call__" (.ref C::us,kw))) outer s H:=(by first |exact e.1 | (simpa[ pushEnvs]using e.frames),e.2,e.3,e.4,e.5,e.6,e.7,e.8)
theorem eR.in1(e:eR Ab w K mg base Aa outer s H):
  eR Ab w K mg base Aa.in1 outer s H:=(e.1,e.2,e.3,e.4,e.5,e.6,e.7,e.8)
theorem Inv.env0(I:Inv X g A H s):eR X.1 X.w X.K X.4 X.5 X.A X.12 s H:=
 (I.ok.10,I.ok.1,I.bs,ce I.ok.14 I.sz,I.stack,I.stkFree,I.10,I.3)
theorem Inv.after{Q:VK}(I:Inv X g A H s)(h:CE X.12 X.1 X.w H s Q u s'):EP X g A Q u s':=by
 let(v,N,os,a,un,c,r,q):=h;let(f,Ac,d,t,e):=s';obtain rfl:e=s.5:=os;exact(v,N,I.call (h':=f) (g':=Ac) (d':=d) (t':=t) un c a (λb z=>cx z ?s),r,q)
def uN(sp:Sp)(a:U V)(on:XK)(t:TA):TE:=λA H Q=>t A H λvs H1=>sp (vs++a) H1 Q on
inductive Rv(C:a_)(m:c3)(sp:Sp)(b:U V)(on:XK)(t:TA)(A:St)(Q:VK)(x:V)(H1:Hp):Prop
 |i(a dx fs:_)(_:x = .ref a)(_:H1 a=O (.ins C dx fs))(_:fs.lookup m=bd)(_:t A H1 λvs H2=>sp (x::(vs++b)) H2 Q on)
def qd(C:a_)(m:c3)(sp:Sp)(a:U V)(on:XK)(ta:TE)(t:TA):TE:=λA H Q=>ta A H λx H1=>Rv C m sp a on t A Q x H1
def LS(C:a_)(sp:Sp)(a:U V)(on:XK)(t:TA):TE:=λA H Q=>t A H λvs H1=>∀x dx,H1 x=bd->H1 dx=bd->dx≠x->
 sp (.ref x::(vs++a)) (upd (upd H1 dx (.own x)) x (.ins C dx [])) (λv H2=>v = .non/\Q (.ref x) H2) on
def cp(K:bI)(fd:i3)(ps:U c3)(a:U b0):Prop:=
 ∀(s:b')(us:U b0),K.In s.1->(us++a).length=?lps->zJ s fd (us,[]) (ps.zip (us++a))
theorem cp.all(h:∀us:U b0,?lus=?lps->C_ fd (us,[])=hl (ps.zip us)):cp K fd ps []:=λs us _ a=>by
 rw[f2]at a ⊢;exact .of_eq (h us a)
def c8(CX:zH)(X:Cx)(on:XK):Prop:=∀(g:U (a_×hg))(A:St)(H:Hp)(s:b')(e:b0)(s':b'),Inv X g A H s->CX X.12 H s on e s'->X.xe e s'
section
variable{k:b8}{f:a_}{b:U V}{d:U b0}{E:XK}{m:c3}{j:f3}{n:TA}
theorem m7{Q:VK}{vs:U V}(F:aN X.1 X.w X.K X.4 X.5 CX k f fd ps sp)(c:aZ k X.A)(j:cp X.K fd ps d)(hd:az b d)(m:c8 CX X E)(I:Inv X g A H s)(r:az vs us)(h:sp (vs++b) H Q E):dy ?m X.A (qB (.ref f) us) (EP X g A Q) X.xe s:=by
 have a:=r.append hd;have n:(us++d).length=?lps:=by exact ?la ▸ (F.len _ _ _ _ h)
 refine na (h6 (F.run X.A X.12 s H (us,[]) (us++d) (vs++b) Q E c I.env0 (j s us I.kIn n) a h) λr s' a=>?_);cases r with
 |error e=>exact m g A H s e s' I a
 |ok c=>
  cases c with
  |ret u=>exact I.after a
  |next=>exact fb a
  |brk=>exact fb a
  |cont=>exact fb a
theorem YZ(F:aN X.1 X.w X.K X.4 X.5 CX k f fd ps sp)(j:aZ k X.A)(m:Gl X x)(u:X.mg x=O (.ref f))(v:hw X.K (.ref f)=bm)(w:cp X.K fd ps d)(hd:az b d)(y:c8 CX X E)(z:PA X (e::es) n)(a:zzp ((x ==("__debug__" : c3))=b1) zz1)(B:zzp (cH (e::es) X.10=(zzq b1 (eval e X.10))::cH es X.10) zz0)(c:zzp ((gx pos (cH es X.10)).any (·.1)=b1) zz0):
  PE X (.Call (.Name x p) (e::es) [] pos) (uN sp b E n):=by
 intro g s A H Q I h;refine fq (gC I m u ?_ a);refine qC I.ok.mod.1 v (gv (z pos g s A H _ I h) λus s1 ⟨vs,H1,a,r,q⟩=>(a.kIn,?_)) B c;exact m7 F j w hd y a r q
theorem aX(y:PE X j ta)(c:zI X.K C)(w:jp X.K C m f)(F:aN X.1 X.w X.K X.4 X.5 CX k f fd ps sp)(z:aZ k X.A)(B:cp X.K fd ps d)(hd:az b d)(D:c8 CX X E)(G:PA X (e::es) n)(p:zzp (cH (e::es) X.10=(zzq b1 (eval e X.10))::cH es X.10) zz0)(v:zzp ((gx pos (cH es X.10)).any (·.1)=b1) zz0)(J:zzp (eval (.Call (.Attribute j m apos) (e::es) [] pos) X.10=(do
   let ov <-eval j X.10
   pU apos.atName
   let (zzq f first) <-ms [ov] (sA ov m pl)
   uF pos f first (gx pos (cH (e::es) X.10)) (n1 pos (j2 [] X.10)))) zz0):
  PE X (.Call (.Attribute j m apos) (e::es) [] pos) (qd C m sp b E ta n):=by
 intro g s A H Q I h;refine w0 (gv (y g s A H _ I h) λu s1 ⟨x,H1,y,K,a,dx,fs,ex,L,l,q⟩=>?_) J;subst ex;obtain rfl:u=eM a:=K;refine sy y L c w l ?_;refine qC I.ok.mod.1 w.3 (gv (G pos g s1 A H1 _ y q) λus s2 ⟨vs,H2,w,r,y⟩=>(w.kIn,?_)) p v;exact m7 (vs:=.ref a::vs) F z B hd D w (.cons Y r) y
theorem dZ(e:PE X j ta)(c:zI X.K C)(n:jp X.K C m f)(F:aN X.1 X.w X.K X.4 X.5 CX k f fd ps sp)(p:aZ k X.A)(v:cp X.K fd ps d)(hd:az b d)(w:c8 CX X E)(y:zzp (eval (.Call (.Attribute j m apos) [] [] pos) X.10=(do
   let ov <-eval j X.10
   pU apos.atName
   let (zzq f first) <-ms [ov] (sA ov m pl)
   uF pos f first (gx pos (cH [] X.10)) (n1 pos (j2 [] X.10)))) zz0):
  PE X (.Call (.Attribute j m apos) [] [] pos) (qd C m sp b E ta fD):=by
 intro g s A H Q I h;refine w0 (gv (e g s A H _ I h) λu s1 ⟨x,H1,e,z,a,dx,fs,ex,B,l,q⟩=>?_) y;subst ex;obtain rfl:u=eM a:=z;refine sy e B c n l ?_;exact IM e.kIn n.3 (m7 (vs:=[.ref a]) F p v hd w e (.cons Y .nil) q)
structure Mk(K:bI)(C f:a_):Prop where
 makes:MK K C=bm
 init:hM K (.ref C) "__init__" =O (O (.ref f))
 fn:K6 K (.ref f)=bm
 kp:hw K (.ref C)=bm
theorem z9{Q:VK}{vs:U V}(M:Mk X.K C f)(F:aN X.1 X.w X.K X.4 X.5 CX k f fd ps sp)(m:aZ (k+1) X.A)(n:cp X.K fd ps d)(hd:az b d)(p:c8 CX X E)(I:Inv X g A H s)(r:az vs us)(h:∀x dx,H x=bd->H dx=bd->dx≠x->sp (.ref x::(vs++b)) (upd (upd H dx (.own x)) x (.ins C dx [])) (λv H2=>v = .non/\Q (.ref x) H2) E):
  dy ?m X.A (qB (.ref C) us) (EP X g A Q) X.xe s:=by
 have a:=h (?ss+1) ?ss (I.hok.fresh (h0 _)) (I.hok.fresh (b2 _)) (cb (f_ _));have c:=Inv.made (C:=C) I;have j:az (V.ref (?ss+1)::(vs++b)) (eM (?ss+1)::(us++d)):=.cons Y (r.append hd);have q:(eM (?ss+1)::us++d).length=?lps:=by
  have e:=?lj;simp only[F.len _ _ _ _ a]at e;exact ?ye
 refine na (XY I.kIn M.1 M.2 (q_.mp M.3) (h6 (F.run _ X.12 _ _ (eM (?ss+1)::us,[]) (eM (?ss+1)::(us++d)) _ _ E (m.make C us [])
  (c.env0.make C us []) (n _ (eM (?ss+1)::us) c.kIn q) j a) λr s' a=>?_))
 cases r with
 |error e=>exact p g A _ _ e s' c a
 |ok j=>
  cases j with
  |ret u=>
   let(v,N,j,m,n,p):=c.after a;subst n;exact(m,(V.ref (?ss+1),N,j,Y,p))
  |next=>exact fb a
  |brk=>exact fb a
  |cont=>exact fb a
theorem pK(M:Mk X.K C f)(F:aN X.1 X.w X.K X.4 X.5 CX k f fd ps sp)(j:aZ (k+1) X.A)(m:Gl X x)(u:X.mg x=O (.ref C))(v:cp X.K fd ps d)(hd:az b d)(w:c8 CX X E)(y:PA X (e::es) n)(a:zzp ((x ==("__debug__" : c3))=b1) zz1)(z:zzp (cH (e::es) X.10=(zzq b1 (eval e X.10))::cH es X.10) zz0)(c:zzp ((gx pos (cH es X.10)).any (·.1)=b1) zz0):
  PE X (.Call (.Name x p) (e::es) [] pos) (LS C sp b E n):=by
 intro g s A H Q I h;refine fq (gC I m u ?_ a);refine qC I.ok.mod.1 M.4 (gv (y pos g s A H _ I h) λus s1 ⟨vs,H1,a,r,q⟩=>(a.kIn,?_)) z c;exact z9 M F j v hd w a r q
theorem ub(M:Mk X.K C f)(F:aN X.1 X.w X.K X.4 X.5 CX k f fd ps sp)(c:aZ (k+1) X.A)(e:Gl X x)(j:X.mg x=O (.ref C))(m:cp X.K fd ps d)(hd:az b d)(n:c8 CX X E)(a:zzp ((x ==("__debug__" : c3))=b1) zz1):PE X (.Call (.Name x p) [] [] pos) (LS C sp b E fD):=by
 intro g s A H Q I h;refine fq (gC I e j ?_ a);exact IM I.kIn M.4 (z9 M F c m hd n I .nil h)
end
section
variable{k:b8}{f:a_}{h:U c3}{E:XK}{m:c3}{d:f3}{a:U q'}{c b:TA}{e:b5 c3}
variable{g:U b0->U b0->U b0}{j:U V->U V->U V}
end
structure b9(N P:U c3)(sc:oI):Prop where
 kind:sc.1 = .function
 co:sc.4=b1
 gen:sc.3=b1
 nd:N.Nodup
 pre:N.take P.length=P
 par:∀x∈P,sc.names.lookup x=O .local\/sc.names.lookup x=O .cell
 nofree:∀y∈sc.2,y.2≠.free
theorem ZD{binds:U (c3×b0)}(h:∀v,(zzq x v)∉binds):Gg kindOf binds m x=m x:=by
 induction binds generalizing m with
 |nil=>rfl
 |cons p r a=>
  unfold Gg;rw[a λw a=>h w (.tail _ a)]
  split
  ·exact du λz=>h p.2 (by rw[z];exact .head _)
  ·rfl
theorem OR{binds:U (c3×b0)}(h:∀v,(zzq x v)∉binds):Gh kindOf binds m x=m x:=by
 induction binds generalizing m with
 |nil=>rfl
 |cons p r a=>
  unfold Gh;rw[a λw a=>h w (.tail _ a)]
  split
  ·rfl
  ·exact du λz=>h p.2 (by rw[z];exact .head _)
theorem wn{kindOf:c3->b5 n0}{x:c3}{v:b0}:∀{Ab:U c3}{vs:U b0}{i:b8}{m:c3->b5 b0},Ab.Nodup->Ab[i]?=O x->vs[i]?=O v->kindOf x=O .local->
  Gg kindOf (Ab.zip vs) m x=O v
 |p::Ab,w::vs,0,m,a,h1,h2,b=>by
  simp at h1 h2;subst h1;subst h2;show Gg kindOf ((zzq p w)::Ab.zip vs) m p=_;unfold Gg;rw[ZD λv c=>(hD.mp a).1 (t_ c).1,d6 b];simp
 |p::Ab,w::vs,i+1,m,a,h1,h2,b=>by
  unfold Gg;exact wn (hD.mp a).2 (by assumption) (by assumption) b
theorem wm{kindOf:c3->b5 n0}{x:c3}{v:b0}:∀{Ab:U c3}{vs:U b0}{i:b8}{m:c3->b5 b0},Ab.Nodup->Ab[i]?=O x->vs[i]?=O v->kindOf x≠O .local->
  Gh kindOf (Ab.zip vs) m x=O v
 |p::Ab,w::vs,0,m,a,h1,h2,b=>by
  simp at h1 h2;subst h1;subst h2;show Gh kindOf ((zzq p w)::Ab.zip vs) m p=_;unfold Gh;rw[OR λv c=>(hD.mp a).1 (t_ c).1,du b];simp
 |p::Ab,w::vs,i+1,m,a,h1,h2,b=>by
  unfold Gh;exact wm (hD.mp a).2 (by assumption) (by assumption) b
noncomputable def fC(Ae:U c3)(vs:U V):St:=vs.map O++er (?lAe - ?lvs) bd
noncomputable def c6(CX:zH)(Ab:f0)(w:gl)(K:bI)(mg:c3->b5 b0)(base:fy)(Ae:U c3)(L:c3)(scope:oI)(f:a_)(cd:b0)(Aa:hB)(outer:U u2)(s:b')(H:Hp)(on:XK):Cx where
 prog:=Ab
 w:=w
 K:=K
 mg:=mg
 base:=base
 A:=Aa.deeper (nI L scope ?ss f cd)
 N:=Ae
 s₀:=s
 H₀:=H
 env:=nI L scope ?ss f cd
 outer:=outer
 stack:=nI L scope ?ss f cd::outer
 ex:=[]
 calm:=bm
 fn:=λ_=>bm
 pn:=[]
 xe:=λe s'=>dy (ds Ab w) (Aa.deeper (nI L scope ?ss f cd)) (leaving (nI L scope ?ss f cd) e) (λ_ a=>CX outer H s on e a) (λb a=>CX outer H s on b a) s'
theorem wI(h:sc.names.lookup x=O .cell):∃c,(lq n sc.2 []).lookup x=O c:=by
 exact k_.mp (Hg sc.2 n [] (.inl h))
theorem Wi{f:a_}{on:XK}{vs:U V}(S:b9 Ae ps scope)(hd:Aa.1=bd)(a:eR Ab w K mg base Aa outer s H)(d:?lvs=?lps)(r:az vs us)(x:InCallC s ?ss (Gg (nI L scope ?ss f cd).kindOf (ps.zip us) λ_=>bd) (lq (?ss+1) scope.2 []) (Gh (nI L scope ?ss f cd).kindOf (ps.zip us) λ_=>bd) s1):
  Inv (c6 CX Ab w K mg base Ae L scope f cd Aa outer s H on) [] (fC Ae vs) H s1:=by
 have d:?lps<=?lAe:=by have:=eG qT S.5;rw[d8]at this;lia
 let(h1,tk,Y,m):=x.done;have d:∀b:a_,b∉(c6 CX Ab w K mg base Ae L scope f cd Aa outer s H on).ex:=λb z=>cx (show b∈([]) from z) ?s;refine((a.2,S.1,Y,Y,b2 _,λy z c h1 h2=>?_,λy g=>?_,λy c _ h=>?_,λ_=>hd,A_ a.1,.inr (Y,Y),λb z=>cx z (d b),a.3,a.4,λb _ _=>d b,λb z=>cx z (d b),a.5,a.6),
  rfl,a.8,Un.kept m,(_,x.toInCall.2,λi y v h1 h2 n=>?_),λy c h=>(_,x.cell y c h),a.hok.fresh (b2 _),λy c h=>?_,λp j=>cx (show p∈([]:U (a_×hg)) from j) ?s,a.hok.kept m,?_)
 ·exact name_of_addr x.3 (fo h1) (fo h2)
 ·have g:=g;rcases g with g |g
  ·exact wI g
  ·exact cx Y (S.nofree _ (fo g))
 ·exact dn (x.above y c (fo h))
 ·have hi:i<?lvs:=by
   unfold fC at h2;by_cases hi:i<?lvs
   ·exact hi
   ·rw[ge (by simpa using hi)]at h2;rw[pa]at h2
    split at h2 <;> cases h2
  have d:vs[i]?=O v:=by
   unfold fC at h2;rw[f1 (by simpa using hi),a']at h2
   simp_all
  let(u,g,m):=r.get d;have j:ps[i]?=O y:=by
   rw[<-S.5,List.getElem?_take_of_lt ?x];exact h1
  have d:ps.Nodup:=by exact S.5 ▸ (S.nd.sublist (Fq _ _))
  refine(u,m,?_);rcases S.par y (a0 j) with k |k
  ·exact .inl (k,wn d j g k)
  ·let(c,e):=wI k;refine .inr (.inl k,c,e,?_);have q:=x.cell y c e;rw[wm d j g (by show scope.names.lookup y≠_;rw[k];decide)]at q;exact q
 ·exact a.hok.fresh (dn (x.above y c (fo h)))
 ·delta fC
  show _=?lAe;simp only[cc,ai,j3]
  simp_all
theorem rT{k:b8}{f:a_}{a:q9}{d kV:b0}(lk:K.lookup f=O (oc,od,.func (ki name L a body scope d kV doc pm an cdv ct),osl))(h:jJ K cdv L=bm)(S:b9 Ae ps scope)(len:∀vs H Q on,sp vs H Q on->?lvs=?lps)(c:∀(Aa:hB)(outer:U u2)(s:b')(H:Hp)(vs:U V)(Q:VK)(on:XK),aZ k (Aa.deeper (nI L scope ?ss f cdv))->sp vs H Q on->
      ∃t,t2 (c6 CX Ab w K mg base Ae L scope f cdv Aa outer s H on) body t/\t { nx:=λ_ N=>Q .non N,rt:=Q } (fC Ae vs) H):
    aN Ab w K mg base CX (k+1) f (ki name L a body scope d kV doc pm an cdv ct) ps sp:=by
  refine(len,λAa outer s H a us vs Q on j d p r g=>?_);have m:=d.mod.kin.keeps λb o e=>(d.bs b o e).1;have a:∀y∈ps.zip us,scope.names.lookup y.1=O .local\/(scope.names.lookup y.1=O .cell/\((lq (?ss+1) scope.2 []).lookup y.1).isSome=bm):=by
    rintro⟨n,v⟩ z;rcases S.par n (t_ z).1 with q |q
    · exact .inl q
    · exact .inr (q,Hg _ _ _ (.inl q))
  refine codeAny_call_function j.depth (m _ _ lk) Y S.2 S.3 Y (W.codeRec_of m h) (p _ _ _ _ ?_);refine wpAny_newFunctionEnv_cells S.1 a λenv a s1 x=>?_;subst a;refine((d.mod.nolimit.keeps λb o e=>(d.bs b o e).1).keeps x.toInCall.3,codeAny_func ?_);let(t,a,h):=c Aa outer s H vs Q on (j.deeper _) g;have I:Inv (c6 CX Ab w K mg base Ae L scope f cdv Aa outer s H on) [] (fC Ae vs) H s1:=Wi S j.1 d (len _ _ _ _ g) r x;refine ew (a [] s1 (fC Ae vs) H _ I h) (λh s' c=>?_) λe s' c=>c;have fin:∀{a:St}{N:Hp}{v:V}{u:b0},Inv (c6 CX Ab w K mg base Ae L scope f cdv Aa outer s H on) [] a N s'->aB v u->Q v N->CE outer Ab w H s Q u s':=
    λ{a N v u} Ag d q=>(v,N,Ag.2,Ag.3,Ag.4,Ag.10,d,q)
  cases h with
  |ret u=>
    let(v,a,N,Ag,d,q):=c;exact fin Ag d q
  |next=>
    let(a,N,Ag,q):=c;exact fin (v:=V.non) Ag Y q
  |brk=>
    let(_,_,_,q):=c
    simp_all
  |cont=>
    let(_,_,_,q):=c;exact fb q
section
variable{a:TA}{b T:gV}{r:U V->Hp->VK->Prop}
def Ko(r:U V->Hp->VK->Prop)(a:TA):TE:=λA H Q=>a A H λvs H1=>r vs H1 Q
theorem aH(f:bx X (.builtin b) r)(j:Gl X x)(m:X.mg x=bd)(n:ln x=O (.builtin b))(q:PA X (e::es) a)(u:zzp (x ≠ "__name__" ) zz1)(c:zzp ((x ==("__debug__" : c3))=b1) zz1)(v:zzp (cH (e::es) X.10=(zzq b1 (eval e X.10))::cH es X.10) zz0)(d:zzp ((gx pos (cH es X.10)).any (·.1)=b1) zz0):PE X (.Call (.Name x p) (e::es) [] pos) (Ko r a):=by
 intro g s A H Q I h;refine fq (df I j m n ?_ u c);exact IN (gv (q pos g s A H _ I h) λus s1 ⟨vs,H1,c,j,m⟩=>f g s1 A H1 vs us Q c j m) v d
theorem fw(d:bx X (.type T) r)(f:Gl X x)(j:X.mg x=bd)(m:ln x=O (.type T))(n:PA X (e::es) a)(q:zzp (x ≠ "__name__" ) zz1)(b:zzp ((x ==("__debug__" : c3))=b1) zz1)(u:zzp (cH (e::es) X.10=(zzq b1 (eval e X.10))::cH es X.10) zz0)(c:zzp ((gx pos (cH es X.10)).any (·.1)=b1) zz0):PE X (.Call (.Name x p) (e::es) [] pos) (Ko r a):=by
 intro g s A H Q I h;refine fq (df I f j m ?_ q b);exact ec (gv (n pos g s A H _ I h) λus s1 ⟨vs,H1,b,f,j⟩=>d g s1 A H1 vs us Q b f j) u c
end
namespace HT
open PySem PyProof.Rows
section
open PySem.SeqAt
open PySem.AutoSeq1 (wpAny_loadPart')
open PySem.MeetsSeq PySem.MeetsSeq2 PySem.MeetsSeq3
end
theorem GX{t:a_}(a:qA s.1 t ?avs)(u:qA s.1 b ?aws)(j:vs≠[])(h1:ws=[]->Q (.ref t) s)(h2:ws≠[]->Q (.ref ?ss) { s with heap:=s.heap.push { cls:=.type "tuple",data:=.seq (vs++ws).toArray } })(g:?lvs+?lws<=bT):dy (ds prog w) Aa (i' .Add (.ref t) (.ref b)) Q on s:=by
 let((cls,m,g,sl),f,v,n,hd):=id a;let((p,c,data2,d),a,g,q,h):=id u;subst v hd g h;have e:?avs++?aws=(vs++ws).toArray:=?s
 by_cases g:ws=[]
 ·exact K7 (_,f,Y) (_,a,Y) Ig JW Hh GB (Gi _ _)
   (tuple_addW1 t b ?avs ?aws n q m c sl d (by simpa using j) (by simp[g])) (f,a,h1 g)
 ·refine K7 (_,f,Y) (_,a,Y) Ig JW Hh GB (Gi _ _)
   (tuple_addW2 t b ?avs ?aws n q m c sl d (by simpa using j) ?x ?x) (f,a,?_)
  rw[e];exact h2 g
noncomputable def nz(n d:b8):b5 cs->b8
 |none=>d
 |some v=>if v<0 then (v+(n:cs)).toNat else min ?iv n
theorem uy(n d:b8):nz n d bd=d:=Y
theorem rR(n d k:b8):nz n d (O (k:cs))=min k n:=Y
theorem wO(v:cs)(n d:b8):(if v<0 then max (v+(n:cs)) 0 else min v (n:cs))=((nz n d (O v):b8):cs):=by
 show (if v<0 then max (v+(n)) 0 else min v (n))=(((if v<0 then (v+(n)).toNat else min ?iv n):b8):cs)
 grind
theorem Ov(lo hi:b5 cs)(n:b8):r4 lo hi 1 (n:cs)=(zzq (((nz n 0 lo:b8):cs)) (((nz n n hi:b8):cs))):=by
 refine JX ?_ ?_
 ·cases lo with
  |none=>rfl
  |some v=>exact wO v n 0
 ·cases hi with
  |none=>rfl
  |some v=>exact wO v n n
theorem Wt(i j:b8):jn (i:cs) (j:cs) 1=j - i:=by
 delta jn
 have h1:(1:cs) > 0:=by exact i_ _
 simp only[h1,if_true,Int.ediv_one]
 split <;> lia
theorem Mz{o:b5 cs}{Q:b5 cs->b'->Prop}(p:w1 v o)(h:Q o s):dy (ds prog w) Aa (Ih v) Q on s:=by
 cases p with
 |none=>exact Jw h
 |int i t=>exact slicePart_int h
theorem Tq{sl:a_}{lo:b5 cs}{Q:cs×cs×b8->b'->Prop}(c:s.heap.IsSliceOf sl vl vu .none)(pl:w1 vl lo)(d:w1 vu hi)(h:Q (zzq (((nz n 0 lo:b8):cs)) (zzq 1 (nz n n hi - nz n 0 lo))) s):dy (ds prog w) Aa (Ii (.ref sl) (hl (n:cs))) Q on s:=by
 let(os,a,e,b):=id c;refine al (al (gc a b (x:=vl) Y (al (gc a b (x:=vu) Y (al (gc a b Y (b4 ?_)))))));refine al (Jw ?_);refine al (Mz pl (al (Mz d (al (b4 ?_)))));show dy _ _ (match r4 lo hi 1 (n) with | (lo,hi)=>hl (zzq lo (zzq (1:cs) (jn lo hi 1)))) _ _ s;rw[Ov lo hi n];show dy _ _ (hl (zzq (((nz n 0 lo):cs)) (zzq (1) (jn ((nz n 0 lo):cs) ((nz n n hi):cs) 1)))) _ _ s;rw[Wt];exact b4 h
theorem QG(B:fK b0)(i k:b8):((da k).filterMap λ(m:b8)=>B[((i:cs)+(m:cs) * 1).toNat]?).toArray=((B.toList.drop i).take k).toArray:=by
 have e:(λ(m:b8)=>B[((i)+(m:cs) * 1).toNat]?)=λm=>B[i+m]?:=by
  funext m
  have:((i)+(m:cs) * 1).toNat=i+m:=?l
  rw[this]
 rw[e];have:=pick_run B i k;rw[List.filterMap_map]at this;have a:((λx=>B[x]?) ∘ λx=>i+x)=λm=>B[i+m]?:=Y
 simp_all
theorem sd{t sl:a_}{lo:b5 cs}(b:qA s.1 t items)(f:s.heap.IsSliceOf sl vl vu .none)(pl:w1 vl lo)(g:w1 vu hi)(a:¬ (nz ?eitems 0 lo=0/\nz ?eitems ?eitems hi=?eitems))(h:Q (.ref ?ss) { s with heap:=s.heap.push { cls:=.type "tuple",data:=.seq ((items.toList.drop (nz ?eitems 0 lo)).take (nz ?eitems ?eitems hi - nz ?eitems 0 lo)).toArray } })(a:?eitems<=bT):dy (ds prog w) Aa (sB (.ref t) (.ref sl)) Q on s:=by
 have a:sizeOk (.seq ((items.toList.drop (nz ?eitems 0 lo)).take (nz ?eitems ?eitems hi - nz ?eitems 0 lo)).toArray):=by
  show ((items.toList.drop (nz ?eitems 0 lo)).take (nz ?eitems ?eitems hi - nz ?eitems 0 lo)).toArray.size<=bT;simp only[b7,d8,he,ee];omega
 let(os,c,d,e):=id f;have e:s.TypeIs (.ref sl) "slice" := (os,c,d)
 delta sB
 try with_reducible refine e6 ?_
 refine al (wpAny_sequenceKey b.typeIs ?a ?_);refine al (gD b.typeIs li
  (g8 li b.typeIs entry_tuple_getitem ?_ (args_tuple_getitem _ _)))
 show dy _ _ (Ij (.ref t) >>=_) _ _ s;refine al (tupleItemsOf_ b ?_);refine al (ra e ?_);refine al (Tq f pl g ?_);have b:¬ ((((nz ?eitems 0 lo):cs) ==0 && (1:cs) ==1 && (nz ?eitems ?eitems hi - nz ?eitems 0 lo) ==?eitems)=bm):=by
  grind
 show dy _ _ (if (((nz ?eitems 0 lo):cs) ==0 && (1) ==1 && (nz ?eitems ?eitems hi - nz ?eitems 0 lo) ==?eitems)=bm then _ else _) _ _ s;rw[du b,QG]
 first
  |exact al (mu (b4 (1,b4 h)) a)
end HT
abbrev TO:=St->Hp->(b5 cs->Hp->Prop)->Prop
def PO(X:Cx)(e:b5 f3)(t:TO):Prop:=
 ∀(g:U (a_×hg))(s:b')(A:St)(H:Hp)(Q:b5 cs->Hp->Prop),Inv X g A H s->t A H Q->
  dy ?m X.A (evalPart e X.10) (λu s'=>∃o N,Inv X g A N s'/\w1 u o/\Q o N) X.xe s
def Δ:TO:=λ_ H Q=>Q bd H
inductive Ti(Q:b5 cs->Hp->Prop)(x:V)(H1:Hp):Prop
 |i(i:_)(_:x = .int i)(_:Q (O i) H1)
def Xl(t:TE):TO:=λA H Q=>t A H λx H1=>Ti Q x H1
theorem mf  : ∀{us:U b0},az (ns.map V.int) us->sC us ns:=by
 induction ns with
 |nil=>intro us r;cases r;exact .nil
 |cons n ns a=>
  intro us r;cases r with
  |cons b c=>
   let(t,e):=b;subst e;exact .cons n t (a c)
section
variable{c d:b5 f3}{f j:TO}
theorem jd:PO X bd Δ:=by
 intro g s A H Q I h;exact b4 (bd,H,I,.none,h)
theorem eP(h:PE X e te):PO X (O e) (Xl te):=by
 intro g s A H Q I a;refine gv (h g s A H _ I a) λu s1 ⟨x,H1,a,b,c⟩=>?_;let(i,Y,q):=c;let(t,Y):=b;exact(O i,H1,a,.int i t,q)
def G9(X:Cx)(r:V->b5 cs->b5 cs->Hp->VK->Prop):Prop:=
 ∀(g:U (a_×hg))(s:b')(A:St)(H:Hp)(x:V)(v vl vu:b0)(c d:b5 cs)(sl:a_)(Q:VK),Inv X g A H s->aB x v->s.heap.IsSliceOf sl vl vu .none->w1 vl c->w1 vu d->r x c d H Q->
  ∃T id,mj (.type T) "__getitem__" =hl (O (.builtin id))/\s.TypeIs v T/\dy ?m X.A (sB v (.ref sl)) (EP X g A Q) X.xe s
theorem G9.or{r r':V->b5 cs->b5 cs->Hp->VK->Prop}(h:G9 X r)(h':G9 X r'):G9 X (λx c d H Q=>r x c d H Q\/r' x c d H Q):=by
 intro g s A H x v vl vu c d sl Q I a b pl e q;rcases q with q |q
 ·exact h g s A H x v vl vu c d sl Q I a b pl e q
 ·exact h' g s A H x v vl vu c d sl Q I a b pl e q
def LU(r:V->b5 cs->b5 cs->Hp->VK->Prop)(te:TE)(f j:TO):TE:=λA H Q=>te A H λx H1=>f A H1 λl H2=>j A H2 λu a=>r x l u a Q
theorem gN{r:V->b5 cs->b5 cs->Hp->VK->Prop}(n:G9 X r)(a:PE X e te)(m:PO X c f)(p:PO X d j):PE X (.Subscript e (.Slice c d bd p2) pos) (LU r te f j):=by
 intro g s A H Q I h;refine C' (gv (a g s A H _ I h) λv s1 ⟨x,H1,a,w,y⟩=>?_);refine MN (gv (m g s1 A H1 _ a y) λvl s2 ⟨l,H2,a,pl,m⟩=>gv (p g s2 A H2 _ a m) λvu a ⟨u,m,p,y,z⟩=>?_);refine b4 ?_;have B:Inv X g A m { a with heap:=a.heap.push { cls:=.type "slice",data:=.fields #[vl,vu,.none] } }:=p.kept (t':=a.4) λb p q=>aw _ q;let(T,id,p,C,D):=n g { a with heap:=a.heap.push { cls:=.type "slice",data:=.fields #[vl,vu,.none] } } A m x v vl vu l u ?sa Q B w (uc ..) pl y z;exact tail_any C p D ?r
noncomputable def dE(B:U V)(c d:b5 cs):U V:=(B.drop (HT.nz ?lB 0 c)).take (HT.nz ?lB ?lB d - HT.nz ?lB 0 c)
theorem wZ(B:U V)(c d:b5 cs):(dE B c d).length<=?lB:=by
 delta dE
 simp only[d8,he]
 lia
inductive zV(K:bI)(x:V)(c:b5 cs)(d:b5 cs)(H:Hp)(Q:VK):Prop
 |i(a B:_)(_:x = .ref a)(_:fx K H a B)(_:¬ (HT.nz ?lB 0 c=0/\HT.nz ?lB ?lB d=?lB))(_:∀p,H p=bd->Q (.ref p) (upd H p (.tup (dE B c d))))
theorem YO:G9 X (zV X.K):=by
 intro g s A H x v vl vu c d sl Q I e j pl m h;let(a,B,Y,n,p,q):=h;cases e;let(J,r,f,hz):=I.tuple n;have e:?wJ=?lB:=by rw[b7];exact ?yr.length
 refine("tuple",_,li.1,f.typeIs,?_);refine HT.sd f j pl m (by exact e ▸ p) ?_ (by exact e ▸ hz);rw[e];refine(.ref ?ss,_,I.laid (t':=s.4) (λb e q=>aw _ q) (b2 _) ?_,Y,q _ (I.hok.fresh (b2 _)));exact(ce (wZ B c d) hz,_,(r.drop (HT.nz ?lB 0 c)).take (HT.nz ?lB ?lB d - HT.nz ?lB 0 c),Fs _ _)
inductive zR(K:bI)(x:V)(y:V)(H:Hp)(Q:VK):Prop
 |i(a b B ys:_)(_:x = .ref a)(_:y = .ref b)(_:fx K H a B)(_:fx K H b ys)(_:B≠[])(_:?lB+?lys<=bT)(_:(ys=[]->Q (.ref a) H))(_:(ys≠[]->∀p,H p=bd->Q (.ref p) (upd H p (.tup (B++ys)))))
theorem az.nil_iff(r:az B us):us=[]↔B=[]:=by
 cases r with
 |nil=>simp
 |cons _ _=>simp
theorem Zq:l6 X (i' .Add) (zR X.K):=by
 intro g s A H x y v u Q I c d h;let(a,b,B,ys,Y,Y,e,f,j,hz,m,n):=h;cases c;cases d;let(J,d,p1,_):=I.tuple e;let(e,c,p2,_):=I.tuple f;refine HT.GX p1 p2 (λz=>j (d.nil_iff.mp z)) (λz=>(.ref a,H,I,Y,m (c.nil_iff.mp z))) (λz=>?_) (by simp only[<-?ld,<-?lc];exact hz);refine(.ref ?ss,_,I.laid (t':=s.4) (λb e q=>aw _ q) (b2 _) ?_,Y,n (λw=>z (c.nil_iff.mpr w)) _ (I.hok.fresh (b2 _)));exact(?x,_,d.append c,Fs _ _)
end
noncomputable def Fd(n:b8)(i:cs):b5 b8:=if 0<=i then (if i<n then O ?ii else bd) else if -(n:cs)<=i then O (i+n).toNat else bd
noncomputable def s8(B:U α)(i:cs):b5 α:=(Fd ?lB i).bind λj=>B[j]?
theorem oZ{i:cs}(h:Fd n i=O j):w2 i n=O j/\j<n/\-(n:cs)<=i/\i<n:=by
 delta Fd at h
 by_cases a:0<=i
 ·rw[d6 a]at h;by_cases h1:i<n
  ·rw[d6 h1]at h;exact(by rw[Gj a h1,(c_ h)],?l,?l,h1)
  ·simp_all
 ·rw[du a]at h;by_cases h1 : -(n)<=i
  ·rw[d6 h1]at h;exact(by rw[seqIndex_neg (by exact sm.mp ‹_›) h1,(c_ h)],?l,h1,?l)
  ·rw[du h1]at h;cases h
theorem v0{B:U α}{i:cs}{v:α}(h:s8 B i=O v):∃j,w2 i ?lB=O j/\B[j]?=O v/\j<?lB/\-(?lB:cs)<=i/\i<?lB:=by
 delta s8 at h
 cases e:Fd ?lB i with
 |none=>rw[e]at h;cases h
 |some j=>
  rw[e]at h;let(h1,h2,a,b):=oZ e;exact(j,h1,h,h2,a,b)
theorem cf{B:U α}{v:α}(h:B[j]?=O v):s8 B (j:cs)=O v:=by
 have a:=(bg.mp h).1;have e:Fd ?lB (j)=O j:=by
  delta Fd
  simp_all
 delta s8;exact e ▸ h
theorem oh(B:U α)(v:α):s8 (B++[v]) (-1)=O v:=by
 have a:(B++[v]).length=?lB+1:=?s
 have e:Fd (B++[v]).length (-1)=O ?lB:=by
  delta Fd
  rw[a,du ?a,d6 ?l]
  grind
 delta s8
 simp_all
def nO(b:f3):Prop:=∀o i,x3 b b1 o i=K8 [o,i] (sB o i)
def G7(X:Cx)(r:R2):Prop:=
 ∀(value a:f3)(g:U (a_×hg))(s:b')(A:St)(H:Hp)(x y:V)(v u:b0)(Q:VK),Inv X g A H s->aB x v->aB y u->r x y H Q->
  x3 a b1 v u=K8 [v,u] (sB v u)->dy ?m X.A (JY value a v u) (EP X g A Q) X.xe s
def zG(X:Cx)(id:gV)(r:V->U V->Hp->VK->Prop):Prop:=
 ∀(g:U (a_×hg))(s:b')(A:St)(H:Hp)(x:V)(B:U V)(v:b0)(us:U b0)(Q:VK),Inv X g A H s->aB x v->az B us->r x B H Q->
  dy ?m X.A (qB (.builtin id) (v::us)) (EP X g A Q) X.xe s
section
variable{a b:f3}{C:TE}
theorem G7.or{r r':R2}(h:G7 X r)(h':G7 X r'):G7 X (λx y H Q=>r x y H Q\/r' x y H Q):=by
 intro value a g s A H x y v u Q I b c q d;rcases q with q |q
 ·exact h value a g s A H x y v u Q I b c q d
 ·exact h' value a g s A H x y v u Q I b c q d
theorem zG.or{id:gV}{r:V->U V->Hp->VK->Prop}(h:zG X id r)(h':zG X id r'):zG X id (λx B H Q=>r x B H Q\/r' x B H Q):=by
 intro g s A H x B v us Q I a b q;rcases q with q |q
 ·exact h g s A H x B v us Q I a b q
 ·exact h' g s A H x B v us Q I a b q
theorem mL{r:R2}(c:G7 X r)(d:PE X a ta)(e:PE X b C)(f:nO b):PE X (.Subscript a b pos) (Ez r ta C):=by
 intro g s A H Q I h;exact C' (qZ d e I h λv u s2 x y H2 d e j q=>c a b g s2 A H2 x y v u Q d e j q (f _ _))
inductive mY(K:bI)(x:V)(y:V)(H:Hp)(Q:VK):Prop
 |i(p B i v:_)(_:x = .ref p)(_:y = .int i)(_:eb K H p B)(_:s8 B i=O v)(_:Q v H)
inductive uo(K:bI)(x:V)(y:V)(H:Hp)(Q:VK):Prop
 |i(p B i v:_)(_:x = .ref p)(_:y = .int i)(_:fx K H p B)(_:s8 B i=O v)(_:Q v H)
theorem x5:G7 X (mY X.K):=by
 intro value a g s A H x y v u Q I a c h b;let(p,B,i,z,Y,Y,d,e,q):=h;cases a;let(t,Y):=c;let(J,r,pl,hz):=I.list d;let(j,h1,h2,a,f,m):=v0 e;let(w,c,a):=r.get h2;have d:=?lr;have d:=kK;have fin:EP X g A Q w s:=(z,H,I,a,q)
 by_cases d:0<=i
 ·have a:?ii=j:=by
   rw[Gj d m]at h1
   simp_all
  exact item_listR pl.isList d ?l (by rw[a];simpa using c) fin b
 ·have a:(i+(?wJ)).toNat=j:=by
   rw[seqIndex_neg (by exact sm.mp ‹_›) f]at h1
   simp_all
  exact Ft pl.isList.typeIs uG.1
   (wpAny_getItem_list_neg pl.isList (by exact sm.mp ‹_›) ?x ?l (by rw[a];simpa using c) (Y,fin)) b
theorem x8:G7 X (uo X.K):=by
 intro value a g s A H x y v u Q I a b h c;let(p,B,i,z,Y,Y,d,e,q):=h;cases a;let(t,Y):=b;let(J,r,pl,hz):=I.tuple d;let(j,h1,h2,a,b,d):=v0 e;let(w,b,a):=r.get h2;have d:=kK;have fin:EP X g A Q w s:=(z,H,I,a,q)
 exact Ft pl.typeIs slot_tuple_getitem.1
  (getItem_tuple pl ?l ?l (by rw[b7,<-?lr];exact h1) (by simpa using b) (Y,fin)) c
theorem τ(J:U b0)(n j:b8)(u:b0):et (·.setIfInBounds j u) { cls:=.type "list",data:=.seq ?aJ n }={ cls:=.type "list",data:=.seq (J.set j u).toArray n }:=by
 simp[et]
theorem Inv.lst{p:a_}(I:Inv X g A H s)(h:H p=O (.lst B)):
  ∃(J:U b0)(n:b8),az B J/\s.heap.get? p=O { cls:=.type "list",data:=.seq ?aJ n }/\?lB<=bT:=by
 let(z,J,n,r,e):=I.hok p _ h;exact(J,n,r,e,z)
theorem Inv.lstUpd{p:a_}{a:b8}{f:hg->hg}(I:Inv X g A H s)(h:H p=O (.lst B))(d:s.heap.get? p=O { cls:=.type "list",data:=.seq ?aJ n })(c:f { cls:=.type "list",data:=.seq ?aJ n }={ cls:=.type "list",data:=.seq ?aits' a })(r:az ys its')(hz:?lys<=bT)(t:b8):
  Inv X g A (upd H p (.lst ys)) { s with heap:=s.heap.update p f,toks:=t }:=by
 have e:(s.heap.update p f).get? p=O { cls:=.type "list",data:=.seq ?aits' a }:=by
  rw[f5 f d (by rw[c] <;> rfl),c]
 refine I.write (by rw[h];trivial) (.inl Y) (λb u c q=>(e7 _ _ (fU c)).trans q) (_,e) ?_;exact(hz,its',a,r,e)
inductive Tv(o:V)(i:V)(v:V)(H:Hp)(Q:Hp->Prop):Prop
 |i(p B k j:_)(_:o = .ref p)(_:i = .int k)(_:H p=O (.lst B))(_:Fd ?lB k=O j)(_:Q (upd H p (.lst (B.set j v))))
theorem ZN:vQ X Tv:=by
 intro g s A H o i v ov a u Q I a c d h;let(p,B,k,j,Y,Y,b,e,q):=h;cases a;let(t,Y):=c;let(J,n,r,a,hz):=I.lst b;let(h1,h2,f,m):=oZ e;have c:=?lr;have c:=kK;have c:Inv X g A (upd H p (.lst (B.set j v))) { s with heap:=s.heap.update p (et (·.setIfInBounds j u)) }:=
  I.lstUpd b a (τ J n j u) (r.set d j) ?x s.4
 by_cases d:0<=k
 ·have b:?ik=j:=by
   rw[Gj d m]at h1
   simp_all
  exact W.ki_setAt a d ?l ?x (by rw[b];exact(_,c,q))
 ·have b:(k+(?wJ)).toNat=j:=by
   rw[seqIndex_neg (by exact sm.mp ‹_›) f]at h1
   simp_all
  exact W.ki_setBack a (by exact sm.mp ‹_›) ?x ?l (by rw[b];exact(_,c,q))
theorem wP(n:b8)(i:cs):(if (1:cs) > 0 then max 0 (min (if i<0 then i+n else i) (n:cs)) else max (-1) (min (if i<0 then i+n else i) ((n:cs) - 1)))=((HT.nz n 0 (O i):b8):cs):=by
 show _=((if i<0 then (i+(n)).toNat else min ?ii n:b8):cs)
 by_cases h:i<0
 ·rw[d6 h,d6 h,GC ?l,Int.max_comm]
  simp_all
 ·rw[du h,du h];let(k,Y):=A' (Int.not_lt.mp h);simp only[e4];rcases Nat.le_total k n with z |z
  ·rw[hG z,GC (sJ.mpr z)];simp_all
  ·rw[Nat.min_eq_right z,Int.min_eq_right (sJ.mpr z)];exact Int.max_eq_right (i_ _)
theorem Sc(lo hi:b5 cs)(n:b8):(Gk lo hi bd n).1=((HT.nz n 0 lo:b8):cs)/\(Gk lo hi bd n).2.1=((HT.nz n n hi:b8):cs)/\(Gk lo hi bd n).2.2=1:=by
 refine(?_,?_,Y)
 ·cases lo with
  |none=>rfl
  |some i=>exact wP n i
 ·cases hi with
  |none=>rfl
  |some i=>exact wP n i
theorem O9(J:U b0)(lo hi:b5 cs):slicePick ?aJ lo hi bd=((J.drop (HT.nz ?lJ 0 lo)).take (HT.nz ?lJ ?lJ hi - HT.nz ?lJ 0 lo)).toArray:=by
 let(h1,h2,a):=Sc lo hi ?wJ
 delta slicePick
 simp only[h1,h2,a];simp only[sliceRange_one,pick_run] <;> rfl
inductive zU(K:bI)(x:V)(lo:b5 cs)(hi:b5 cs)(H:Hp)(Q:VK):Prop
 |i(a B:_)(_:x = .ref a)(_:eb K H a B)(_:∀p,H p=bd->Q (.ref p) (upd H p (.lst (dE B lo hi))))
theorem X':G9 X (zU X.K):=by
 intro g s A H x v vl vu lo hi sl Q I c e pl f h;let(a,B,Y,j,q):=h;cases c;let(J,r,d,hz):=I.list j;have c:=?lr;refine("list",_,uG.1,d.isList.typeIs,?_);refine EH d.isList e pl f .none ?s ?_ ?x;rw[O9,<-c];refine(.ref ?ss,_,I.laid (t':=s.4) (λb c q=>aw _ q) (b2 _) ?_,Y,q _ (I.hok.fresh (b2 _)));exact(ce (wZ B lo hi) hz,_,(0),(r.drop (HT.nz ?lB 0 lo)).take (HT.nz ?lB ?lB hi - HT.nz ?lB 0 lo),b_ _ Y)
def bz:V->eg
 |.non=>bm
 |.bl _=>bm
 |.int _=>bm
 |.str _=>bm
 |_=>b1
noncomputable def m3:V->V->eg
 |.non,.non=>bm
 |.bl a,.bl b=>a ==b
 |.bl a,.int b=>(if a then 1 else 0) ==b
 |.int a,.bl b=>a ==(if b then 1 else 0)
 |.int a,.int b=>a ==b
 |.str a,.str b=>a ==b
 |_,_=>b1
theorem jD{x:V}(d:aB y u)(c:aB x v)(f:bz y=bm)(e:bz x=bm):u_ Aa s u v (m3 y x):=by
 cases y with
 |non=>
  cases d;cases x with
  |non=>cases c;exact ot _
  |bl b=>cases c;exact JZ b
  |int b=>let(t,Y):=c;exact v_ b t
  |str b=>let(t,Y):=c;exact v' b t
  |_=>exact cx (show b1=bm from e) ef
 |bl a=>
  cases d;cases x with
  |non=>cases c;exact J_ a
  |bl b=>cases c;exact J' a b
  |int b=>let(t,Y):=c;exact Ka a b t
  |str b=>let(t,Y):=c;exact Kb a b t
  |_=>exact cx (show b1=bm from e) ef
 |int a=>
  let(t',Y):=d;cases x with
  |non=>cases c;exact wa a t'
  |bl b=>cases c;exact Kc a t' b
  |int b=>let(t,Y):=c;exact Kd a t' b t
  |str b=>let(t,Y):=c;exact x1 a t' b t
  |_=>exact cx (show b1=bm from e) ef
 |str a=>
  let(t',Y):=d;cases x with
  |non=>cases c;exact wb a t'
  |bl b=>cases c;exact Ke a t' b
  |int b=>let(t,Y):=c;exact x2 a t' b t
  |str b=>let(t,Y):=c;exact Kf a t' b t
  |_=>exact cx (show b1=bm from e) ef
 |_=>exact cx (show b1=bm from f) ef
noncomputable def v9(x:V)(u:b0):eg:=match u with
 |.none=>m3 .non x
 |.bool b=>m3 (.bl b) x
 |.int i _=>m3 (.int i) x
 |.str z _=>m3 (.str z) x
 |_=>b1
theorem lX{x:V}(r:aB y u)(f:bz y=bm):v9 x u=m3 y x:=by
 cases y with
 |non=>cases r;rfl
 |bl b=>cases r;rfl
 |int i=>let(t,Y):=r;rfl
 |str z=>let(t,Y):=r;rfl
 |_=>exact cx (show b1=bm from f) ef
theorem og{x:V}(h:az B us)(f:B.all bz=bm):us.any (v9 x)=B.any λy=>m3 y x:=by
 induction h with
 |nil=>rfl
 |cons r t a=>simp only[jy,eB]at f;simp only[hx,lX r f.1,a f.2]
theorem jL{x:V}(b:aB x v)(c:bz x=bm)(t:az B us)(f:B.all bz=bm):∀u∈us,u_ Aa s u v (v9 x u):=by
 induction t with
 |nil=>exact λu a=>by cases a
 |cons r t d=>
  intro e a;simp only[jy,eB]at f;rcases bG.mp a with rfl |a
  ·rw[lX r f.1];exact jD r b f.1 c
  ·exact d f.2 e a
noncomputable def sH(x:V)(B:U V):eg:=B.any λy=>m3 y x
inductive JK(K:bI)(neg:eg)(x:V)(y:V)(H:Hp)(Q:VK):Prop
 |i(p B:_)(_:y = .ref p)(_:(eb K H p B\/fx K H p B))(_:bz x=bm)(_:B.all bz=bm)(_:Q (.bl (if neg then !sH x B else sH x B)) H)
theorem SN:l6 X (eT .In) (JK X.K b1):=by
 intro g s A H x y v u Q I b d h;let(p,B,Y,a,c,fs,q):=h;cases d;rcases a with a |a
 ·let(J,r,pl,hz):=I.list a;refine SeqAt.in_listAt (v9 x) pl.isList (λw d=>jL b c r fs w ?x) (.bl _,H,I,Y,?_);rw[show J.toArray.any (v9 x)=J.any (v9 x) by simp,og r fs];exact q
 ·let(J,r,pl,hz):=I.tuple a;refine SeqAt.in_tupleAt (v9 x) pl (λw d=>jL b c r fs w (by simpa using d)) (.bl _,H,I,Y,?_);rw[show J.toArray.any (v9 x)=J.any (v9 x) by simp,og r fs];exact q
theorem zh:l6 X (eT .NotIn) (JK X.K bm):=by
 intro g s A H x y v u Q I b d h;let(p,B,Y,a,c,fs,q):=h;cases d;rcases a with a |a
 ·let(J,r,pl,hz):=I.list a;refine SeqAt.notIn_listAt (v9 x) pl.isList (λw d=>jL b c r fs w ?x) (.bl _,H,I,Y,?_);rw[show J.toArray.any (v9 x)=J.any (v9 x) by simp,og r fs];exact q
 ·let(J,r,pl,hz):=I.tuple a;refine SeqAt.notIn_tupleAt (v9 x) pl (λw d=>jL b c r fs w (by simpa using d)) (.bl _,H,I,Y,?_);rw[show J.toArray.any (v9 x)=J.any (v9 x) by simp,og r fs];exact q
theorem wE:bx X (.builtin "len") (λB H Q=>∃p ys,B=[.ref p]/\(eb X.K H p ys\/fx X.K H p ys)/\Q (.int ?lys) H):=by
 intro g s A H B us Q I r h;let(p,ys,Y,b,q):=h;let(u,Y,a):=cA r;cases a;have a:=kK;rcases b with b |b
 ·let(J,r',pl,hz):=I.list b;have a:=?lr';exact Calls.call_len_list pl.isList (by simp only[b7] <;> lia) (.int ?lys,H,I.tok _,(s.4+1,by rw[b7,a]),q)
 ·let(J,r',pl,hz):=I.tuple b;have a:=?lr';exact len_tuple pl (by simp only[b7] <;> lia) (.int ?lys,H,I.tok _,(s.4+1,by rw[b7,a]),q)
theorem oo:bx X (.builtin "len") (λB H Q=>∃z,B=[.str z]/\?lz<=bT/\Q (.int ?lz) H):=by
 intro g s A H B us Q I r h;let(z,Y,hz,q):=h;let(u,Y,t,Y):=cA r;have a:=kK;exact len_str ?l (.int ?lz,H,I.tok _,⟨_,Y⟩,q)
theorem bx.or{f:b0}{r r':U V->Hp->VK->Prop}(h:bx X f r)(h':bx X f r'):bx X f (λB H Q=>r B H Q\/r' B H Q):=by
 intro g s A H B us Q I a q;rcases q with q |q
 ·exact h g s A H B us Q I a q
 ·exact h' g s A H B us Q I a q
theorem μ:bx X (.type "list") (λB H Q=>∃p ys,B=[.ref p]/\(eb X.K H p ys\/fx X.K H p ys)/\∀l,H l=bd->Q (.ref l) (upd H l (.lst ys))):=by
 intro g s A H B us Q I r h;let(p,ys,Y,a,q):=h;let(u,Y,c):=cA r;cases c;have fin:∀(J),az ys J->?lys<=bT->∀(h') (c'),(∀b c,s.heap.get? b=O c->h'.get? b=O c)->
   h'.get? ?ss=O { cls:=.type "list",dict:=bd,data:=.seq ?aJ c',slots:=#[] }->EP X g A Q (.ref ?ss) { s with heap:=h' }:=λJ r' hz h' c' c e=>
  (.ref ?ss,_,I.laid (t':=s.4) c (b2 _) (show bo X.1 X.w _ h' _ (.lst ys) from(hz,J,c',r',e)),Y,q _ (I.hok.fresh (b2 _)))
 rcases a with a |a
 ·let(J,r',pl,hz):=I.list a;have d:=?lr';let(o,f,j,n,hd):=pl.isList;exact Kg p (.inl Y) f j hd (λh' c' c e=>fin J r' hz h' c' c e) ?x
 ·let(J,r',pl,hz):=I.tuple a;have d:=?lr';let(o,f,j,n,hd):=pl;exact Kg p (.inr Y) f j hd (λh' c' c e=>fin J r' hz h' c' c e) (by simp only[b7] <;> lia)
theorem Xe:bx X (.type "tuple") (λB H Q=>∃p ys,B=[.ref p]/\((eb X.K H p ys/\∀l,H l=bd->Q (.ref l) (upd H l (.tup ys)))\/(fx X.K H p ys/\Q (.ref p) H))):=by
 intro g s A H B us Q I r h;let(p,ys,Y,h):=h;let(u,Y,c):=cA r;cases c;rcases h with⟨a,q⟩ |⟨a,q⟩
 ·let(J,r',pl,hz):=I.list a;have c:=?lr';refine call_tuple_list pl.isList (λh' d=>?_) ?x;have c:=I.kept (t':=s.4) d;have d:Inv X g A (upd H ?zh' (.tup ys)) { s with heap:=h'.push { cls:=.type "tuple",data:=.seq ?aJ } }:=
   c.laid (t':=s.4) (λb o e=>aw _ e) (b2 _) (show bo X.1 X.w _ _ _ (.tup ys) from(hz,J,r',Fs _ _))
  exact(.ref ?zh',_,d,Y,q _ (c.hok.fresh (b2 _)))
 ·let(J,r',pl,hz):=I.tuple a;exact call_tuple_same pl (.ref p,H,I,Y,q)
def Km(K:bI)(T:gV)(x:V)(H:Hp):Prop:=match x with
 |.str _=>T = "str"
 |.int _=>T = "int"
 |.ref p=>(T = "list" /\ ∃B,eb K H p B)\/(T = "tuple" /\ ∃o,K.lookup p=O o/\o.1 = .type "tuple" /\ o.2=bd)\/
   (T = "dict" /\ ((∃E,H p=O (.dK E))\/∃E,H p=O (.dT E)))\/(T = "set" /\ ∃S n,H p=O (.set S n))
 |_=>fP
theorem Ly{T:gV}{x:V}(I:Inv X g A H s)(r:aB x v)(ty:Km X.K T x H):
  s.TypeIs v T/\∀a,v = .ref a->∃b,s.heap.get? a=O b/\b.2=bd:=by
 cases x with
 |str z=>
  let(t,Y):=r;cases (show T = "str" from ty);exact(Ψ s z t,λ_ e=>nomatch e)
 |int i=>
  let(t,Y):=r;cases (show T = "int" from ty);exact(Hi s i t,λ_ e=>nomatch e)
 |ref p=>
  cases r;rcases ty with⟨rfl,B,d⟩ |⟨rfl,o,b,f,hd⟩ |⟨rfl,b⟩ |⟨rfl,S,n,b⟩
  ·let(J,_,pl,_):=I.list d;refine(pl.isList.typeIs,λa e=>?_);cases e;let(o,n,e,c,hd,_):=pl;exact(o,e,hd)
  ·refine((o,I.kIn p o b,f),λa e=>?_);cases e;exact(o,I.kIn _ o b,hd)
  ·have z:∃o,s.heap.get? p=O o/\o.ExactDict:=by
    rcases b with⟨E,b⟩ |⟨E,b⟩
    ·let(_,_,_,_,o,_,_,e,ex,_):=I.hok p _ b;exact(o,e,ex)
    ·let(_,_,_,_,o,_,_,e,ex,_):=I.hok p _ b;exact(o,e,ex)
   let(o,e,ex):=z;refine((o,e,ex.1),λa d=>?_);cases d;exact(o,e,ex.2.1)
  ·let(o,_,_,_,e,ex,_):=I.hok p _ b;refine((o,e,ex.1),λa d=>?_);cases d;exact(o,e,ex.2.1)
 |_=>exact fb ty
def V_(K:bI)(T:gV)(r:V->U V->Hp->VK->Prop)(to:TE):TE:=λA H Q=>to A H λx H1=>Km K T x H1/\r x [] H1 Q
def K0(K:bI)(T:gV)(r:V->U V->Hp->VK->Prop)(to:TE)(t:TA):TE:=λA H Q=>to A H λx H1=>Km K T x H1/\t A H1 λB H2=>r x B H2 Q
variable{d:f3}{D:TA}{T m:gV}{r:V->U V->Hp->VK->Prop}
theorem W7(f:Hj T)(c:Slot T name m)(e:Fu (.builtin m)=hl (.type "method_descriptor"))(j:zG X m r)(n:PE X d to)(a:zzp (h9 d name X.10 (eval d X.10)=eval d X.10) zz0)(b:zzp ((apos.3 ==cpos.1)=bm) zz0):PE X (.Call (.Attribute d name apos) [] [] cpos) (V_ X.K T r to):=by
 intro g s A H Q I h;refine qD a b (gv (n g s A H _ I h) λv s1 ⟨x,H1,a,b,ty,n⟩=>?_);let(h1,h2):=Ly a b ty;exact(T,m,f,c,e,h1,h2,ia Y (rb (j g s1 A H1 x [] v [] Q a b .nil n)))
theorem t9(p:Hj T)(c:Slot T name m)(n:Fu (.builtin m)=hl (.type "method_descriptor"))(q:zG X m r)(u:PE X d to)(w:PA X (e::es) D)(a:zzp (h9 d name X.10 (eval d X.10)=eval d X.10) zz0)(f:zzp (((gx cpos (cH (e::es) X.10)).all (λx=>!x.1) && (n1 cpos (j2 [] X.10)).all (λx=>x.1.isSome)
   && decide ((e::es).length+([]:U q').length+(if ([]:U q').isEmpty then 0 else 1)<30))=bm) zz0)(b:zzp ((apos.3 ==cpos.1)=bm) zz0)(y:zzp (cH (e::es) X.10=(zzq b1 (eval e X.10))::cH es X.10) zz0)(j:zzp ((gx cpos (cH es X.10)).any (·.1)=b1) zz0):
  PE X (.Call (.Attribute d name apos) (e::es) [] cpos) (K0 X.K T r to D):=by
 intro g s A H Q I h;refine wpAny_Call_method_late a f b Y (gv (u g s A H _ I h) λv s1 ⟨x,H1,a,b,ty,f⟩=>?_);let(h1,h2):=Ly a b ty;refine(T,m,p,c,n,h1,h2,?_);have c:=w cpos g s1 A H1 _ a f;rw[y]at c ⊢;refine ia (by assumption) (qE ?_);exact gv c λus s2 ⟨vs,H2,a,c,f⟩=>q g s2 A H2 x vs v us Q a b c f
end
def JJ(X:Cx)(id:gV)(r:V->U V->Hp->VK->Prop):Prop:=
 ∀(g:U (a_×hg))(s:b')(A:St)(H:Hp)(x:V)(B:U V)(v:b0)(us:U b0)(Q:VK),Inv X g A H s->aB x v->az B us->r x B H Q->
  dy ?m X.A (qB (.builtin id) (v::us)) (EP X g A Q) X.xe s
theorem az.one{x:V}: az [x] us->∃u,us=[u]/\aB x u:=cA
theorem az.two{x:V}: az [x,y] us->∃u v,us=[u,v]/\aB x u/\aB y v:=lD
theorem az.zero:∀{us:U b0},az [] us->us=[]
 |_,.nil=>rfl
theorem az.dropLast(h:az B us):az B.dropLast us.dropLast:=by
 induction h with
 |nil=>exact .nil
 |cons r t a=>
  cases t with
  |nil=>exact .nil
  |cons q t'=>exact .cons r a
theorem az.eraseIdx:∀{B:U V}{us:U b0}(i:b8),az B us->az (B.eraseIdx i) (us.eraseIdx i)
 |_,_,_,.nil=>.nil
 |_,_,0,.cons _ t=>t
 |_,_,i+1,.cons r t=>.cons r (az.eraseIdx i t)
theorem az.reverse(h:az B us):az B.reverse us.reverse:=by
 induction h with
 |nil=>exact .nil
 |cons r t a=>rw[j_,j_];exact az.append a (.cons r .nil)
theorem az.rep{B:U V}{us:U b0}(h:az B us):∀k:b8,az (er k B).flatten (er k us).flatten
 |0=>.nil
 |k+1=>by
  exact az.append h (az.rep h k)
theorem Α  : ∀(l:U α)(i:b8),(l.eraseIdx i).length<=?ll:=zz
theorem xF(J:U b0):∀(k:b8)(acc:U b0),
  IP (λa b=>a++b) ?aacc (er k ?aJ)=(acc++(er k J).flatten).toArray
 |0,acc=>?s
 |k+1,acc=>by
  have e:?aacc++?aJ=(acc++J).toArray:=?s
  have a:(acc++J)++(er k J).flatten=acc++(er (k+1) J).flatten:=by
   grind
  rw[<-a,<-xF J k (acc++J),<-e,List.replicate_succ,ju]
section
variable{l:a_}{a:U V}
theorem Inv.lset{f:fK b0->fK b0}(I:Inv X g A H s)(a:H l=O (.lst B))(e:s.heap.get? l=O { cls:=.type "list",data:=.seq ?aJ n })(b:f ?aJ=?aits')(c:az ys its')(hz:?lys<=bT):
  Inv X g A (upd H l (.lst ys)) { s with heap:=s.heap.update l (et f),toks:=t' }:=by
 have q:=D_ e f;rw[b]at q;refine I.write (by exact a ▸ trivial) (.inl Y) (λd u a b=>(e7 s.1 (et f) (fU a)).trans b) (_,q) ?_;exact(hz,its',_,c,q)
theorem Inv.lnew(I:Inv X g A H s)(a:az ys J)(hz:?lys<=bT):
  Inv X g A (upd H ?ss (.lst ys)) { s with heap:=s.heap.push { cls:=.type "list",data:=.seq ?aJ },toks:=t' }:=
 I.laid (λ_ _ q=>aw _ q) (b2 _) (hz,J,(0),a,b_ _ Y)
theorem Inv.fresh(I:Inv X g A H s):H ?ss=bd:=I.hok.fresh (b2 _)
theorem Inv.lstM(I:Inv X g A H s)(a:H l=O (.lst B)):?lB<=bT/\∃(J:U b0)(n:b8),az B J/\?lB=?lJ/\s.heap.get? l=O { cls:=.type "list",data:=.seq ?aJ n }:=by
 let(z,J,n,r,e):=I.hok l _ a;exact(z,J,n,r,?lr,e)
theorem yV(h:n<=bT):m5 n=b1:=by
 exact c4 (by exact t4 ‹_›)
end
inductive Wn(x:V)(vs:U V)(H:Hp)(Q:VK):Prop
 |i(l B y:_)(_:x = .ref l)(_:vs=[y])(_:H l=O (.lst B))(_:?lB<bT)(_:Q .non (upd H l (.lst (B++[y]))))
theorem gE:JJ X "list.append" Wn:=by
 intro g s A H x vs v us Q I b c h;let(l,B,y,Y,Y,a,hz,q):=h;cases b;let(u,Y,b):=c.one;let(z,J,n,r,c,e):=I.lstM a;refine h_ Gm (_,e,Y) FJ (Fv _ _) (ET l ?aJ n u ?x) (e,?_);refine(.non,_,I.lset (its':=J++[u]) a e ?s (r.append (.cons b .nil)) ?_,Y,q);simp only[cc,f'];assumption
inductive Za(x:V)(vs:U V)(H:Hp)(Q:VK):Prop
 |i(l b B a:_)(_:x = .ref l)(_:vs=[.ref b])(_:H l=O (.lst B))(_:H b=O (.lst a))(_:?lB+?la<=bT)(_:Q .non (upd H l (.lst (B++a))))
theorem tK:JJ X "list.extend" Za:=by
 intro g s A H x vs v us Q I a c h;let(l,b,B,j,Y,Y,f,d,hz,q):=h;cases a;let(u,Y,a):=c.one;cases a;let(z,J,n,r,a,e):=I.lstM f;let(w,a,j,m,c,p):=I.lstM d;have d:?wJ+?wa<=bT:=by grind
 have c:¬ (!J.toArray.isEmpty && m5 (?wJ+?wa))=bm:=by
  rw[yV d,n4]
  simp_all
 refine h_ F.slot_list_extend (_,e,Y) F.entry_list_extend (F.args_list_extend_2 _ _)
  (MO l ?aJ n b ?aa j c (by grind) (by exact hq ‹_›)) (e,p,?_)
 refine(.non,_,I.lset (its':=J++a) f e ?s (r.append m) ?_,Y,q)
 simp_all
inductive OZ(x:V)(vs:U V)(H:Hp)(Q:VK):Prop
 |i(l B i k y:_)(_:x = .ref l)(_:vs=[.int i])(_:H l=O (.lst B)) (_ : -(2 ^ 63)<=i) (_:i<2 ^ 63) (_:w2 i ?lB=O k) (_:B[k]?=O y) (_:Q y (upd H l (.lst (B.eraseIdx k))))
theorem yw:JJ X "list.pop" OZ:=by
 intro g s A H x vs v us Q I a c h;let(l,B,i,k,y,Y,Y,b,h1,h2,f,d,q):=h;cases a;let(u,Y,a):=c.one;let(t,Y):=a;let(z,J,n,r,a,e):=I.lstM b;let(w,c,a):=r.get d;refine h_ F.slot_list_pop (_,e,Y) F.entry_list_pop (F.args_list_pop_2 _ _)
  (MP l ?aJ n i t k w (D' h1 h2) ?x ?x ?x) (e,?_)
 refine(y,_,I.lset (its':=J.eraseIdx k) b e ?_ (r.eraseIdx k) ?_,a,q)
 ·simp_all
 ·have:=Α B k;exact ce ‹_› ‹_›
inductive U4(x:V)(y:V)(H:Hp)(Q:VK):Prop
 |i(l b B a:_)(_:x = .ref l)(_:y = .ref b)(_:H l=O (.lst B))(_:H b=O (.lst a))(_:?lB+?la<=bT)(_:∀p,H p=bd->Q (.ref p) (upd H p (.lst (B++a))))
theorem jc:l6 X (i' .Add) U4:=by
 intro g s A H x y v u Q I a c h;let(l,b,B,j,Y,Y,d,f,hz,q):=h;cases a;cases c;let(z,J,n,r,a,e):=I.lstM d;let(m,a,p,c,d,j):=I.lstM f;refine Ω e j ?_ (by grind);have d:?aJ++?aa=(J++a).toArray:=?s
 rw[d];exact(.ref _,_,I.lnew (t':=s.4) (r.append c) ?x,Y,q _ I.fresh)
inductive Nv(x:V)(y:V)(H:Hp)(Q:VK):Prop
 |i(l k B:_)(_:x = .ref l)(_:y = .int k)(_:H l=O (.lst B)) (_ : -(2 ^ 63)<=k) (_:k<2 ^ 63) (_:?lB * ?ik<=bT) (_:∀p,H p=bd->Q (.ref p) (upd H p (.lst (er ?ik B).flatten)))
theorem Vn(B:U α)(k:b8):(er k B).flatten.length=k * ?lB:=?s
theorem OV:l6 X (i' .Mult) Nv:=by
 intro g s A H x y v u Q I c b h;let(l,k,B,Y,Y,d,h1,h2,hz,q):=h;cases c;let(t,Y):=b;let(z,J,n,r,c,e):=I.lstM d;have c:?wJ * ?ik<=bT:=?x
 have d:¬ ?wJ * ?ik > (2 ^ 63 - 1) / 8:=by
  have:(bT)<=(2 ^ 63 - 1) / 8:=?a
  lia
 have f:¬ (!r5 k)=bm:=by
  rw[D' h1 h2]
  grind
 have b:¬ m5 (?wJ * ?ik)=bm:=by
  rw[yV c];exact ef
 have c:IP (λj p=>j++p) #[] (er (if J.toArray.isEmpty=bm then 0 else ?ik) ?aJ)=(er ?ik J).flatten.toArray:=by
  have j:=λm=>by
   have:=xF J m [];simp only[Gn]at this;omega
  rw[j];cases J with
  |nil=>simp
  |cons a r'=>rw[du ?s]
 refine wpAny_binaryOp_repeat_ref ?a (_,e,Y) (λs'=>Hi s' k t) noFill_list_mul F.fills_int_mul HB repeat_list F.slot_int_index.1
  (h_ HB (Hi s k t) F.entry_int_rmul (F.args_int_rmul_2 _ _) (int___rmul___int_list k t l ?aJ n)
   (e,Y,(_,e,Y),h_ F.slot_list_mul (_,e,Y) F.entry_list_mul (F.args_list_mul_2 _ _) (K9 l ?aJ n k t f d b) (e,?_)))
 rw[c];exact(.ref _,_,I.lnew (t':=s.4) (r.rep ?ik) (by rw[Vn,Em];exact hz),Y,q _ I.fresh)
section
variable [hQ κ]
noncomputable def aO(E:U (κ×V))(k:κ):b5 V:=(E.find? λkv=>decide (kv.1=k)).map (·.2)
noncomputable def bQ(E:U (κ×V))(k:κ)(v:V):U (κ×V):=
 if (E.any λkv=>decide (kv.1=k))=bm then E.map (λkv=>if kv.1=k then (zzq kv.1 v) else kv) else E++[(zzq k v)]
noncomputable def fm(E:U (κ×V))(k:κ):U (κ×V):=E.filter λkv=>decide (kv.1≠k)
theorem eQ{p:κ×V}{r:U (κ×V)}{k:κ}(e:p.1=k):aO (p::r) k=O p.2:=by simp[aO,e]
theorem dM{p:κ×V}{r:U (κ×V)}{k:κ}(e:¬ p.1=k):aO (p::r) k=aO r k:=by simp[aO,e]
theorem jj(k:κ):∀E:U (κ×V),(E.any λkv=>decide (kv.1=k))=(aO E k).isSome
 |[]=>rfl
 |p::r=>by
  simp only[hx];by_cases e:p.1=k
  ·simp only[eQ e,dg e,Bool.true_or,Option.isSome_some]
  ·simp only[dM e,c4 e];exact jj k r
theorem Lo(k j:κ)(y:V):∀E:U (κ×V),aO (E.map λkv=>if kv.1=k then (zzq kv.1 y) else kv) j=(aO E j).map λx=>if j=k then y else x
 |[]=>rfl
 |p::r=>by
  have a:=Lo k j y r;rw[ey];by_cases h:p.1=k
  ·rw[d6 h];by_cases e:p.1=j
   ·rw[eQ (p:=(zzq p.1 y)) e,eQ e,pw,d6 (e.symm.trans h)]
   ·rw[dM (p:=(zzq p.1 y)) e,dM e,a]
  ·rw[du h];by_cases e:p.1=j
   ·rw[eQ e,eQ e,pw,du (λz=>h (e.trans z))]
   ·rw[dM e,dM e,a]
theorem uR(k j:κ)(y:V)(E:U (κ×V))(a:aO E k=bd):aO (E++[(zzq k y)]) j=if j=k then O y else aO E j:=by
 induction E with
 |nil=>
  by_cases e:k=j
  ·rw[d6 ?ye];exact eQ (p:=(zzq k y)) e
  ·rw[du (λz=>e ?yz)];exact dM (p:=(zzq k y)) e
 |cons p r c=>
  rw[FK];have b:¬ p.1=k:=λz=>by rw[eQ z]at a;cases a
  rw[dM b]at a;by_cases e:p.1=j
  ·rw[eQ e,eQ e,du (λz=>b (e.trans z))]
  ·rw[dM e,dM e,c a]
theorem Pz(E:U (κ×V))(k j:κ)(y:V):aO (bQ E k y) j=if j=k then O y else aO E j:=by
 delta bQ
 by_cases a:(E.any λkv=>decide (kv.1=k))=bm
 ·rw[d6 a,Lo];rw[jj]at a;by_cases e:j=k
  ·let(x,b):=k_.mp a
   grind
  ·simp_all
 ·rw[du a];refine uR k j y E ?_;rw[jj]at a
  simp_all
theorem pf(E:U (κ×V))(k:κ)(v:V):(bQ E k v).length<=?lE+1:=by
 delta bQ
 split
 ·simp_all
 ·simp_all
theorem mW{E:U (κ×V)}{k:κ}(v:V)(h:aO E k=bd):bQ E k v=E++[(zzq k v)]:=by
 delta bQ
 rw[jj,h]
 simp_all
theorem cZ.isSome_eq{o:b5 V}{u:b5 b0}(r:cZ o u):o.isSome=u.isSome:=by
 cases o with
 |none=>cases u with
  |none=>rfl
  |some _=>exact (show fP from r).elim
 |some _=>cases u with
  |none=>exact (show fP from r).elim
  |some _=>rfl
theorem cZ.getD{o:b5 V}{u:b5 b0}{d:V}{d':b0}(r:cZ o u)(a:aB d d'):aB (o.getD d) (u.getD d'):=by
 cases o with
 |none=>cases u with
  |none=>exact a
  |some _=>exact (show fP from r).elim
 |some _=>cases u with
  |none=>exact (show fP from r).elim
  |some _=>exact r
theorem KV.val{E:U (κ×V)}{vs:U (κ×b0)}(r:KV E vs)(k:κ):cZ (aO E k) (u' vs k):=by
 induction r with
 |nil=>exact ho
 |@cons p q ps a h t d=>
  let(h1,h2):=h;by_cases e:p.1=k
  ·have c:=h1.symm.trans e;have b:u' (q::a) k=O q.2:=by simp[u',c]
   rw[eQ e,b];exact h2
  ·have c:¬ q.1=k:=λz=>e (h1.trans z);have b:u' (q::a) k=u' a k:=by simp[u',c]
   rw[dM e,b];exact d
theorem KV.any{E:U (κ×V)}{vs:U (κ×b0)}(r:KV E vs)(k:κ):(E.any λkv=>decide (kv.1=k))=vs.any λkv=>decide (kv.1=k):=by
 induction r with
 |nil=>rfl
 |cons h t a=>simp only[hx,hx,a,h.1]
theorem KV.repl{E:U (κ×V)}{vs:U (κ×b0)}(r:KV E vs)(k:κ)(a:aB y u):
  KV (E.map λkv=>if kv.1=k then (zzq kv.1 y) else kv) (vs.map λkv=>if kv.1=k then (zzq kv.1 u) else kv):=by
 induction r with
 |nil=>exact .nil
 |@cons p q ps b h t a=>
  simp only[ey,ey];refine .cons ?_ a
  lia
theorem KV.put{E:U (κ×V)}{vs:U (κ×b0)}(r:KV E vs)(k:κ)(a:aB y u):KV (bQ E k y) (Jx vs k u):=by
 delta bQ Jx
 rw[r.any k];by_cases e:(vs.any λkv=>decide (kv.1=k))=bm
 ·rw[d6 e,d6 e];exact r.repl k a
 ·rw[du e,du e];exact Paired.snoc r (Y,a)
theorem KV.drop{E:U (κ×V)}{vs:U (κ×b0)}(r:KV E vs)(k:κ):KV (fm E k) (without vs k):=by
 unfold KV at r ⊢
 delta fm without
 induction r with
 |nil=>exact .nil
 |@cons p q ps d h t c=>
  let(h1,h2):=h;simp only[gk,gk];by_cases e:p.1=k
  ·simp_all
  ·have d:¬ q.1=k:=λz=>e (h1.trans z);have a:decide (p.1≠k)=bm:=by simp[e]
   have b:decide (q.1≠k)=bm:=by simp[d]
   rw[d6 a,d6 b];exact .cons (h1,h2) c
theorem KV.keys{E:U (κ×V)}{vs:U (κ×b0)}(r:KV E vs):E.map (·.1)=vs.map (·.1):=by
 unfold KV at r;induction r with
 |nil=>rfl
 |cons h t a=>rw[ey,ey,a,h.1]
theorem KV.length{E:U (κ×V)}{vs:U (κ×b0)}(r:KV E vs):?lE=?lvs:=Paired.length r
theorem xm(E:U (κ×V))(k:κ):(fm E k).length<=?lE:=eu _ _
end
theorem iH{k:Key}(r:aB (kV k) u):(cy Ab w).is k u=bm:=by
 cases k with
 |inl i=>cases i with
  |none=>cases (show u=g2 from r);rfl
  |some i=>let(t,e):=(show ∃t,u=ni i t from r);subst e;exact WI Ab w i t
 |inr x=>let(t,e):=(show ∃t,u=nk x t from r);subst e;exact RD Ab w x t
theorem Va(r:az (ks.map kV) us):ItemsAre (cy Ab w) ks us:=by
 induction ks generalizing us with
 |nil=>cases r;exact .nil
 |cons k ks a=>cases r with
  |cons h t=>exact .cons (iH h) (a t)
abbrev KT(H:Hp):U (U Key×V)->U (U Key×a_×b0)->Prop:=Paired λp q=>p.1=q.1/\H q.2.1=O (.tup (p.1.map kV))/\aB p.2 q.2.2
theorem KT.val{E:U (U Key×V)}{B:U (U Key×a_×b0)}(r:KT H E B)(k:U Key):cZ (aO E k) ((EU B k).map (·.2)):=by
 induction r with
 |nil=>exact ho
 |@cons p q ps a h t d=>
  let(h1,_,h2):=h;by_cases e:p.1=k
  ·have c:=h1.symm.trans e;have b:EU (q::a) k=O q.2:=by simp[EU,c]
   rw[eQ e,b];exact h2
  ·have c:¬ q.1=k:=λz=>e (h1.trans z);have b:EU (q::a) k=EU a k:=by simp[EU,c]
   rw[dM e,b];exact d
theorem KT.repl{E:U (U Key×V)}{B:U (U Key×a_×b0)}(r:KT H E B)(k:U Key)(a:aB y u):
  KT H (E.map λkv=>if kv.1=k then (zzq kv.1 y) else kv) (B.map (putAt k u)):=by
 induction r with
 |nil=>exact .nil
 |@cons p q ps c h t b=>
  rw[ey];refine .cons ?_ b;let(h1,h2,b):=h
  delta putAt
  by_cases e:p.1=k
  ·rw[d6 e,d6 (h1.symm.trans e)];exact(h1,h2,a)
  ·rw[du e,du (λz=>e (h1.trans z))];exact(h1,h2,b)
theorem KT.put{E:U (U Key×V)}{B:U (U Key×a_×b0)}(r:KT H E B)(k:U Key)(c:H b=O (.tup (k.map kV)))(a:aB y u):
  KT H (bQ E k y) (storedH B k b u):=by
 have e:(E.any λkv=>decide (kv.1=k))=(EU B k).isSome:=by
  simp only[jj,(r.val k).isSome_eq,EI]
 delta bQ storedH
 rw[e];by_cases q:(EU B k).isSome=bm
 ·rw[d6 q,d6 q];exact r.repl k a
 ·rw[du q,du q];exact Paired.snoc r (Y,c,a)
theorem KT.keeps{E:U (U Key×V)}{B:U (U Key×a_×b0)}(r:KT H E B)(a:∀b ys,H b=O (.tup ys)->N b=O (.tup ys)):KT N E B:=
 Paired.mapP r λ_ _ z=>(z.1,a _ _ z.2.1,z.2.2)
theorem zY{u:HO}(ok:oH Ab w H h)(e:Rd H a u):bo Ab w H h a u:=e.ok ok
theorem i4(ok:oH Ab w H h)(e:Rd H a (.dK E)):?lE<=bT/\(a ==hC)=b1/\∃vs,KV E vs/\h.DictOf (cy Ab w) a vs:=
 show bo Ab w H h a (.dK E) from zY ok e
theorem ko(ok:oH Ab w H h)(e:H a=O (.dK E)):?lE<=bT/\(a ==hC)=b1/\∃vs,KV E vs/\h.DictOf (cy Ab w) a vs:=i4 ok (.inl e)
theorem o0(ok:oH Ab w H h)(e:H a=O (.tup (ks.map kV))):(wd (cy Ab w)).is h ks a:=by
 let(_,J,r,o,h1,h2,n,b):=(show bo Ab w H h a (.tup (ks.map kV)) from ok a _ e)
 exact(o,?aJ,n,h1,h2,b,by simpa using Va r)
theorem lV{E:U (U Key×V)}(ok:oH Ab w H h)(e:Rd H a (.dT E)):?lE<=bT/\(a ==hC)=b1/\
  ∃B,KT H E B/\h.DictOfH (wd (cy Ab w)) a B:=by
 let(z,y,B,r,o,es,ep,h1,h2,c,d,f):=(show bo Ab w H h a (.dT E) from zY ok e)
 refine(z,y,B,r,o,es,ep,h1,h2,c,d,λx b=>?_,f);have all:∀{l:U (U Key×V)}{m:U (U Key×a_×b0)},KT H l m->∀x∈m,(wd (cy Ab w)).is h x.1 x.2.1:=by
  intro l m q;induction q with
  |nil=>intro x b;exact nomatch b
  |@cons p q ps d f t c=>
   intro x b;rcases bG.mp b with e |b
   ·subst e;exact o0 ok ?x
   ·exact c x b
 exact all r x b
theorem QL{E:U (U Key×V)}(ok:oH Ab w H h)(e:H a=O (.dT E)):?lE<=bT/\(a ==hC)=b1/\
  ∃B,KT H E B/\h.DictOfH (wd (cy Ab w)) a B:=lV ok (.inl e)
def d9(H:Hp)(a:a_)(y:V)(r:b5 V):Prop:=
 (∃E k,Rd H a (.dK E)/\y=kV k/\r=aO E k)\/∃E k b,Rd H a (.dT E)/\y = .ref b/\H b=O (.tup (k.map kV))/\r=aO E k
def iq(H:Hp)(a:a_)(y v:V)(N:Hp):Prop:=
 (∃E k,H a=O (.dK E)/\y=kV k/\?lE<bT/\N=upd H a (.dK (bQ E k v)))\/
 ∃E k b,H a=O (.dT E)/\y = .ref b/\H b=O (.tup (k.map kV))/\?lE<bT/\N=upd H a (.dT (bQ E k v))
theorem d9.k{H:Hp}{a:a_}{E:U (Key×V)}{k:Key}(e:H a=O (.dK E)):d9 H a (kV k) (aO E k):=.inl (E,k,.inl e,Y,Y)
theorem d9.t{E:U (U Key×V)}{k:U Key}(e:H a=O (.dT E))(c:H b=O (.tup (k.map kV))):d9 H a (.ref b) (aO E k):=.inr (E,k,b,.inl e,Y,c,Y)
theorem iq.k{H:Hp}{a:a_}{E:U (Key×V)}{k:Key}{v:V}(e:H a=O (.dK E))(b:?lE<bT):iq H a (kV k) v (upd H a (.dK (bQ E k v))):=.inl (E,k,e,Y,b,Y)
theorem iq.t{E:U (U Key×V)}{k:U Key}{v:V}(e:H a=O (.dT E))(c:H b=O (.tup (k.map kV)))(d:?lE<bT):
  iq H a (.ref b) v (upd H a (.dT (bQ E k v))):=.inr (E,k,b,e,Y,c,d,Y)
section
variable{v:V}{r:b0}{d:b5 V}
theorem Inv.big(I:Inv X g A H s):hC<?ss:=by
 exact hy ?a ((I.mod.glob.keeps I.bk).lt)
theorem Η(w:Aa.5+1<m4)(I:Inv X g A H s)(Ac:d9 H a y (O v))(q:aB y u)(h:∀f s',Inv X g A H s'->aB v f->Q f s'):
  dy ?m Aa (sB (.ref a) u) Q on s:=by
 rcases Ac with⟨E,k,e,j,l⟩ |⟨E,k,b,e,j,x,l⟩
 ·subst j;let(z,hd,vs,c,m):=i4 I.10 e;let(f,n,d):=cZ.some_of (by rw[l];exact c.val k);exact w4 (iH q) m.mapOf n (h f _ (I.tok _) d)
 ·subst j;cases (show u=eM b from q);let(z,hd,B,c,m):=lV I.10 e;let(f,n,d):=cZ.some_of (v:=v) (by rw[l];exact c.val k);let(p,j,c):=d3.mp n;refine wpAny_getItem_heap (t6 w) (o0 I.10 x) m j ?_;simp only[c];exact h f _ (I.tok _) d
theorem WS(n:Aa.5+1<m4)(I:Inv X g A H s)(Ac:d9 H a y d)(m:aB y u)(h:∀s',Inv X g A H s'->Q (.bool (!d.isSome)) s'):
  dy ?m Aa (eT .NotIn u (.ref a)) Q on s:=by
 rcases Ac with⟨E,k,e,f,l⟩ |⟨E,k,b,e,f,p,l⟩
 ·subst f;let(z,hd,vs,c,j):=i4 I.10 e;refine Jy (iH m) hd j.mapOf ?_;rw[<-(c.val k).isSome_eq,<-l];exact h _ (I.tok _)
 ·subst f;cases (show u=eM b from m);let(z,hd,B,c,j):=lV I.10 e;refine wpAny_notIn_heap (t6 n) (o0 I.10 p) hd j ?_;have q:=(c.val k).isSome_eq;simp only[EI]at q;simp only[<-q,<-l];exact h _ (I.tok _)
theorem lT{c:HO}(I:Inv X g A H s)(d:Jk (H a))(e:gS a s.1 h')(f:∃q,h'.get? a=O q)(new:bo X.1 X.w (upd H a c) h' a c):
  Inv X g A (upd H a c) { s with heap:=h',toks:=t' }:=
 I.write d (.inl Y) (λb q c z=>(e.2 b c).trans z) f new
theorem km{vs:U (Key×b0)}(z:?lE<=bT)(hd:(a ==hC)=b1)(b:KV E vs)(c:h'.DictOf (cy Ab w) a vs):
  bo Ab w N h' a (.dK E):=(z,hd,vs,b,c)
theorem Ve{Q:Gc->b'->Prop}(J:Aa.5+1<m4)(I:Inv X g A H s)(Ac:iq H a y v N)(C:aB y u)(D:aB v r)(h:∀s',Inv X g A N s'->Q () s'):
  dy ?m Aa (K1 (.ref a) u r) Q on s:=by
 rcases Ac with⟨E,k,e,m,l,n⟩ |⟨E,k,b,e,m,G,l,n⟩
 ·subst m n;let(z,hd,vs,d,p):=ko I.10 e;have hz:?lvs<=bT:=by exact ?ld ▸ z
  have w:(bQ E k v).length<=bT:=by have:=pf E k v;exact ce ‹_› ‹_›
  refine wpAny_setItem_pairs (iH C) p λh' f x=>h _ ?_;have K:∃q,h'.get? a=O q:=by let(q,_,_,j,_):=f;exact(q,j)
  exact lT I (by rw[e];exact ho) x K (km w hd (d.put k D) f)
 ·subst m n;cases (show u=eM b from C);let(z,hd,B,d,p):=QL I.10 e;have hz:?lB<=bT:=by exact (Paired.length d) ▸ z
  have w:(bQ E k v).length<=bT:=by have:=pf E k v;exact ce ‹_› ‹_›
  refine wpAny_setItem_heap (t6 J) (o0 I.10 G) p λh' f x=>h _ ?_;let(q,es,ep,j,h2,m,n,_,p):=f;refine lT I (by rw[e];exact ho) x (q,j) (w,hd,_,(d.put k G D).keeps λc ys f=>?_,q,es,ep,j,h2,m,n,p);rw[af (bL f e (λz=>nomatch z))];exact f
end
section
variable{k:Key}
theorem Ϲ{Q:Gc->b'->Prop}(I:Inv X g A H s)(e:H a=O (.dK E))(c:aB (kV k) u)(l:(aO E k).isSome=bm)(h:∀s',Inv X g A (upd H a (.dK (fm E k))) s'->Q () s'):
  dy ?m Aa (delItem (.ref a) u) Q on s:=by
 let(z,hd,vs,b,d):=ko I.10 e;refine wpAny_delItem_slot d.typeIs ?a FL
  (rc FL d.typeIs F.entry_dict_delitem (F.args_dict_delitem_2 _ _) (meets_dict_delitem_pairs (cy X.1 X.w) a (iH c)) (vs,d,by rw[<-?lb];exact z,by rw[<-(b.val k).isSome_eq];exact l,λh' c f=>h _ ?_))
 have d:∃q,h'.get? a=O q:=let⟨q,_,_,j,_⟩:=c;(q,j);exact lT I (by rw[e];exact ho) f d (km (ce (xm E k) z) hd (b.drop k) c)
theorem UT{v:V}{b:U b0}(I:Inv X g A H s)(e:H a=O (.dK E))(f:aB (kV k) u)(l:aO E k=O v)(m:b=[]\/∃x,b=[x])(h:∀d s',Inv X g A (upd H a (.dK (fm E k))) s'->aB v d->Q d s'):dy ?m Aa (qB (.builtin "dict.pop") (.ref a::u::b)) Q on s:=by
 let(z,hd,vs,c,n):=ko I.10 e;let(d,p,j):=cZ.some_of (v:=v) (o:=u' vs k) (by exact l ▸ (c.val k));have w:(keyPart u).isSome=bm:=by
  cases k with
  |inl i=>cases i with
   |none=>cases (show u=g2 from f);rfl
   |some i=>let(t,q):=(show ∃t,u=ni i t from f);subst q;rfl
  |inr x=>let(t,q):=(show ∃t,u=nk x t from f);subst q;rfl
 have y:Hk "dict.pop" (.ref a::u::b,[]):=by
  rcases m with q |⟨x,q⟩
  ·subst q;exact F.args_dict_pop_2 _ _
  ·subst q;exact F.args_dict_pop_3 _ _ _
 refine rc HC n.typeIs F.entry_dict_pop y (meets_dict_pop_there (cy X.1 X.w) a (iH f) b m w)
  (vs,d,n,by exact ?lc ▸ z,p,λh' b f=>h d _ ?_ j)
 have d:∃q,h'.get? a=O q:=let⟨q,_,_,j,_⟩:=b;(q,j);exact lT I (by exact e ▸ ho) f d (km (ce (xm E k) z) hd (c.drop k) b)
theorem w9(I:Inv X g A H s)(e:Rd H a (.dK E))(h:∀t s',Inv X g A H s'->Q (.int ?lE t) s'):dy ?m Aa (qB (.builtin "len") [.ref a]) Q on s:=by
 let(z,hd,vs,b,c):=i4 I.10 e;refine call_len_dict hd c (by rw[<-?lb];rw[e2]at z;lia) ?_;rw[<-?lb];exact h _ _ (I.tok _)
end
def nL(i:f3):Prop:=∀ov a,x3 i b1 ov a=K8 [ov,a] (sB ov a)
theorem uM{a:f3}{T id:gV}(e:mj (.type T) "__getitem__" =hl (O (.builtin id)))(f:nL a)(h:dy (ds prog w) Aa (eval value env) (λo c=>dy (ds prog w) Aa (eval a env) (λi b=>b.TypeIs o T/\dy (ds prog w) Aa (sB o i) Q on b) on c) on s):
  dy (ds prog w) Aa (eval (.Subscript value a pos) env) Q on s:=by
 refine C' (ew h (λo c d=>ew d (λi b c=>?_) λ_ _ x=>x) λ_ _ x=>x);let(d,c):=c;refine al ?_;refine al (kc d e ?_);have fin:dy (ds prog w) Aa (x3 a b1 o i) (λr a=>dy (ds prog w) Aa (letTemporaryGo value o r >>=λ_=>hl r) Q on a) on b:=by
  rw[f o i];exact wpAny_operating (ew c (λr a c=>al (wpAny_letTemporaryGo (b4 c))) λ_ _ x=>x)
 first
  |exact b4 (al fin)
theorem Po{o:b5 V}(I:Inv X g A H s)(Ac:d9 H a y o):s.TypeIs (.ref a) "dict" :=by
 rcases Ac with⟨E,k,e,_,_⟩ |⟨E,k,b,e,_,_,_⟩
 ·let(_,_,vs,_,c):=i4 I.10 e;exact c.typeIs
 ·let(_,_,B,_,c):=lV I.10 e;exact c.typeIs
inductive Oy(Q:VK)(x:V)(y:V)(H2:Hp):Prop
 |i(a v:_)(_:x = .ref a)(_:d9 H2 a y (O v))(_:Q v H2)
def ZX(td ty:TE):TE:=λA H Q=>td A H λx H1=>ty A H1 λy H2=>Oy Q x y H2
inductive Uo(Q:VK)(y:V)(x:V)(H2:Hp):Prop
 |i(a o:_)(_:x = .ref a)(_:d9 H2 a y o)(_:Q (.bl (!o.isSome)) H2)
def Rl(ty td:TE):TE:=λA H Q=>ty A H λy H1=>td A H1 λx H2=>Uo Q y x H2
inductive Q7(D:fJ)(A:St)(v:V)(x:V)(y:V)(c:Hp):Prop
 |i(a b:_)(_:x = .ref a)(_:iq c a y v b)(_:D.nx A b)
def Ln(td ty tv:TE):TS:=λD A H=>tv A H λv H1=>td A H1 λx H2=>ty A H2 λy a=>Q7 D A v x y a
section
variable{b i:f3}{ty:TE}
theorem fX(e:X.A.5+1<m4)(c:PE X b td)(hi:PE X i ty)(f:nL i):PE X (.Subscript b i pos) (ZX td ty):=by
 intro g s A H Q I h;refine uM so.1 f (gv (c g s A H _ I h) λu s1 ⟨x,H1,c,j,f⟩=>gv (hi g s1 A H1 _ c f) λc s2 ⟨y,H2,d,m,a,v,ex,Ac,n⟩=>?_);subst ex;obtain rfl:u=eM a:=j;exact(Po d Ac,Η e d Ac m λj p f c=>(v,H2,f,c,n))
theorem T'(c:X.A.5+1<m4)(hi:PE X i ty)(d:PE X b td):PC X .NotIn i b (Rl ty td):=by
 intro g s A H Q I h;refine gv (hi g s A H _ I h) λm s1 ⟨y,H1,e,f,j⟩=>gv (d g s1 A H1 _ e j) λu s2 ⟨x,H2,d,e,a,ov,ex,Ac,j⟩=>?_;subst ex;obtain rfl:u=eM a:=e;exact WS c d Ac f λe d=>(.bl (!ov.isSome),H2,d,Y,j)
theorem uj(c:X.A.5+1<m4)(d:PE X b td)(hi:PE X i ty)(e:PE X value tv)(f:mX value (O (.Subscript b i pos')) pos.1 X.10=hl b1):
  PS X (.Assign [.Subscript b i pos'] value pos) (Ln td ty tv):=by
 intro g s A H D I h;refine wpAny_Assign_Subscript (gv (e g s A H _ I h) λr s1 ⟨v,H1,e,j,m⟩=>gv (d g s1 A H1 _ e m) λu s2 ⟨x,H2,e,n,d⟩=>gv (hi g s2 A H2 _ e d) λe d ⟨y,m,p,q,a,w,ex,Ac,z⟩=>?_) f;subst ex;obtain rfl:u=eM a:=n;exact Ve c p Ac q j λd e=>(A,w,e,z)
end
theorem Ul(h:fy)(a:hC<?zh):bo Ab w H (h.push { cls:=.type "dict",data:=.dict #[] }) ?zh (.dK []):=
 (ej _,ha.mpr (fU (cb a)),[],.nil,Bc h)
def Vk:TE:=λ_ H Q=>∀p,H p=bd->Q (.ref p) (upd H p (.dK []))
theorem kT:PE X (.Dict [] [] pos) Vk:=λg s A H Q I h=>
 wpAny_Dict_empty (.ref ?ss,_,I.laid (t':=s.4) (λ_ _ q=>aw _ q) (b2 _) (Ul s.1 I.big),Y,h _ (I.hok.fresh (b2 _)))
structure M1(X:Cx)(o:f3)(m:c3)(apos:FF)(e:f3)(cpos:FF):Prop where
 base:h9 o m X.10 (eval o X.10)=eval o X.10
 few:((gx cpos (cH [e] X.10)).all (λx=>!x.1) && (n1 cpos (j2 [] X.10)).all (λx=>x.1.isSome)
  && decide (([e]:U f3).length+([]:U q').length+(if ([]:U q').isEmpty then 0 else 1)<30))=bm
 line:(apos.3 ==cpos.1)=bm
 trees:gx cpos (cH [e] X.10)=[(zzq b1 (eval e X.10))]
def Lv(H:Hp)(a:a_):Prop:=(∃E,Rd H a (.dK E))\/∃E,Rd H a (.dT E)
theorem ZI(I:Inv X g A H s)(d:Lv H a):
  s.TypeIs (.ref a) "dict" /\ (∀b,eM a = .ref b->∃c,s.heap.get? b=O c/\c.2=bd)/\(a ==hC)=b1:=by
 rcases d with⟨E,e⟩ |⟨E,e⟩
 ·let(_,hd,vs,_,f):=i4 I.10 e;refine(f.typeIs,λb q=>?_,hd);cases q;let(c,_,_,h1,h2,_):=f;exact(c,h1,h2.2.1)
 ·let(_,hd,B,_,f):=lV I.10 e;refine(f.typeIs,λb q=>?_,hd);cases q;let(c,_,_,h1,h2,_):=f;exact(c,h1,h2.2.1)
section
variable{d:V}{r:b0}{a:b5 V}
end
inductive Yq(ty:TE)(A:St)(Q:VK)(x:V)(H1:Hp):Prop
 |i(a:_)(_:x = .ref a)(_:Lv H1 a)(_:ty A H1 λy H2=>∃E k v,H2 a=O (.dK E)/\y=kV k/\aO E k=O v/\Q v (upd H2 a (.dK (fm E k))))
def Sx(td ty:TE):TE:=λA H Q=>td A H λx H1=>Yq ty A Q x H1
section
variable{b f:f3}{ty c:TE}
theorem Oa(c:PE X b td)(f:PE X e ty)(m:M1 X b "pop" apos e cpos):PE X (.Call (.Attribute b "pop" apos) [e] [] cpos) (Sx td ty):=by
 intro g s A H Q I h;refine wpAny_Call_method m.1 m.2 m.3 t7 HC F.type_dict_pop (gv (c g s A H _ I h) λu s1 ⟨x,H1,c,j,a,ex,d,n⟩=>?_);subst ex;obtain rfl:u=eM a:=j;let(j,p,_):=ZI c d;refine(j,p,?_);rw[m.4];refine ia Y (qE (hc (gv (f g s1 A H1 _ c n) λq s2 ⟨y,H2,c,j,E,k,v,f,n,l,p⟩=>hj ?_)));subst n;exact UT c f j l (.inl Y) λf n j c=>(v,_,j,c,p)
end
namespace Att
open PySem PySem.W PySem.Calls PyProof.Rows
theorem Sh{Ab:Jz}: ∀(ns:U cs)(vs:U b0),WellAll Ab h vs (ns.map WData.int)->sC vs ns:=by
 intro ns;induction ns with
 |nil=>
  intro vs w;cases w;exact .nil
 |cons n ns c=>
  intro vs w;cases w with
  |cons a b=>
   cases a;exact .cons _ _ (c _ b)
theorem Qc{l:OpenLaw}(q:l.5=O n){Ab:Jz}{b:U WData}{c:U b0}(e:l.row.toRowW.claim.pre b=bm)(m:WellAll Ab h c b):
  ∃a vs ns,c=[eM a]/\b=[WData.list (ns.map WData.int)]/\h.get? a=O { cls:=.type "list",data:=.seq ?avs }/\sC vs ns/\?lns<=n:=by
 have p:WShape.hasAll [] b [.list .int]=bm:=(pre_splitW e).1;have s:l.pre.holds [] { args:=b }=bm:=(pre_splitW e).2;let(d,r,Y,h1,h2):=hasAllW_cons p;obtain rfl:=hasAllW_nil h2;let(B,Y,u):=hasW_list h1;let(ns,Y):=items_int u;have f:?lns<=n:=by
  have j:(WTm.not (.lt (.lit (.int (n))) (.len (.arg 0)))).holds [] { args:=[.list (ns.map .int)] }=bm:=by
   have j:=(holds_andW s).1;rw[q]at j;exact j
  have b:=condW_of j (w_not (w_lt w_lit (w_len_list (w_arg Y))))
  simp_all
 cases m with
 |cons v w=>
  cases w;cases v with
  |list x g=>exact(_,_,ns,Y,Y,x,Sh ns _ g,f)
theorem OQ(l:OpenLaw)(a:U WData):l.row.toRowW.claim.post a (.bool bm) a=bm:=
 postW_of
  (show WShape.has [] (.bool bm) .bool=bm by rfl)
  (show (WTm.eq .res (.lit (.bool bm))).value [] { args:=a,res:=O (.bool bm),after:=a }=O (.bool (bm ==bm)) from w_eq_bool (w_res Y) w_lit) Y
theorem B'{l:OpenLaw}{d:ϊ}(v:l.5=O n)(e:d.params.7=[])(qB:∀(w:gl)(c b:b')(mg m:c3->b5 b0)(fa:a_)(o:hg)(pm cd doc:b0)(a:a_)(vs:U b0)(ns:U cs),
   Ground q loose [] XP w c mg m b.1->YP w b.1->
   b.heap.get? fa=O o->o.3 = .func (docDef d.1 d.2 d.3 d.4 pm cd doc)->b.heap.CodeRec cd d.1->mg d.1=O (.ref fa)->
   b.heap.get? a=O { cls:=.type "list",data:=.seq ?avs }->sC vs ns->?lns<=n->b.2 = #[]->
   lp (ds l.1 w) B1 (.call (.ref fa) ([.ref a],[])) (λr s'=>r = .ok (.ret (.bool bm))/\OldK b.1 s'.1/\s'.5=b.5/\qW s'.2) b):
  WalkO q loose XP YP l.row.1 d [] (λf vs=>EJ f vs):=by
 intro w c b mg m G x fa o pm cd doc y kV z hd p h s A g g j g j j u j;obtain rfl:y = .none:=Dflts.none h e;obtain rfl:kV = .none:=Dflts.noKw h;let(a,vs,ns,Y,Y,h,e,j):=Qc v g u;refine enter_call (h6 (qB w c b mg m fa o pm cd doc a vs ns G x z (fd_plain hd) p s h e j A) λr s' j=>?_);let(Y,h2,g,e):=j;exact(.inl (.bool bm,.bool bm,[],Y,λ_=>rfl,.bool bm,OQ l _,λ_=>(qs,λ_ j=>(nomatch j))),h2,g,e)
section
variable{K:Frag}
end
end Att
theorem Lb(h:sC vs ns):az (ns.map V.int) vs:=by
 induction h with
 |nil=>exact .nil
 |cons n t h a=>exact .cons (t,Y) a
noncomputable def br(s:eo)(j:b8):eo:=match s with
 |.ClassDef _ _ _ body _ _ _ _ _ _ _=>body.getD j (.Pass ((0),(0),(0),(0)))
 |_=>.Pass ((0),(0),(0),(0))
noncomputable def dG(s:eo):q9:=match s with
 |.FunctionDef _ a _ _ _ _ _ _ _ _=>a
 |_=>{ posonlyargs:=[],args:=[],vararg:=bd,kwonlyargs:=[],kw_defaults:=[],kwarg:=bd,defaults:=[] }
def ci(s:eo):U eo:=match s with
 |.FunctionDef _ _ b _ _ _ _ _ _ _=>b
 |_=>[]
noncomputable def aQ(s:eo):oI:=match s with
 |.FunctionDef _ _ _ _ _ _ sc _ _ _=>sc
 |_=>{ kind:=.function,names:=[],isGenerator:=b1,isCoroutine:=b1 }
abbrev r_:zH:=λ_ _ _ _ _ _=>fP
abbrev E0:XK:=λ_ _ _=>fP
theorem ap  : c8 r_ X E0:=λ_ _ _ _ _ _ _ h=>h.elim
structure rS(K:bI)(x qual:c3)(st:eo)(f:a_)(fd:i3):Prop where
 ex:∃(oc:b0)(od:b5 a_)(kV doc pm:b0)(an:b5 a_)(cdv ct:b0)(osl:fK (b5 b0)),
  fd=ki x qual (dG st) (ci st) (aQ st) .none kV doc pm an cdv ct/\K.lookup f=O (oc,od,.func fd,osl)/\jJ K cdv qual=bm
 kp:hw K (.ref f)=bm
theorem rS.ok{f:a_}{k:b8}(F:rS K x L st f fd)(S:b9 Ae ps (aQ st))(len:∀vs H Q on,sp vs H Q on->?lvs=?lps)(a:∀(cdv:b0)(Aa:hB)(outer:U u2)(s:b')(H:Hp)(vs:U V)(Q:VK)(on:XK),aZ k (Aa.deeper (nI L (aQ st) ?ss f cdv))->sp vs H Q on->
   ∃t,t2 (c6 r_ Ab w K mg base Ae L (aQ st) f cdv Aa outer s H on).nox (ci st) t/\t { nx:=λ_ N=>Q .non N,rt:=Q } (fC Ae vs) H):aN Ab w K mg base r_ (k+1) f fd ps sp:=by
 let(oc,od,kV,doc,pm,an,cdv,ct,osl,Y,lk,b):=F.1;refine rT lk b S len λAa outer s H vs Q on c b=>?_;let(t,h,q):=a cdv Aa outer s H vs Q on c b;exact(t,h.nox,q)
theorem rS.binds{f:a_}(F:rS K x L st f fd)(h:∀(kV doc pm:b0)(an:b5 a_)(cdv ct:b0)(us:U b0),?lus=?lps->C_ (ki x L (dG st) (ci st) (aQ st) .none kV doc pm an cdv ct) (us,[])=hl (ps.zip us)):cp K fd ps []:=by
 let(oc,od,kV,doc,pm,an,cdv,ct,osl,Y,lk,a):=F.1;exact .all (h kV doc pm an cdv ct)
theorem lZ{f:a_}{kV:b0}(l:K.lookup f=O (oc,od,.func (ki x L (dG st) (ci st) (aQ st) .none kV doc pm an cdv ct),osl))(c:jJ K cdv L=bm)(k:hw K (.ref f)=bm):rS K x L st f (ki x L (dG st) (ci st) (aQ st) .none kV doc pm an cdv ct):=((oc,od,kV,doc,pm,an,cdv,ct,osl,Y,l,c),k)
theorem gB{k:b8}(a:aZ k Aa):Aa.5+1<m4:=gi (EV ?a _) a.units
theorem bJ(h:n<=1000):n<bT:=gi h ?a
theorem pv(i:b8)(b:zzp (X.N[i]?=O x) zz0)(c:I2 X.env.1 x:=by first |exact oe Y |exact q6 (oe Y) |exact q6 (q6 Y))(hd:zzp ((x ==("__debug__" : c3))=b1) zz1)(a:zzp ((x ==("__classdict__" : c3))=b1) zz1):PE X (.Name x pos) (cn i):=zt b c hd a
theorem j9:bx X (.builtin "len") (λB H Q=>∃a E,B=[V.ref a]/\H a=O (.dK E)/\Q (.int ?lE) H):=by
 intro g s A H B us Q I r h;let(a,E,Y,b,q):=h;let(u,Y,c):=cA r;cases c;exact w9 I (.inl b) λt s' b=>(.int ?lE,H,b,(t,Y),q)
theorem ao{Aa:Prop}(h:Ah):if b1=bm then Aa else Ah:=by
 exact h
theorem aA{Aa:Prop}(h:Aa):if bm=bm then Aa else Ah:=by
 exact h
def aa(H N:Hp):Prop:=∀b o,H b=O o->N b=O o
theorem aa.refl(H:Hp):aa H H:=λ_ _ h=>h
theorem aa.trans(a:aa H H1)(b:aa H1 H2):aa H H2:=λc o h=>b c o (a c o h)
theorem aa.free(e:aa H N){l:a_}(h:N l=Hl):H l=Hl:=by
 cases q:H l with
 |none=>rfl
 |some o=>
  rw[e l o q]at h;cases h
theorem aa.seq(e:aa H N)(h:eb K H a B):eb K N a B:=by
 rcases h with (h |⟨o,h⟩) |h
 ·exact .inl (.inl (e _ _ h))
 ·exact .inl (.inr (o,e _ _ h))
 ·exact .inr h
section
variable [hQ κ]
theorem uQ{E:U (κ×V)}{k:κ}(h:aO E k=bd):¬ k∈E.map (·.1):=by
 intro m;let(p,a,e):=cv.mp m;have q:(E.any λkv=>decide (kv.1=k))=bm:=hZ.mpr (p,a,dg e);rw[jj,h]at q
 grind
theorem Su{E:U (κ×V)}{k:κ}{v:V}(h:aO E k=O v):k∈E.map (·.1):=by
 have q:(E.any λkv=>decide (kv.1=k))=bm:=by
  rw[jj,h]
  all_goals rfl
 let(p,a,e):=hZ.mp q;exact cv.mpr (p,a,eh e)
end
noncomputable def eW(cells:U (c3×a_)):U (c3×n0)->U (c3×a_)->U (c3×a_)
 |[],acc=>acc
 | (n,k)::r,acc=>if (k ==fI)=bm then eW cells r ((zzq n ((cells.lookup n).getD 0))::acc) else eW cells r acc
theorem rB(cells:U (c3×a_)):∀(l:U (c3×n0))(acc:U (c3×a_))(x:c3)(c:a_),
  (eW cells l acc).lookup x=O c->((zzq x fI)∈l/\c=(cells.lookup x).getD 0)\/acc.lookup x=O c
 |[],_,_,_,h=>.inr h
 | (n,k)::r,acc,x,c,h=>by
  unfold eW at h
  split at h
  ·rename_i a
   have a:k=fI:=by simpa using a
   rcases rB cells r _ x c h with⟨m,e⟩ |e
   ·exact .inl (dz _ m,e)
   ·grind
  ·rcases rB cells r acc x c h with⟨m,e⟩ |e
   ·exact .inl (dz _ m,e)
   ·exact .inr e
theorem oy(cells:U (c3×a_)):∀(l:U (c3×n0))(acc:U (c3×a_))(x:c3),
  ((zzq x fI)∈l\/∃c,acc.lookup x=O c)->∃c,(eW cells l acc).lookup x=O c
 |[],_,_,h=>by
  rcases h with h |h
  ·cases h
  ·exact h
 | (n,k)::r,acc,x,h=>by
  unfold eW
  split
  ·rename_i a
   refine oy cells r _ x ?_;rcases h with h |⟨c,h⟩
   ·rcases bG.mp h with h |h
    ·injection h with h1 h2
     simp_all
    ·exact .inl h
   ·right
    grind
  ·rename_i a
   refine oy cells r _ x ?_
   grind
theorem Uz(h:∀x,(zzq x fI)∈scope.2->∃c,env.cells.lookup x=O c):
  Hm scope env=hl (eW env.4 scope.2 []):=by
 have d:∀(l:U (c3×n0))(acc:U (c3×a_))(f:c3×n0->U (c3×a_)->HS (ForInStep (U (c3×a_)))),
   (∀n k a,f (zzq n k) a=if (k ==fI)=bm then ϋ env n >>=λc=>hl (.yield ((zzq n c)::a)) else hl (.yield a))->
   (∀x,(zzq x fI)∈l->∃c,env.cells.lookup x=O c)->(forIn l acc f:HS (U (c3×a_)))=hl (eW env.4 l acc):=by
  intro l;induction l with
  |nil=>intro acc f _ _;rfl
  |cons p r m=>
   intro acc f e g;let(n,k):=p;rw[ls,e];unfold eW;by_cases b:(k ==fI)=bm
   ·rw[d6 b,d6 b];have j:k=fI:=by simpa using b
    let(c,q):=g n (j ▸ ea);rw[show ϋ env n=hl c from by delta ϋ;rw[q],q];exact m _ f e λx j=>g x (dz _ j)
   ·rw[du b,du b];exact m _ f e λx j=>g x (dz _ j)
 refine (eG (λt:HS (U (c3×a_))=>t >>=λa=>hl a) (d scope.2 [] _ ?_ h)).trans ?_
 ·intro n k a;rfl
 ·simp_all
def u7(M:Model)(Aa:hB)(on:b0->b'->Prop)(C:a_)(x:b0)(s':b'):Prop:=
 ∃m,s'.heap.Ns C m/\∀h',gS C s'.1 h'->∀a:u2,a.2=C->dy M Aa (passOn "comprehension.variables-let-go" x a:HS b0) (λ_ _=>fP) on { s' with heap:=h' }
noncomputable def aY(X:Cx)(Ae:U c3)(scope:oI)(C:a_)(fp:U a_)(s:b')(H:Hp):Cx where
 prog:=X.1
 w:=X.w
 K:=X.K
 mg:=X.4
 base:=X.5
 A:=X.A
 N:=Ae
 s₀:=s
 H₀:=H
 env:=compEnvC scope (eW X.env.4 scope.2 []) C X.10
 outer:=X.12
 stack:=X.12
 ex:=fp
 fn:=λ_=>b1
 calm:=X.15
 pn:=[]
 xe:=notedBy ?m X.A (compEnvC scope (eW X.env.4 scope.2 []) C X.10) (u7 ?m X.A X.xe C)
structure dD(X:Cx)(N:U c3)(scope:oI)(fr:U (b5 b8)):Prop where
 kind:scope.1 = .function
 nocell:(scope.names.all λx=>decide (x.2≠.cell))=bm
 locs:(scope.names.all λx=>decide (x.2 = .local->scope.names.lookup x.1=O .local))=bm
 free:(scope.names.all λx=>decide (x.2 = .free->X.env.scope.names.lookup x.1=O .cell))=bm
 len:fr.length=N.length
 pl:((da N.length).all λi=>match fr[i]? with
  |some (O j)=>decide (X.N[j]?=N[i]?/\∃x,N[i]?=O x/\scope.names.lookup x=O .free)
  |_=>bm)=bm
noncomputable def stC(fr:U (b5 b8))(A:St):St:=fr.map λo=>o.bind λj=>(A[j]?).join
def Wk(A a:St):Prop:=?la=?lA/\∀(i:b8) v,A[i]?=O (O v)->a[i]?=O (O v)
theorem Wk.set{i:b8}{v:V}(h:A[i]?=O bd):Wk A (A.set i (O v)):=by
 refine(?s,λj w a=>?_);by_cases e:i=j
 ·grind
 ·simp_all
theorem Wk.refl(A:St):Wk A A:=(Y,λ_ _ h=>h)
theorem Wk.trans{A c d:St}(a:Wk A c)(b:Wk c d):Wk A d:=(b.1.trans a.1,λi v h=>b.2 i v (a.2 i v h))
def iu(X:Cx)(ifs:U f3)(t:TT):Prop:=
 ∀(g:U (a_×hg))(s:b')(A:St)(H:Hp)(Q:eg->Hp->Prop),Inv X g A H s->t A H Q->
  dy ?m X.A (forIn ifs bm λc r=>if r=bm then do let ok <-isTrue c X.10 (eval c X.10);hl (o6 ok) else hl (o6 r)) (TP X g A Q) X.xe s
def jT:TT:=λ_ H Q=>Q bm H
theorem bh  : iu X [] jT:=λ_ _ _ H _ I h=>wpAny_tests_nil (H,I,h)
theorem gQ{c:f3}{t:TT}(h:PT X c t):iu X [c] t:=λg s A H Q I q=>wpAny_tests_one (h g s A H Q I q)
theorem XM{a:f3}{it acc:b0}(I:b8->b'->Prop)(u:b0->b'->Prop)(y:∀e s',u e s'->notedBy (ds prog w) Aa env (λx b=>R (.error x) b) e s')(turn:∀n s,I n s->dy (ds prog w) Aa (sk it) (λr b=>match r with
   |none=>R (.ok .next) b
   |some v=>dy (ds prog w) Aa (y5 a it v) (λ_ d=>dy (ds prog w) Aa (Hb a env v) (λ_ g=>
     dy (ds prog w) Aa (forIn ifs bm λc r=>if r=bm then do let ok <-isTrue c env (eval c env);hl (o6 ok) else hl (o6 r)) (λok f=>
      if ok=bm then dy (ds prog w) Aa (eval elt env) (λx j=>
       dy (ds prog w) Aa (qB (.builtin "list.append") [acc,x]) (λ_ p=>∃m,m<n/\I m p) u j) u f
      else ∃m,m<n/\I m f) u g) u d) u b) u s)(n:b8)(h:I n s):
  lp (ds prog w) Aa (.compLoop (.ListComp elt [(a,iter,ifs,(0))] scope pos) 0 it acc env) R s:=by
 refine codeAny_loop Y I (λn s a=>?_) n h;refine wpAny_noted (ew ?_ (λ_ _ q=>q) y);rw[compTurn_list];refine al (EF (al (ew (turn n s a) (λr b a=>?_) λ_ _ h'=>h')));cases r with
 |none=>exact b4 a
 |some v=>
  refine al (ew a (λ_ d a=>?_) λ_ _ h'=>h');refine al (ew a (λ_ g a=>al (ew a (λok f a=>?_) λ_ _ h'=>h')) λ_ _ h'=>h');cases ok with
  |false=>exact b4 (Y,a)
  |true=>
   exact al (al (ew a (λx j a=>al (ew a (λ_ p a=>b4 (b4 (Y,a))) λ_ _ h'=>h')) λ_ _ h'=>h'))
theorem Qx(h:names.lookup x=O .free):
  (names.map λ(n,k)=>if (k ==fI && env.scope.1 == .function && env.kindOf n ==O .cell) then (zzq n n5) else (zzq n k)).lookup x=O .cell\/
  (names.map λ(n,k)=>if (k ==fI && env.scope.1 == .function && env.kindOf n ==O .cell) then (zzq n n5) else (zzq n k)).lookup x=O .free:=by
 induction names with
 |nil=>cases h
 |cons p r c=>
  let(n,k):=p;rw[ey];simp only[kz]at h;by_cases b:x=n
  ·subst b;have a:k = .free:=by simpa using h
   subst a;dsimp only
   split
   ·left;simp
   ·right;simp
  ·have a:(x ==n)=b1:=by simpa using b
   rw[a]at h;rcases c h with q |q
   ·left;dsimp only
    split <;> (simp only[kz,a];exact q)
   ·right;dsimp only
    split <;> (rw[kz,a];exact q)
theorem N6(h:(names.map λ(n,k)=>if (k ==fI && env.scope.1 == .function && env.kindOf n ==O .cell) then (zzq n n5) else (zzq n k)).lookup x=O .cell\/
     (names.map λ(n,k)=>if (k ==fI && env.scope.1 == .function && env.kindOf n ==O .cell) then (zzq n n5) else (zzq n k)).lookup x=O .free):
    (zzq x fI)∈names\/(zzq x n5)∈names:=by
  induction names with
  |nil=>simp at h
  |cons p r b=>
    let(n,k):=p;rw[ey]at h;by_cases a:x=n
    · subst a
      dsimp only at h
      split at h
      · rename_i c
        simp at c;exact .inl ?x
      · simp at h
        grind
    · have c:(x ==n)=b1:=by simpa using a
      refine (b ?_).imp (dz _) (dz _);dsimp only at h
      split at h <;> (simp only[kz,c]at h;exact h)
theorem dD.cell{fr:U (b5 b8)}(S:dD X Ae scope fr):∀x∈scope.2,x.2≠.cell:=λx a=>
 eh (dv.mp S.2 x a)
theorem dD.loc{fr:U (b5 b8)}(S:dD X Ae scope fr):∀x∈scope.2,x.2 = .local->scope.names.lookup x.1=O .local:=λx a=>
 eh (dv.mp S.3 x a)
theorem dD.fre{fr:U (b5 b8)}(S:dD X Ae scope fr):∀x,(zzq x fI)∈scope.2->X.env.scope.names.lookup x=O .cell:=λx a=>
 eh (dv.mp S.4 _ a) Y
theorem dD.get{fr:U (b5 b8)}(S:dD X Ae scope fr){i:b8}(h:fr[i]?=O (O j))(a:Ae[i]?=O x):
  X.N[j]?=O x/\scope.names.lookup x=O .free:=by
 have hi:=(bg.mp a).1;have q:=dv.mp S.6 i (el.mpr hi)
 simp_all
theorem Us{fr:U (b5 b8)}{d:fy}(S:dD X Ae scope fr)(I:Inv X g A H s2)(B:∀b∈fp,eU X g H b)(C:∀b∈fp,b<?ss2)(h:∀b o,s2.heap.get? b=O o->d.get? b=O o)(J:d.get? ?ss2=O oD)(D:∀v,oD.3≠.cell v)(E:d.Ns (?ss2+1) m):
  Inv (aY X Ae scope (?ss2+1) fp s2 H) [(zzq ?ss2 oD)] (stC fr A) H { s2 with heap:=d,toks:=t' }:=by
 have d:∀x c,(eW X.env.4 scope.2 []).lookup x=O c->X.env.cells.lookup x=O c:=λx c e=>by
  rcases rB _ _ _ x c e with⟨m,q⟩ |q
  ·let(c',n):=I.ok.has x (.inl (S.fre x m));rw[n]at q ⊢;rw[q];rfl
  ·cases q
 have G:∀b∈r8 X.12,b≠?ss2+1/\b≠?ss2:=λb f=>by
  let(_,o,s,_):=I.stack.mem f;have:=b6 s;exact(cb (eA this),cb this)
 refine((I.ok.1,S.1,I.ok.3,I.ok.4,h0 _,λx y c h1 h2=>I.ok.inj x y c (d x c h1) (d y c h2),λx K=>?_,λx c L=>g5 L,I.ok.9,I.ok.10,.inl Y,λb f=>(?_,λx c e=>?_),
   I.bs,ce I.ok.14 I.sz,λb o e f=>?_,λb f M=>?_,I.stack,I.stkFree),
  rfl,I.3,Un.kept h,(m,E,λi x v h1 h2 P=>?_),λx c e=>?_,I.hok.fresh (h0 _),λx c e=>I.freeC x c (d x c e),λp N=>?_,I.hok.kept h,?_)
 ·refine oy _ _ _ x (.inl ?_);rcases N6 K with q |q
  ·exact q
  ·exact cx Y (S.cell _ q)
 ·have:=C b f;exact cb (eA this)
 ·exact (B b f).2.2.2.2.1 x c (d x c e)
 ·have q:=B b f;rcases q.2.2.2.1 with z |z
  ·exact I.ok.noex b o e z
  ·have:=(I.ok.bs b o e).1;exact cx (c2 (b6 this) z) (fS _)
 ·rcases bG.mp (I.stkSub b M) with z |z
  ·exact (B b f).2.1 z
  ·exact (B b f).2.2.1 z
 ·-- f names of f def f it
  unfold stC at h2;rw[a']at h2;cases e:fr[i]? with
  |none=>rw[e]at h2;cases h2
  |some o=>
   rw[e]at h2;cases o with
   |none=>cases h2
   |some j=>
    have f:(A[j]?).join=O v:=c_ h2;let(a,b):=S.get e h1;have B:A[j]?=O (O v):=by
     cases q:A[j]? with
     |none=>rw[q]at f;cases f
     |some o=>rw[q]at f;cases o with
      |none=>cases f
      |some w=>cases f;rfl
    have f:=fo b;have E:=S.fre x f;let(L,K,C):=I.5;let(u,r,l):=C j x v a B (.inr (.inl E));refine(u,r,.inr (?_,?_))
    ·exact Qx b
    ·rcases l with⟨k,_⟩ |⟨_,c,C,z⟩
     ·have B:X.env.scope.names.lookup x=O .local:=k;rw[E]at B;cases B
     ·let(c',n):=oy X.env.4 scope.2 [] x (.inl f);have:=d x c' n;rw[C]at this;cases this;let(o,s,hd):=z;exact(c,n,o,h c o s,hd)
 ·let(v,o,s,hd):=I.cell x c (d x c e);exact(v,o,h c o s,hd)
 ·have e:p=(zzq ?ss2 oD):=by simpa[aY]using N
  subst e;refine(J,I.hok.fresh (b2 _),?_,λz=>(G _ z).2 Y,D);exact cb (f_ _)
 ·delta stC
  rw[ai];exact S.5
theorem Pg{a:St}{acc:U V}{k:b8}(I:Inv X g A H s2)(h:∀b∈fp,eU X g H b)(d:Inv (aY X Ae scope (?ss2+1) fp s2 H) [(zzq ?ss2 ({ cls:=.type "list",data:=.seq ?aJ k }))] a N s')(s:az acc J)(hz:?lacc<=bT):
  Inv X g A (upd N ?ss2 (.lst acc)) s':=by
 let(j,f,a,m,_):=d.pin (zzq ?ss2 ({ cls:=.type "list",data:=.seq ?aJ k })) (by simp[aY]);have ne:∀b o,s2.heap.get? b=O o->b≠?ss2:=λb o e=>cb (b6 e);have a:∀b o,H b=O o->b≠?ss2:=λb o e=>cb (I.hok.lt e);have Ah:=d.4;have u:Un (r8 X.12) fp H (upd N ?ss2 (.lst acc)) s2.1 s'.1:=
  (Ah.1,Ah.2,λb o e n m=>by rw[af (ne b o e)];exact Ah.free b o e n m,Ah.4,λb B e=>by rw[af (a b _ e)];exact Ah.tups b B e,
   λb o w e=>by rw[af (a b _ e)];exact Ah.frzs b o w e,λb ps e=>by exact (af (a b _ e)) ▸ (Ah.tbls b ps e))
 have m:oH X.1 X.w (upd N ?ss2 (.lst acc)) s'.1:=λb o e=>by
  by_cases a:b=?ss2
  ·subst a;rw[ae]at e;cases e;exact(hz,J,k,s,j)
  ·rw[af a]at e;exact (d.hok b o e).stay (λc w _ q=>q) (λc q=>by exact (af (aC q f)) ▸ q) λc B q=>by rw[af (aC q f)];exact q
 exact I.call' d.2 u m d.3 λb a=>((h b a).2.2.2.1,(h b a).2.1,λx c e=>(h b a).2.2.2.2.1 x c e,λp m=>(h b a).2.2.2.2.2 p m)
def qc(fr:U (b5 b8))(wi:TI)(Ac:TG)(tc:TT)(te:TE):TE:=λA H Q=>wi A H λAg H1=>
  ∃W:b8->b8->U V->Hp->Prop,(∃m,W 0 m [] H1)/\∀i m acc H,W i m acc H->
    (Ag.stop i H/\∀p,H p=bd->Q (.ref p) (upd H p (.lst acc)))\/
    (Ag.go i H/\?lacc<bT/\∀x N,Ag.yld i H x N->Ac x (stC fr A) N λa H2=>Wk (stC fr A) a/\tc a H2 λb c=>
       if b=bm then te a c λy d=>∃a,a<m/\W (i+1) a (acc++[y]) d else ∃a,a<m/\W (i+1) a acc c)
theorem wW{fr:U (b5 b8)}{K:b8->fy->Prop}{W:b8->b8->U V->Hp->Prop}{R:b8}{G:b0->a_->Ρ->b'->Prop}(S:dD X Ae scope fr)(A5:X.15=bm)(A4:PG (aY X Ae scope (?ss2+1) fp s2 H2) tg Ac/\iu (aY X Ae scope (?ss2+1) fp s2 H2) ifs tc/\PE (aY X Ae scope (?ss2+1) fp s2 H2) elt te)(A6:Inv X g A H2 s2)(T:fM X.1 X.w X.K tg Ag fp it K)(B:K 0 s2.1)(P:∀b∈fp,eU X g H2 b)(Z:W 0 R [] H2)(turn:∀i m acc H,W i m acc H->(Ag.stop i H/\Qe acc H)\/
      (Ag.go i H/\?lacc<bT/\∀x N,Ag.yld i H x N->Ac x (stC fr A) N λf H2=>Wk (stC fr A) f/\tc f H2 λb s=>
       if b=bm then te f s λy f=>∃w,w<m/\W (i+1) w (acc++[y]) f else ∃w,w<m/\W (i+1) w acc s))(Q:∀s' acc N m,Inv X g A (upd N ?ss2 (.lst acc)) s'->s'.heap.Ns (?ss2+1) m->N ?ss2=bd->N (?ss2+1)=bd->Qe acc N->G (.ref ?ss2) (?ss2+1) (.ok .next) s')(C:∀x s',u7 ?m X.A X.xe (?ss2+1) x s'->G (.ref ?ss2) (?ss2+1) (.error x) s'):
    dy ?m X.A (newList []) (λacc j=>dy ?m X.A (En scope X.env.3 (eW X.env.4 scope.2 []) [] X.env.5 bd .none (O X.10)) (λf h=>
      lp ?m X.A (.compStart (.ListComp elt [(tg,iter,ifs,(0))] scope pos) 0 (.ref it) acc { f with scope:=relabel scope X.10 }) (G acc f.2) h) on j) on s2:=by
  refine mu (wpAny_newFunctionEnv S.cell (by intro y f;simp at f) (λj h f=>?_) S.1);rw[fN]at h f ⊢;have D:∀b∈fp,b<?ss2:=λb a=>by
    let(o,L,_):=T.obj 0 _ B b a;exact b6 L
  have E:=λb o e=>
    f.extBut b o (cb (eA (b6 e))) (aw _ (aw _ e))
  have I:j.get? ?ss2=O { cls:=.type "list",data:=.seq ([]).toArray 0 }:=
    f.extBut _ _ (cb (f_ _)) (aw _ (b_ _ Y))
  have f:=Us (t':=s2.4+([]:U (c3×b0)).length) S A6 P D E I (λv=>by intro z;cases z) h;have h:=T.keep 0 _ _ B λb _ o e=>E b o e;have B:lp ?m X.A (.compLoop (.ListComp elt [(tg,iter,ifs,(0))] scope pos) 0 (.ref it) (.ref ?ss2) (aY X Ae scope (?ss2+1) fp s2 H2).env)
      (G (.ref ?ss2) (?ss2+1)) { s2 with heap:=j,toks:=s2.4+([]:U (c3×b0)).length }:=by
    refine XM (λn s'=>∃i acc N J k,Inv (aY X Ae scope (?ss2+1) fp s2 H2) [(zzq ?ss2 ({ cls:=.type "list",data:=.seq ?aJ k }))] (stC fr A) N s'/\
      az acc J/\?lacc<=bT/\K i s'.1/\(∀b∈fp,N b=bd)/\W i n acc N)
      (aY X Ae scope (?ss2+1) fp s2 H2).xe (λe s' q=>ew q (λ_ _ q=>C _ _ q) λ_ _ q=>C _ _ q) ?_ R
      ((0),[],H2,[],(0),f,.nil,ej _,h,λb a=>(P b a).1,Z)
    rintro n A7 ⟨i,acc,s,J,k,A8,M,hz,E,G,w3⟩;have I:=λb a=>e8 (D b a);have j:∀{N:Hp}{D:hg},(∀b∈fp,N b=bd)->∀b∈fp,eU (aY X Ae scope (?ss2+1) fp s2 H2) [(zzq ?ss2 D)] N b:=λ{N D} R b a=>
      (R b a,(f.ok.exf b a).1,f.ok.exfs b a,.inl a,(f.ok.exf b a).2,λp C=>by
        have e:p=(zzq ?ss2 D):=by simpa[aY]using C
        subst e;exact I b a)
    let(R,Z,A3):=A4;rcases turn i n acc s w3 with⟨f,AA⟩ |⟨AB,D,step⟩
    · refine ew (T.done (aY X Ae scope (?ss2+1) fp s2 H2) Y Y Y A5 i _ A7 _ s (aY X Ae scope (?ss2+1) fp s2 H2).xe A8 (j G) E f) (λr A9 ⟨D,f⟩=>?_) λ_ _ x=>x
      subst D;let(AC,A4,_):=f.5;exact Q A9 acc s AC (Pg A6 P f M hz) A4 (f.pin (zzq ?ss2 ({ cls:=.type "list",data:=.seq ?aJ k })) (by simp[aY])).2.1 f.7 AA
    · refine ew (T.item (aY X Ae scope (?ss2+1) fp s2 H2) Y Y Y A5 i _ A7 _ s (aY X Ae scope (?ss2+1) fp s2 H2).xe A8 (j G) E AB) (λr A9 ⟨u,D,f⟩=>?_) λ_ _ x=>x
      subst D;refine ew f (λ_ G ⟨x,E,Q,s,P,D,f⟩=>?_) λ_ _ x=>x;refine ew (R _ G _ E x u _ (Q.pinned (j f) (T.obj _ _ D)) s (step x E P)) (λ_ j ⟨f,R,E,P,Q⟩=>?_) λ_ _ x=>x;refine ew (Z _ j f R _ E Q) (λb A5 ⟨A4,Q,R⟩=>?_) λ_ _ x=>x;have j:∀{s:b'}{E:Hp},Inv (aY X Ae scope (?ss2+1) fp s2 H2) ([(zzq ?ss2 ({ cls:=.type "list",data:=.seq ?aJ k }))]++mR fp G.1) f E s->K (i+1) s.1/\∀b∈fp,E b=bd:=λ{s E} G=>by
        refine(T.keep _ _ _ D λb a o e=>(G.pin (zzq b o) (f4 _ (f4 _ (pi a e)))).1,λb a=>?_);let(o,e,d):=T.obj _ _ D b a;exact (G.pin (zzq b o) (f4 _ (f4 _ (pi a e)))).2.1
      cases b with
      |false=>
        rw[du ef]at R ⊢;let(w,Z,D):=R;let(K,A6):=j Q;exact(w,Z,i+1,acc,A4,J,k,(Q.unpinned).weak P.1.symm P.2,M,hz,K,A6,D)
      |true=>
        refine ew (A3 _ A5 f A4 _ Q R) (λy s ⟨A4,E,G,A5,w,Z,A6⟩=>?_) λ_ _ x=>x;let(A7,A8):=j G;let(K,R,A3,Q,D):=G.pin (zzq ?ss2 ({ cls:=.type "list",data:=.seq ?aJ k })) (by simp[aY]);have D:=?lM;refine h_ Gm (_,K,Y) FJ (Fv _ _) (ET ?ss2 ?aJ k y (by rw[b7];simp_all)) (K,?_);have q:=D_ K (·.push y);have A9:(s.heap.update ?ss2 (et (·.push y))).get? ?ss2=O { cls:=.type "list",data:=.seq (J++[y]).toArray (k+1) }:=by
          first
            |simpa using q
        have j:∀b o,b≠?ss2->s.heap.get? b=O o->(s.heap.update ?ss2 (et (·.push y))).get? b=O o:=λb o a e=>
          (e7 s.1 _ (fU a)).trans e
        have D:Inv (aY X Ae scope (?ss2+1) fp s2 H2) [] f E s:=G.pins_of λp C=>cx C (by simp[aY]);have G:=D.turned (t':=s.4) j R A3 (.inr (b2 _)) (λx c e z=>by
          let(v,o,L,hd):=D.cell x c e;simp only[z,K]at L;cases L;cases hd) (λp C=>cx C (by simp[aY]))
        have D:Inv (aY X Ae scope (?ss2+1) fp s2 H2) [(zzq ?ss2 ({ cls:=.type "list",data:=.seq (J++[y]).toArray (k+1) }))] f E _:=G.pins_of λp C=>by
          have e:p=(zzq ?ss2 ({ cls:=.type "list",data:=.seq (J++[y]).toArray (k+1) })):=by simpa[aY]using C
          subst e;exact(A9,R,A3,Q,λv=>by intro z;cases z)
        refine(w,Z,i+1,acc++[A4],E,J++[y],k+1,D.weak P.1.symm P.2,M.append (.cons A5 .nil),by simp only[cc,f'];assumption,?_,A8,A6);exact T.keep _ _ _ A7 λb a o e=>j b o (fU (I b a)) e
  exact codeAny_compStart_list B (T.self _ 0 _ _ _ h B)
theorem dD.clos{fr:U (b5 b8)}(S:dD X Ae scope fr)(I:Inv X g A H s):Hm scope X.10=hl (eW X.env.4 scope.2 []):=
 Uz λx a=>I.ok.has x (.inl (S.fre x a))
theorem wX{a:St}(I:Inv X g a H s2)(c:Inv X g A N s')(a:N (?ss2+1)=bd)(d:gS (?ss2+1) s'.1 h'):Inv X g A N { s' with heap:=h' }:=by
 let(n,f,p,h,j,m):=I.fpOk (N:=N) (h0 _) a;exact c.turned (t':=s'.4) (λb o c e=>(d.2 b c).trans e) a f h j m
def vS(CX:zH)(X:Cx)(Ae:U c3)(scope:oI)(on:XK):Prop:=∀(fp:U a_)(s:b')(H:Hp)(g:U (a_×hg))(A:St),Inv X g A H s->(∀b∈fp,eU X g H b)->
 c8 CX (aY X Ae scope (?ss+1) fp s H) on
theorem NA{on:XK}{fr:U (b5 b8)}(S:dD X Ae scope fr)(d:X.15=bm)(f:vS CX X Ae scope on)(hi:PI X tg iter wi)(j:∀C fp s H,c8 CX (aY X Ae scope C fp s H) on->PG (aY X Ae scope C fp s H) tg Ac/\iu (aY X Ae scope C fp s H) ifs tc/\PE (aY X Ae scope C fp s H) elt te)(b:zzp (∀x,hu iter X.10 x=hl x) zz2):
  PE X (.ListComp elt [(tg,iter,ifs,(0))] scope pos) (qc fr wi Ac tc te):=by
 intro g s A H Q I h;refine EK Y b (S.clos I) S.1 S.loc (gv (hi g s A H _ I h) λv s1 h1=>gv h1 λb s2 h2=>?_);let(it,fp,p,Ag,H2,e,a,T,b,c,W,(u,n),turn):=h2;subst e;refine wW S d (j _ _ _ _ (f fp s2 H2 g A a c)) a T b c n turn ?_ λx s' q=>q;intro s' acc N m c d f j q;refine(m,d,λh' b=>(.ref ?ss2,_,wX a c ?_ b,Y,q _ f));exact (af (e8 (f_ _))) ▸ j
theorem Ox{fr:U (b5 b8)}(S:dD X Ae scope fr)(a:X.15=bm)(hi:PI X tg iter wi)(b:∀C fp s H,PG (aY X Ae scope C fp s H) tg Ac/\iu (aY X Ae scope C fp s H) ifs tc/\PE (aY X Ae scope C fp s H) elt te)(c:zzp (∀x,hu iter X.10 x=hl x) zz2):
  PE X (.ListComp elt [(tg,iter,ifs,(0))] scope pos) (qc fr wi Ac tc te):=
 NA (CX:=λ_ _ _ _ _ _=>fP) (on:=λ_ _ _=>fP) S a (λ_ _ _ _ _ _ _ _ _ _ _ _ _ _ q=>q.elim) hi (λC fp s H _=>b C fp s H) c
theorem Xn{on:XK}{i:b8}{y:c3}{fr:U (b5 b8)}(j:X.N.Nodup)(b:X.N[i]?=O y)(n:Loc X.env.1 y)(S:dD X Ae scope fr)(p:X.15=bm)(u:vS CX X Ae scope on)(hi:PI X tg iter wi)(w:∀C fp s H,c8 CX (aY X Ae scope C fp s H) on->PG (aY X Ae scope C fp s H) tg Ac/\iu (aY X Ae scope C fp s H) ifs tc/\PE (aY X Ae scope C fp s H) elt te)(c:zzp (mX (.ListComp elt [(tg,iter,ifs,(0))] scope pos) (O (.Name y py)) spos.1 X.10=hl bm) zz0)(z:zzp (X.fn y=bm\/X.env.scope.names.lookup y=O .local) zz3)(d:zzp (∀x,hu iter X.10 x=hl x) zz2):
  PS X (.Assign [.Name y py] (.ListComp elt [(tg,iter,ifs,(0))] scope pos) spos) (jR (qc fr wi Ac tc te) (eF i)):=by
 intro g s A H D I h;rw[exec_Assign_Name_used _ _ _ _ c];refine al (EF (al ?_));refine al (ew (EK Y d (S.clos I) S.1 S.loc
  (gv (hi g s A H _ I h) λv s1 h1=>gv h1 λd s2 h2=>?_)) (λ_ s' d=>b4 (b4 d)) λ_ _ e=>e)
 let(it,fp,E,Ag,H2,e,c,T,d,f,W,(G,B),turn):=h2;subst e;refine wW S p (w _ _ _ _ (u fp s2 H2 g A c f)) c T d f B turn ?_ λx s' q=>q;intro s' acc N m d p u w q;refine H9 (LK (v:=.ref ?ss2) d j b n Y (λd f b=>?_) z);let(a,b,d):=b;have j:?ss2+1≠a:=by
  rcases d with d |d
  ·rw[d];exact e8 (eA c.lt)
  ·let(v,o,n,_):=c.cell y a d;exact e8 (eA (b6 n))
 refine(m,p.sameBut b j,λh' d=>(_,_,wX c f ?_ d,q _ u));exact (af (e8 (f_ _))) ▸ w
theorem Na{i:b8}{y:c3}{fr:U (b5 b8)}(c:X.N.Nodup)(a:X.N[i]?=O y)(d:Loc X.env.1 y)(S:dD X Ae scope fr)(e:X.15=bm)(hi:PI X tg iter wi)(f:∀C fp s H,PG (aY X Ae scope C fp s H) tg Ac/\iu (aY X Ae scope C fp s H) ifs tc/\PE (aY X Ae scope C fp s H) elt te)(b:zzp (mX (.ListComp elt [(tg,iter,ifs,(0))] scope pos) (O (.Name y py)) spos.1 X.10=hl bm) zz0)(g:zzp (X.fn y=bm\/X.env.scope.names.lookup y=O .local) zz3)(h:zzp (∀x,hu iter X.10 x=hl x) zz2):
  PS X (.Assign [.Name y py] (.ListComp elt [(tg,iter,ifs,(0))] scope pos) spos) (jR (qc fr wi Ac tc te) (eF i)):=
 Xn (CX:=λ_ _ _ _ _ _=>fP) (on:=λ_ _ _=>fP) c a d S e (λ_ _ _ _ _ _ _ _ _ _ _ _ _ _ q=>q.elim) hi (λC fp s H _=>f C fp s H) b g h
def tu(Ab:f0)(w:gl):zH:=λouter H s on e s'=>
 ∃(a:a_)(cls c:b0)(N:Hp)(Ah:fy),e = .ref a/\s'.5=s.5/\qW s'.2/\Heap.FlyingW Ah outer a cls c s'.1/\N a=bd/\
  Un (r8 outer) [] H N s.1 s'.1/\oH Ab w N Ah/\(∀b o,s.heap.get? b=O o->b∉r8 outer->∃c,Ah.get? b=O c/\(H b=bd->c=o))/\on cls bd N
theorem bo.there{o:HO}(x:bo Ab w H h a o):∃b,h.get? a=O b:=by
 cases o with
 |lst B=>let(_,_,_,_,e):=x;exact(_,e)
 |tup B=>let(_,_,_,o,e,_):=x;exact(o,e)
 |dK E=>let(_,_,_,_,o,_,_,e,_):=x;exact(o,e)
 |dT E=>let(_,_,_,_,o,_,_,e,_):=x;exact(o,e)
 |set S n=>let(o,_,_,_,e,_):=x;exact(o,e)
 |ins C dx fs=>let(_,_,_,e,_):=x;exact(_,e)
 |own y=>exact x
 |xd fs=>let(_,(o,_,_,e,_),_):=x;exact(o,e)
 |rng lo hi=>let(_,_,_,e):=x;exact(_,e)
 |frz b u=>let(e,_):=x;exact(_,e)
 |tbl ps=>exact(_,x)
 |met f y=>exact(_,x)
 |ext b=>let(_,e,_):=x;exact e
theorem Un.fly{fs:U a_}{Ah:fy}(u:Un fs [] H N h h1)(m:Ah.StaysIn h2)(p:h1.UpToSlots h2)(rd:∀b o,h.get? b=O o->b∉fs->∃a,Ah.get? b=O a/\(H b=bd->a=o))(s:∀b∈fs,∃o,h1.get? b=O o/\∀vs,o.3≠.fields vs):Un fs [] H N h h2 where
 keep:=λb o e n c _=>by
  let(a,f,q):=rd b o e c;exact (q n) ▸ (m b a f)
 slot:=λb o e n c v=>by
  let(sl,e1):=u.slot b o e n c v;let(w,d,g):=s b c;rw[e1]at d;cases d;let(d,j):=p b _ e1 g;exact(d,j)
 free:=u.3
 there:=λb o e v=>by
  by_cases c:b∈fs
  ·let(w,e1,g):=s b c;let(d,j):=p b _ e1 g;exact(_,j)
  ·let(a,f,_):=rd b o e c;exact(a,m b a f)
 tups:=u.5
 frzs:=u.6
 tbls:=u.7
def vT(X:Cx)(on:XK):Prop:=∀(g:U (a_×hg))(A:St)(H:Hp)(s:b')(h':fy)(e:a_)(cls:b0)(a:U b0),
 Inv X g A H s->Heap.MadeExcOf s.1 h' e cls a->on cls bd H->X.xe (.ref e) { s with heap:=h' }
section
variable{f:a_}{E:XK}
theorem cY:vT (c6 (tu Ab w) Ab w K mg base Ae L scope f cd Aa outer s H E) E:=by
 intro g A H1 s1 h' e cls h I m v;have h:∀env∈(c6 (tu Ab w) Ab w K mg base Ae L scope f cd Aa outer s H E).stack,∀b,env.8=O b->b∈r8 (c6 (tu Ab w) Ab w K mg base Ae L scope f cd Aa outer s H E).stack:=
  λenv d b a=>n3.mpr (env,d,a)
 have d:∀b o,H1 b=O o->b∉r8 (c6 (tu Ab w) Ab w K mg base Ae L scope f cd Aa outer s H E).stack:=λb o e a=>by
  rw[I.stkFree b a]at e;cases e
 have get:∀b o,s1.heap.get? b=O o->b∉r8 (c6 (tu Ab w) Ab w K mg base Ae L scope f cd Aa outer s H E).stack->(G' s1.1 (r8 (c6 (tu Ab w) Ab w K mg base Ae L scope f cd Aa outer s H E).stack)).get? b=O o:=
  λb o e a=>I4 _ e a
 refine wpAny_leaves_madeW I.ok.10 Y (λb o q=>Jr _ q) (W.funFrames_hide I.stack h) m λh2 t p h j x=>?_;have h:∀b o,s.heap.get? b=O o->b∉r8 outer->b∉r8 (c6 (tu Ab w) Ab w K mg base Ae L scope f cd Aa outer s H E).stack:=λb o e a j=>by
  rcases bG.mp (I.stkSub b j) with z |z
  ·have:=b6 e;exact cx (c2 this I.ok.5) ?x
  ·exact a z
 have Ah:=I.4;have rd:∀b o,s.heap.get? b=O o->b∉r8 outer->∃j,(G' s1.1 (r8 (c6 (tu Ab w) Ab w K mg base Ae L scope f cd Aa outer s H E).stack)).get? b=O j/\(H b=bd->j=o):=λb o e a=>by
  let(j,e1):=Ah.there b o e (by intro z;exact cx (show b∈([]) from z) ?s);refine(j,get b j e1 (h b o e a),λn=>?_);have:=Ah.keep b o e n a (by intro z;exact cx (show b∈([]) from z) ?s)
  grind
 refine(e,cls,.ref t,H1,1,I.2,I.3,p,?_,?_,?_,rd,v)
 ·cases q:H1 e with
  |none=>rfl
  |some o=>
   let(h,e1):=(I.hok e o q).there;have:=m.2
   grind
 ·refine Un.fly Ah p.1 ((HD m.1).trans x) rd λb a=>?_;let(_,o,h,j):=I.funs.mem a;exact(o,h,j)
 ·exact λb o e1=>(I.hok b o e1).stay (λc u h q=>get c u q (by
   rcases h with z |z
   ·exact z ▸ (d b o e1)
   ·exact d c _ z)) (λ_ q=>q) λ_ _ q=>q
theorem bF:c8 (tu Ab w) (c6 (tu Ab w) Ab w K mg base Ae L scope f cd Aa outer s H E) E:=by
 rintro g A H1 s1 e s' I ⟨a,cls,p,N,Ah,rfl,os,c,h,v,u,j,rd,x⟩;refine Ik I.ok.10 Y h λh2 m d=>?_;have y:=u.fly m.1 d rd λb d=>by
  let(_,o,B,C):=h.2.2.1.mem d;exact(o,B,C)
 have h:=I.call' (s':={ s' with heap:=h2 }) os y (j.kept m.1) c λb d=>cx d ?s;refine(a,cls,p,N,Ah,Y,h.2,c,m,v,h.4,j,λb o e d=>?_,x);have c:b∉r8 (c6 (tu Ab w) Ab w K mg base Ae L scope f cd Aa outer s H E).stack:=λh=>by
  rcases bG.mp (I.stkSub b h) with z |z
  ·have:=b6 e;exact cx (c2 this I.ok.5) ?x
  ·exact d z
 let(h,e1):=I.base.there b o e (by intro z;exact cx (show b∈([]) from z) ?s);let(j,m,q):=rd b h e1 c;refine(j,m,λn=>?_);have k:=I.base.keep b o e n d (by intro z;exact cx (show b∈([]) from z) ?s);rw[e1]at k;rw[q (I.base.free b o e n (by intro z;exact cx (show b∈([]) from z) ?s))];exact c_ k
end
structure gj(K:bI)(C:a_):Prop where
 ex:W.excIn K C [.type "ValueError", .type "Exception", .type "BaseException", .type "object"] "ValueError.__new__" =bm
theorem V7{o:b5 hg}{f:b5 a_->ClassData->fK (b5 b0)->eg}(q:EW (λ_=>eg) o f (λ_=>b1)=bm):∃b cd sl,o=O (.type "type",b,.cls cd,sl)/\f b cd sl=bm:=by
 rcases o with _ |⟨cls,b,a,sl⟩
 ·simp_all
 have e1:∃c,cls = .type c:=by cases cls <;> first |exact⟨_,Y⟩ |exact g5 q
 let(c,Y):=e1;have d:c = "type" :=by
  by_cases z:c = "type"
  ·exact z
  ·delta EW ό._sparseCasesOn_4 W.excIn._sparseCasesOn_6 at q
   dsimp only at q
   simp_all
 subst d;have c:∃cd,a = .cls cd:=by cases a <;> first |exact⟨_,Y⟩ |exact g5 q
 let(cd,Y):=c;exact(b,cd,sl,Y,q)
inductive RK(a:U b0)(l:U (b5 b0))(Ac:a_->U b0->b5 b0->b5 b0->b5 b0->b5 b0->gV->b5 b0->eg):Prop
 |i(b c d e f g n h:_)(_:a = .ref b :: c)(_:l=[d,e,f,g,O (.builtin n),h])(_:Ac b c d e f g n h=bm)
theorem NS{a:U b0}{l:U (b5 b0)}{Ac:a_->U b0->b5 b0->b5 b0->b5 b0->b5 b0->gV->b5 b0->eg}(q:ύ (λ_ _=>eg) a l Ac (λ_ _=>b1)=bm):RK a l Ac:=by
 have d:∃c b,a = .ref c :: b:=by
  rcases a with _ |⟨m,b⟩
  ·exact g5 q
  ·cases m <;> first |exact(_,1) |exact g5 q
 let(c,b,Y):=d;rcases l with _ |⟨a,_ |⟨d,_ |⟨e,_ |⟨f,_ |⟨v,r⟩⟩⟩⟩⟩
 iterate 5 exact g5 q
 have g:∃n,v=O (.builtin n):=by
  rcases v with _ |v
  ·exact g5 q
  ·cases v <;> first |exact⟨_,Y⟩ |exact g5 q
 let(n,Y):=g;rcases r with _ |⟨g,_ |⟨_,_⟩⟩
 ·simp_all
 ·exact(c,b,a,d,e,f,n,g,Y,Y,q)
 ·exact g5 q
inductive qy(h:fy)(C:a_):Prop
 |i(b Ae nm q bs a d sub e col f g j m n p c:_)(_:h.get? C=O (MQ nm q C Ae bs b a d sub e col f g j m n p "ValueError.__new__"))(_:h.Ns Ae c)(_:c "__init__" =bd)(_:OwnTail h [.type "ValueError", .type "Exception", .type "BaseException", .type "object"] b)
theorem qy.mk(X:K.In h){c Ae nm q bs a e sub f col g j m n p s}(u:K.lookup C=O (MQ nm q C Ae bs c a e sub f col g j m n p s "ValueError.__new__"))(v:W.tailIn K [.type "ValueError", .type "Exception", .type "BaseException", .type "object"] c=bm)(b:ό K Ae=bm)(d:lw K Ae "__init__" =O bd):qy h C:=
 (c,Ae,nm,q,bs,a,e,sub,f,col,g,j,m,n,p,s,_,X _ _ u,.of_isNs (W.isNs_of_in X b),W.nsMap_none_of_in X b d,W.tail_of_in X v)
theorem gj.obj(c:gj K C)(X:K.In h):qy h C:=by
 obtain⟨b,⟨nm,bs,a,ns,e,hd,f,sub,g,col,del⟩,⟨l⟩,d,q⟩:=V7 c.1;let(a,b,e,f,g,j,n,m,Y,Y,q):=NS q;simp only[eB,q_,Fw]at q;let(((((Y,Y),Y),e),a),b):=q;exact .mk X d e a b
def Pw(on:XK)(C:a_)(t:TA):TS:=λ_ A H=>t A H λvs H1=>?lvs<=bT/\on (.ref C) bd H1
theorem cU{on:XK}{a:f3}{t:TA}(T:vT X on)(c:gj X.K C)(j:X.15=bm)(m:Gl X x)(n:X.mg x=O (.ref C))(p:PA X (a::es) t)(b:zzp ((x ==("__debug__" : c3))=b1) zz1)(f:zzp (cH (a::es) X.10=(zzq b1 (eval a X.10))::cH es X.10) zz0)(d:zzp ((gx cpos (cH es X.10)).any (·.1)=b1) zz0):
  PS X (.Raise (O (.Call (.Name x np) (a::es) [] cpos)) bd pos) (Pw on C t):=by
 intro g s A H D I h;let(z,u,nm,q,bs,hdct,sn,sub,ab,col,dd,k0,k1,k2,k3,k5,B,v,w,a,TL):=c.obj I.ok.mod.1;refine wpAny_Raise_call_subT (nm:=nm) (q:=q) (N:=u) (bs:=bs) (hdct:=hdct) (sn:=sn) (sub:=sub) (ab:=ab) (col:=col) (dd:=dd) (k0:=k0) (k1:=k1) (k2:=k2) (k3:=k3) (k5:=k5)
  F.excBase_ValueError (TL.hasType Y) (I.ok.hd j) (by rw[f];show (b1 || (gx cpos (cH es X.10)).any (·.1))=b1;rw[d];rfl) a (gC I m n (Y,?_) b)
 have a:=p cpos g s A H _ I h;rw[f]at a ⊢;refine qE (ew a (λus s2 ⟨vs,H2,a,b,d,f⟩=>(Y,by exact ?lb ▸ d,a.bk _ _ v,w.keeps a.bk,TL.keeps a.bk,λh' e j=>?_)) λ_ _ y=>y);exact T g A H2 s2 h' e _ _ a j f
def gq(a:a_)(cls:b0):HO:=.ext λh=>∃o vs,h.get? a=O o/\o.1=cls/\o.3 = .fields vs
theorem QJ{o:hg}{vs:fK b0}(e:h.get? a=O o)(d:o.1=cls)(hd:o.3 = .fields vs):bo Ab w H h a (gq a cls):=
 ((o,vs,e,d,hd),(o,e),by rintro h1 h2 ⟨c,b,f,c',d'⟩ k;exact(c,b,k c f,c',d'))
theorem Inv.track{o:HO}(I:Inv X g A H s)(f:H a=bd)(f:X.s₀.heap.get? a=bd)(w:a≠X.env.2)(y:∀x c,X.env.cells.lookup x=O c->c≠a)(C:∀p∈X.pn++g,p.1≠a)(new:bo X.1 X.w (upd H a o) s.1 a o):Inv X g A (upd H a o) s:=by
 have j:∀b f,X.s₀.heap.get? b=O f->b≠a:=λb f e z=>by grind
 have d:∀b u,H b=O u->b≠a:=λb u e z=>by grind
 refine(I.1,I.2,I.3,(I.base.1,I.base.2,λb f e n D=>by rw[af (j b f e)];exact I.base.free b f e n D,I.base.4,λb B e=>?_,λb f u e=>?_,λb ps e=>?_),
  I.5,I.6,by rw[af (fU w)];exact I.7,λx c e=>by rw[af (y x c e)];exact I.freeC x c e,λp h=>?_,λb u e=>?_,I.11)
 ·have q:=I.base.tups b B e;exact (af (d b _ q)) ▸ q
 ·have q:=I.base.frzs b f u e;exact (af (d b _ q)) ▸ q
 ·let(m,q):=I.base.tbls b ps e;exact(m,by exact (af (d b _ q)) ▸ q)
 ·let(f,j,w):=I.pin p h;exact(f,by rw[af (C p h)];exact j,w)
 ·by_cases f:b=a
  ·subst f;rw[ae]at e;grind
  ·rw[af f]at e;exact (I.hok b u e).stay (λc v _ q=>q) (λc q=>by exact (af (d c _ q)) ▸ q) λc B q=>by exact (af (d c _ q)) ▸ q
theorem Inv.trackN{o:HO}(I:Inv X g A H s)(b:?ss<=a)(f:Inv X g A H s1)(new:bo X.1 X.w (upd H a o) s1.1 a o):Inv X g A (upd H a o) s1:=by
 have l:∀{c:a_}{d:hg},s.heap.get? c=O d->c≠a:=λe=>cb (c2 (b6 e) b);refine f.track (I.hok.fresh b) (kl (ce I.sz b)) (λe=>cx (c2 I.lt b) (e ▸ fS _)) (λn c e q=>?_) (λp b=>l (I.pin p b).1) new;let(v,d,b,_):=I.cell n c e;exact l b q
theorem Inv.locals{h:c3->b5 b0}{a:St}(I:Inv X g A H s)(d:gS X.env.2 s.1 h')(w:h'.Ns X.env.2 h)(x:?la=?lA)(B:∀(j:b8)(y:c3)(v:V),X.N[j]?=O y->a[j]?=O (O v)->I2 X.env.1 y->∃u,aB v u/\vP X.10 h' h y u):Inv X g a H { s with heap:=h',toks:=t' }:=by
 have a:∀b o,X.s₀.heap.get? b=O o->b≠X.env.2:=λb o e=>cb (c2 (b6 e) I.ok.5);refine(I.1,I.2,I.3,(λb o e n m f=>(d.2 b (a b o e)).trans (I.base.keep b o e n m f),λb o e n m f=>?_,I.base.3,λb o e f=>?_,I.base.5,I.base.6,I.base.7),
  (h,w,B),λy c e=>?_,I.7,I.8,λp C=>?_,λb u e=>?_,x.trans I.11)
 ·let(sl,q):=I.base.slot b o e n m f;exact(sl,(d.2 b (a b o e)).trans q)
 ·let(h,q):=I.base.there b o e f;exact(h,(d.2 b (a b o e)).trans q)
 ·let(v,z):=I.cell y c e;exact(v,z.sameBut d (I.cne y c e))
 ·let(h,f,a,m):=I.pin p C;exact((d.2 p.1 a).trans h,f,a,m)
 ·refine (I.hok b u e).stay (λc v a q=>(d.2 c ?_).trans q) (λ_ q=>q) λ_ _ q=>q;rintro rfl;rcases a with z |z
  ·rw[<-z,I.7]at e;cases e
  ·rw[I.7]at z;cases z
theorem yA{i:b8}{n:c3}{Q:Gc->b'->Prop}(I:Inv X g A H s)(p:X.N.Nodup)(hi:X.N[i]?=O n)(b:X.env.scope.names.lookup n=O .local)(h:∀s',Inv X g (A.set i bd) H s'->Q () s'):dy M Aa (do bindName X.10 n .none;unbindBehindTheSuite X.10 n pos) Q on s:=by
 refine al (wpAny_bindName (nh (v:=.non) I p hi (.inl b) Y (λs1 d=>?_) (.inr b)));have a:i<?lA:=by rw[I.11];exact (bg.mp hi).1
 refine qu ?_;let(m,x,w):=d.5;have f:∃u,m n=O u:=by
  let(u,_,q):=w i n .non hi (by rw[pF a]) (.inl b);rcases q with⟨_,q⟩ |⟨k,_⟩
  ·exact(u,q)
  ·have k:X.env.scope.names.lookup n=O .cell\/X.env.scope.names.lookup n=O .free:=k
   simp_all
 let(u,f):=f;refine wpAny_unbindName_local b x f (by rw[I.ok.2];rfl) λh' f b a=>h _ (d.locals (t':=s1.4) a b ?s λj y v e1 f x=>?_);have b:j≠i:=λz=>by
  simp_all
 rw[m1 (fU b)]at f;let(B,C,q):=w j y v e1 (by rw[m1 (fU b)];exact f) x;refine(B,C,?_);rcases q with⟨k,e⟩ |⟨k,c,e,z⟩
 ·refine .inl (k,?_);have:y≠n:=λe=>b (eY p e1 (e ▸ hi))
  grind
 ·exact .inr (k,c,e,z.sameBut a (d.cne y c e))
noncomputable def iZ(X:Cx)(pn:U (a_×hg))(a:b0->b'->Prop):Cx:={ X with pn:=pn,xe:=a }
noncomputable def iY(X:Cx)(a:a_):Cx:={ X with A:=X.A.mark (O (.ref a)),calm:=b1,xe:=λ_ _=>fP }
section
variable{d:b0->b'->Prop}
theorem Cx.Ok.toTry(ok:X.Ok):(iZ X pn d).Ok:=
 (ok.1,ok.2,ok.3,ok.4,ok.5,ok.6,ok.7,ok.8,ok.9,ok.10,ok.11,ok.12,ok.bs,ok.14,ok.15,ok.16,ok.17,ok.18)
theorem Cx.Ok.ofTry(ok:(iZ X pn d).Ok):X.Ok:=
 (ok.1,ok.2,ok.3,ok.4,ok.5,ok.6,ok.7,ok.8,ok.9,ok.10,ok.11,ok.12,ok.bs,ok.14,ok.15,ok.16,ok.17,ok.18)
theorem Inv.toTry(I:Inv X g A H s):Inv (iZ X (X.pn++g) d) [] A H s:=
 (I.ok.toTry,I.2,I.3,I.4,I.5,I.6,I.7,I.8,λp a=>I.pin p (by simpa[iZ]using a),I.10,I.11)
theorem Inv.ofTry(I:Inv (iZ X (X.pn++g) d) pins' A H s):Inv X g A H s:=
 (I.ok.ofTry,I.2,I.3,I.4,I.5,I.6,I.7,I.8,λp a=>I.pin p (hh _ a),I.10,I.11)
theorem Cx.Ok.toSuite(ok:X.Ok):(iY X a).Ok:=
 (ok.1,ok.2,ok.3,ok.4,ok.5,ok.6,ok.7,ok.8,λz=>g5 z,ok.10,ok.11,ok.12,ok.bs,ok.14,ok.15,ok.16,ok.17,ok.18)
theorem Cx.Ok.ofSuite(hd:X.15=bm->X.A.1=bd)(ok:(iY X a).Ok):X.Ok:=
 (ok.1,ok.2,ok.3,ok.4,ok.5,ok.6,ok.7,ok.8,hd,ok.10,ok.11,ok.12,ok.bs,ok.14,ok.15,ok.16,ok.17,ok.18)
theorem Inv.toSuite(I:Inv X g A H s):Inv (iY X a) g A H s:=
 (I.ok.toSuite,I.2,I.3,I.4,I.5,I.6,I.7,I.8,I.9,I.10,I.11)
theorem Inv.ofSuite(hd:X.15=bm->X.A.1=bd)(I:Inv (iY X a) g A H s):Inv X g A H s:=
 (I.ok.ofSuite hd,I.2,I.3,I.4,I.5,I.6,I.7,I.8,I.9,I.10,I.11)
def VL(K:bI)(R:a_)(c i:b8)(tb:XK->TS)(ts:TS):TS:=λD A H=>
 tb (λcls _ N=>Fx K cls (.ref R)=O bm/\∀a,N a=bd->
  ts { nx:=λb H2=>D.nx (b.set i bd) H2,rt:=D.2 } ((er c bd).set i (O (.ref a))) (upd N a (gq a cls))) D A H
theorem Ni{R:a_}{n:c3}{C:FF}{K:eo}{w:U eo}{i:b8}{tb:XK->TS}{ts:TS}(L:X.12=X.10::X.11)(T:X.env.8=O X.env.2)(hex:X.ex=[])(Z:X.N.Nodup)(hi:X.N[i]?=O n)(Q:X.env.scope.names.lookup n=O .local)(AC:Gl X x)(AD:X.mg x=O (.ref R))(AE:∀pn d on,c8 (tu X.1 X.w) (iZ X pn d) on->t2 (iZ X pn d) body (tb on))(AF:∀a,t2 (iY X a) (K::w) ts)(A3:zzp ((x ==("__debug__" : c3))=b1) zz1):
  PS X (.Try body [.ExceptHandler (O (.Name x np)) (O n) (K::w) C] [] [] pos) (VL X.K R ?lX.N i tb ts):=by
 intro g s A H D I h;refine wpAny_Try_except ?_;have B:X.A.3=O (X.10::X.11):=L ▸ I.ok.10;have M:c8 (tu X.1 X.w) (iZ X (X.pn++g) (λe E=>dy ?m X.A (noteFrame e X.10) (λ_ G=>dy ?m X.A (Il e bd) (λ_ J=>
   dy ?m X.A (handleBy e X.10 [.ExceptHandler (O (.Name x np)) (O n) (K::w) C]) (SP X g D) X.xe J) X.xe G) X.xe E))
   (λcls _ N=>Fx X.K cls (.ref R)=O bm/\∀a,N a=bd->
    ts { nx:=λw H2=>D.nx (w.set i bd) H2,rt:=D.2 } ((er ?lX.N bd).set i (O (.ref a))) (upd N a (gq a cls))):=by
  rintro pins' A4 H1 s1 e s' C ⟨a,cls,G,N,Ah,rfl,os,E,w,A8,u,P,rd,A5,A6⟩;have K:=C.ofTry;have G:∀b∈r8 X.12,∃o,s'.heap.get? b=O o/\∀vs,o.3≠.fields vs:=λb C=>by
   let(_,o,J,S):=w.2.2.1.mem C;exact(o,J,S)
  have J0:s1.heap.get? a=bd:=by
   cases q:s1.heap.get? a with
   |none=>rfl
   |some o=>
    by_cases C:a∈r8 X.12
    ·let(A9,A7,S):=G a C;let(AG,vs,_,_,_,AA,_,hd,_):=w.2.2.2;rw[A7]at AA;cases AA;exact cx hd (S vs)
    ·let(A9,S,_):=rd a o q C;have:=w.2.1;rw[S]at this;cases this
  refine wpAny_looks_onW B T (L ▸ w) λT w C=>?_;refine wpAny_landsW w λAA w B=>?_;have AB:=K.call' (s':={ s' with heap:=AA }) os (u.fly w.1 (C.trans B) rd G) (P.kept w.1) E λb z=>cx z ?s;let(A7,T,L):=w.there;have A7:Inv (iY X a) g A4 N { s' with heap:=AA }:=AB.toSuite;refine wpAny_handleBy_cons (codeAny_handlers_test (gC A7 AC AD ?_ A3)) (by intro q;cases q);refine (W.exm_one AB.kIn (L ▸ (Hn T).andThen .now) A5).here ?_;refine codeAny_handlers_suite_as ?_;refine lands_againW w λL w T=>?_;have A3:=K.call' (s':={ s' with heap:=L }) os (u.fly w.1 ((C.trans B).trans T) rd G) (P.kept w.1) E λb z=>cx z ?s;have C:Inv X g (er ?lX.N bd) N { s' with heap:=L }:=A3.weak (by simp only[j3,A3.11]) λj v e=>by
   rw[pa]at e
   split at e <;> cases e
  let(AG,vs,_,_,_,T,(B,_),E,_):=w.2.2.2;have G:Inv X g (er ?lX.N bd) (upd N a (gq a cls)) { s' with heap:=L }:=by
   refine C.track A8 ?_ ?_ (λy c e z=>?_) (λp w z=>?_) (QJ T B E)
   ·cases q:X.s₀.heap.get? a with
    |none=>rfl
    |some o=>
     let(A9,S):=K.base.there a o q (by rw[hex];simp);rw[J0]at S;cases S
   ·rintro rfl;let(m,(o,_,_,J,_),_):=K.5;rw[J0]at J;cases J
   ·let(v,o,J,_):=K.cell y c e;rw[z,J0]at J;cases J
   ·have:=(K.pin p w).1;rw[z,J0]at this;cases this
  have w:Inv (iY X a) g (er ?lX.N bd) (upd N a (gq a cls)) { s' with heap:=L }:=G.toSuite;refine nh (X:=iY X a) (v:=.ref a) w Z hi (.inl Q) Y (λw C=>?_) (.inr Q);refine ew (AF a g w _ _ _ C (A6 a A8)) (λf w C=>?_) (λ_ _ z=>z.elim);cases f with
  |next=>
   let(T,G,B,q):=C;exact yA (B.ofSuite I.ok.9) Z hi Q λE w=>(_,_,w,q)
  |ret v=>
   let(J,T,G,B,L,q):=C;exact yA (B.ofSuite I.ok.9) Z hi Q λE w=>(_,_,_,w,L,q)
  |brk=>
   let(_,_,_,q):=C;exact fb q
  |cont=>
   let(_,_,_,q):=C;exact fb q
 refine ew (AE _ _ _ M [] s A H D I.toTry h) (λf s1 q=>?_) λe s1 q=>q;cases f with
 |next=>
  let(w,H1,C,q):=q;exact nD (w,H1,C.ofTry,q)
 |ret v=>
  let(T,w,H1,C,L,q):=q;exact(T,w,H1,C.ofTry,L,q)
 |brk=>
  let(w,H1,C,q):=q;exact(w,H1,C.ofTry,q)
 |cont=>
  let(w,H1,C,q):=q;exact(w,H1,C.ofTry,q)
end
structure iS(K:bI)(C:a_):Prop where
 cl:(J1 K C).isSome=bm
 ga:hM K (.ref C) "__getattribute__" =O (O (.builtin "BaseException.__getattribute__"))
 gn:hM K (.ref C) "__getattr__" =O bd
 ca:hM K (.ref C) "__class__" =O (O (.builtin "object.__class__"))
 cg:v2 K (.builtin "object.__class__") "__get__" =O (O (.builtin "getset_descriptor.__get__"))
 ck:E2 K (.builtin "object.__class__")=O bm
 cm:EG K C (.type "object")=O bm
 sb:W.subIn K (.ref C) (.type "BaseException")=O bm
inductive nH(x C:a_)(h:fy):Prop
 |i(o vs:_)(_:h.get? x=O o)(_:o.1 = .ref C)(_:o.3 = .fields vs)
theorem nH.ty{x:a_}(p:nH x C h):J2 M h (Fu (.ref x)) (.ref C):=by
 let(o,vs,e,a,_):=p;exact a ▸ (Hn e).andThen .now
section
open Builtin Builtin.ObjectAttr Builtin.Getset_descriptor
variable{x:a_}
theorem Nr{Q:b5 b0->b'->Prop}(k:iS K C)(X:K.In s.1)(I:nH x C s.1)(h:Q (O (.ref C)) { s with toks:=s.4+1 }):
  dy (ds prog w) Aa (va (.ref x) "__class__") Q on s:=by
 let(c,Ac,d,t,os):=s;have b:=I.ty (M:=ds prog w);have a:=rx (M:=ds prog w) X k.2;have e:=W.looks_subIn (M:=ds prog w) X k.8;have f:=W.looks_mroIn (M:=ds prog w) X k.7;refine al (wpAny_mkText (al (l7 (e6 (al (b.at (al (a.at ?_))))))));dsimp only;refine al ?_;refine (rx (M:=ds prog w) X k.3).at ?_;refine al (l7 (e6 ?_));dsimp only;refine na (sq F.attrBase_ValueError.ga.4 F.entry_bexc_ga ?_);have a:Go "BaseException.__getattribute__" =O .slot:=?k
 have a:splitId "BaseException.__getattribute__" =O (zzq ("BaseException") ("__getattribute__")):=?k
 refine al ?_
 delta ώ
 refine al (b.at (e.at ?_));refine sr (F.args_bexc_ga (.ref x) (.str "__class__" t)) ?_;have a:J2 (ds prog w) c (FM (.ref x) (.ref C) "__class__") (.bind (.builtin "getset_descriptor.__get__") (.builtin "object.__class__")):=
  (rx (M:=ds prog w) X k.4).andThen ((W.looks_specialIn (M:=ds prog w) X k.5).andThen ((show J2 (ds prog w) c (FN (O (.builtin "object.__class__")) (O (.builtin "getset_descriptor.__get__"))) (O (zzq (.builtin "getset_descriptor.__get__") (.builtin "object.__class__"))) from (W.looks_takesIn (M:=ds prog w) X k.6).andThen .now).andThen (Ϗ .now)))
 refine al (sr Y ?_);dsimp only;refine al (sr Y ?_);refine al (b.at (al (a.at ?_)));dsimp only;refine al (e6 (na ?_));refine sq HE.4 W.KF.entry_gs
  (HE.check _ _ _ _ _ _ _ _ W.KF.type_class (W.KF.args_gs _ _ _) ?_)
 unfold hX.«getset_descriptor.__get__» descrGet;rw[W.dga_obj];refine al (b4 ?_)
 delta descrGetter descrCheckInstance descrNameAndClass ώ
 simp only[W.KF.owner_class]
 repeat lk
 refine(EX _ ?k,?_);refine f7 W.KF.entry_class ?_
 repeat lk
 exact h
theorem Pj(k:iS K C):W.KitX K (.ref x) (.ref C) (nH x C) where
 ty:=λ_ _ _ p=>p.ty
 it:=λM h X _=>by
  let(cd,a):=k_.mp k.1
  delta J1 at a
  split at a
  ·rename_i c
   intro b b b s' b q;exact al (Ju (b _ _ (X _ _ c)) (b4 q))
  ·cases a
 ne:=λh d e J n sl X b=>by
  let(cd,a):=k_.mp k.1;refine Bool.eq_false_iff.mpr λq=>?_;rw[<-(KA (q_.mp q))]at b
  delta J1 at a
  split at a
  ·rename_i c
   have z:=(X _ _ c).symm.trans b;cases z
  ·cases a
 ca:=λX I h=>Nr k X I h
end
inductive jo(K:bI)(H:Hp)(x c:V)(b:eg):Prop
 |i(d:_)(_:vV d=O c)(_:(∀u,aB c u->u=d))(_:((∃t,eV K H x t/\e3 K t d=O b)\/∃a C,x = .ref a/\H a=O (gq a (.ref C))/\iS K C/\e3 K (.ref C) d=O b))
theorem O6:bx X (.builtin "isinstance") (λB H Q=>∃x c b,B=[x,c]/\jo X.K H x c b/\Q (.bl b) H):=by
 intro g s A H B us Q I j h;let(x,c,b,Y,(f,_,d,h1),q):=h;let(u,n,Y,f,m):=lD j;cases d _ m;rcases h1 with⟨t,ty,e⟩ |⟨a,C,rfl,d,k,e⟩
 ·exact Z_ I f ty e λtk=>(.bl b,H,I.tok tk,Y,q)
 ·cases (show u=eM a from f);let((o,vs,h2,f,j),_):=(show bo X.1 X.w H s.1 a (gq a (.ref C)) from I.hok a _ d)
  exact ka (Pj k) I.kIn (o,vs,h2,f,j) e (λz=>nomatch z) λtk=>(.bl b,H,I.tok tk,Y,q)
theorem vX:∀bs:U eg,(da ?lbs).all (λi=>bs.getD i b1)=bs.all id
 |[]=>rfl
 |b::bs=>by
  simp only[e_,l_,jy,l',jy,<-vX bs];rfl
theorem wC(c:X.15=bm):bx X (.builtin "all") (λB H Q=>∃(p:a_)(bs:U eg),B=[.ref p]/\eb X.K H p (bs.map V.bl)/\Q (.bl (bs.all id)) H):=by
 intro g s A H B us Q I a h;let(p,bs,Y,d,q):=h;let(u,Y,f):=cA a;cases f;let(J,r,pl,hz):=I.list d;have lt:p<?ss:=by
  let(o,_,e,_):=pl;exact b6 e
 have a:?lbs=?lJ:=by
  have:=?lr
  simp_all
 refine call_all_walk (ky pl.isList ?_);refine(_,_,_,_,_,_,λi=>bs.getD i b1,Y,n2 (A:=X.A.in1) (I.ok.hd c) _ p (cb lt) ?aJ,((_,b_ _ Y,Y,Y),pl.isList.push _),?_,λh' tk m=>?_)
 ·intro i v s' n c c d;have c:J[i]?=O v:=by simpa using c
  have hi:i<?lbs:=by rw[a];exact (bg.mp c).1
  let(u,j,f):=r.get (i:=i) (x:=V.bl bs[i]) (by simp[hi]);rw[c]at j;cases j;cases (show v=ke bs[i] from f);have e:bs.getD i b1=bs[i]:=by simp[ hi]
  have d:n (bs.getD i b1) s':=d;rw[e]at d;exact b4 d
 ·refine(.bl (bs.all id),H,I.kept (t':=tk) λb o e=>?_,?_,q)
  rotate_left
  ·show _=ke _;simp only[b7,<-a,vX]
  ·exact m b o (by simpa using cb (b6 e)) (aw _ e)
theorem Z7(m:X.15=bm):bx X (.builtin "max") (λB H Q=>∃(p:a_)(ns:U cs)(M:cs),B=[.ref p]/\eb X.K H p (ns.map V.int)/\M∈ns/\(∀a∈ns,a<=M)/\Q (.int M) H):=by
 intro g s A H B us Q I c h;let(p,ns,M,Y,f,d,b,q):=h;let(u,Y,n):=cA c;cases n;let(J,r,pl,hz):=I.list f;have hi:=mf r;let(ws,e):=hi.allInts.items;have f:ns=ws.toList.map (·.1):=by
  have c:=hi.numsOf;have c:=tw ws
  grind
 have c:0<?ews:=by
  have:?lns=?ews:=by grind
  rw[<-this];exact ma d
 refine max_intList (I.ok.hd m) (e ▸ pl.isList) c λv h' tk c m=>?_;let(t,Y):=x4 c;let(h1,h2):=ϐ (l8 ws) (?ews - 1);have n:l8 ws (ih (λi j=>decide (l8 ws i > l8 ws j)) (?ews - 1))∈ns:=by
  rw[f,ss];exact getD_mem (by simp only[ai,ee];omega)
 have w:∀a∈ns,a<=l8 ws (ih (λi j=>decide (l8 ws i > l8 ws j)) (?ews - 1)):=λa c=>by
  rw[f]at c;let(j,f,Y):=J3 c;simp only[ai,ee]at f;rw[<-ss];exact h2 j (ri ‹_›)
 have c:l8 ws (ih (λi j=>decide (l8 ws i > l8 ws j)) (?ews - 1))=M:=by
  have f:=b _ n;have f:=w _ d;omega
 exact(.int M,H,I.kept (t':=tk) m,(t,by rw[c]),q)
theorem wF(m:X.15=bm):bx X (.builtin "min") (λB H Q=>∃(p:a_)(ns:U cs)(M:cs),B=[.ref p]/\eb X.K H p (ns.map V.int)/\M∈ns/\(∀a∈ns,M<=a)/\Q (.int M) H):=by
 intro g s A H B us Q I c h;let(p,ns,M,Y,f,d,b,q):=h;let(u,Y,n):=cA c;cases n;let(J,r,pl,hz):=I.list f;have hi:=mf r;let(ws,e):=hi.allInts.items;have f:ns=ws.toList.map (·.1):=by
  have c:=hi.numsOf;have c:=tw ws
  grind
 have c:0<?ews:=by
  have:?lns=?ews:=by grind
  rw[<-this];exact ma d
 refine min_intList (I.ok.hd m) (e ▸ pl.isList) c λv h' tk c m=>?_;let(t,Y):=x4 c;let(h1,h2):=ϑ (l8 ws) (?ews - 1);have n:l8 ws (ih (λi j=>decide (l8 ws i<l8 ws j)) (?ews - 1))∈ns:=by
  rw[f,ss];exact getD_mem (by simp only[ai,ee];omega)
 have w:∀a∈ns,l8 ws (ih (λi j=>decide (l8 ws i<l8 ws j)) (?ews - 1))<=a:=λa c=>by
  rw[f]at c;let(j,f,Y):=J3 c;simp only[ai,ee]at f;rw[<-ss];exact h2 j (ri ‹_›)
 have c:l8 ws (ih (λi j=>decide (l8 ws i<l8 ws j)) (?ews - 1))=M:=by
  have f:=b _ n;have f:=w _ d;omega
 exact(.int M,H,I.kept (t':=tk) m,(t,by rw[c]),q)
theorem jE:∀{x:V},bz x=bm->m3 x x=bm
 |.non,_=>rfl
 |.bl b,_=>by simp[m3]
 |.int i,_=>by simp[m3]
 |.str z,_=>by simp[m3]
noncomputable def eX:U V->U V->eg
 |[],[]=>bm
 |x::B,y::ys=>m3 x y && eX B ys
 |_,_=>b1
theorem xr:∀{B:U V},B.all bz=bm->eX B B=bm
 |[],_=>rfl
 |x::B,h=>by
  simp only[jy,eB]at h;unfold eX;simp only[jE h.1,xr h.2];rfl
theorem rP:∀{B ys:U V},?lB≠?lys->eX B ys=b1
 |[],_::_,_=>rfl
 |_::_,[],_=>rfl
 |x::B,y::ys,h=>by
  unfold eX;simp only[rP (by simpa using h),n4]
theorem rQ:∀{B ys:U V},?lB=?lys->(da ?lB).all (λj=>m3 (B.getD j .non) (ys.getD j .non))=eX B ys
 |[],[],_=>rfl
 |x::B,y::ys,h=>by
  have h':?lB=?lys:=by simpa using h
  simp only[e_,l_,jy,l'];unfold eX;simp only[<-rQ h'];rfl
 |[],_::_,h=>by simp at h
theorem RV(f:X.A.5<m4):l6 X (eT .Eq) (λx y H Q=>∃(p q:a_)(B ys:U V),x = .ref p/\y = .ref q/\eb X.K H p B/\eb X.K H q ys/\B.all bz=bm/\ys.all bz=bm/\Q (.bl (eX B ys)) H):=by
 intro g s A H x y v u Q I c d h;let(p,q,B,ys,Y,Y,m,n,w,z,k):=h;cases c;cases d;let(J,r,pl,_):=I.list m;let(c,m,d,_):=I.list n;have l1:=?lr;have l2:=?lm;by_cases e:?lB=?lys
 ·refine FO (e:=λj=>m3 (B.getD j .non) (ys.getD j .non)) pl.isList d.isList (by simp only[b7,b7];simp_all) f (λj h1 h2=>?_) ?_
  ·simp only[b7]at h1 h2;let(a,C,n):=r.get (i:=j) (x:=B[j]' ?x) ?s;let(b,D,C):=m.get (i:=j) (x:=ys[j]' ?x) ?s;have m:?aJ[j]=a:=by
    simp_all
   have D:?ac[j]=b:=by
    simp_all
   simp only[m,D];have m:B.getD j .non=B[j]' ?x:=by simp[ show j<?lB by simp_all]
   have c:ys.getD j .non=ys[j]' ?x:=by simp[ show j<?lys by simp_all]
   simp only[m,c];exact jD n C (dv.mp w _ (d1 _)) (dv.mp z _ (d1 _))
  ·refine(.bl (eX B ys),H,I,?_,k);show _=ke _;simp only[b7,<-l1,rQ e]
 ·refine x7 pl.isList d.isList (by simp only[b7];simp;simp_all) f (.bl (eX B ys),H,I,?_,k);rw[rP e];rfl
theorem YF:zG X "list.count" (λx vs H Q=>∃(p:a_)(B:U V)(y:V),x = .ref p/\vs=[y]/\H p=O (.lst B)/\B.all bz=bm/\bz y=bm/\Q (.int (B.countP λz=>m3 z y)) H):=by
 intro g s A H x vs v us Q I d j h;let(p,B,y,Y,Y,m,c,C,q):=h;cases d;let(u,Y,d):=j.one;let(z,J,n,r,j,e):=I.lstM m;refine h_ F.slot_list_count (_,e,Y) F.entry_list_count (F.args_list_count_2 _ _) (SeqAt.list_countAt p ?aJ n bd #[] u (v9 y)) (e,λw j=>jL d C r c w ?x,?_);refine(.int (B.countP λz=>m3 z y),H,I.tok _,(s.4,?_),q);have:∀{B:U V}{us:U b0},az B us->B.all bz=bm->us.countP (v9 y)=B.countP λz=>m3 z y:=by
  intro B us r;induction r with
  |nil=>intro _;rfl
  |@cons a b l1 l2 h t d=>
   intro f;simp only[jy,eB]at f;simp only[FQ,FQ,d f.2,lX h f.1]
 rw[ this r c]
theorem px:zG X "list.index" (λx vs H Q=>∃(p:a_)(B:U V)(y:V)(j:b8),x = .ref p/\vs=[y]/\H p=O (.lst B)/\B.all bz=bm/\bz y=bm/\
  (∃z,B[j]?=O z/\m3 z y=bm)/\(∀m z,m<j->B[m]?=O z->m3 z y=b1)/\Q (.int j) H):=by
 intro g s A H x vs v us Q I f d h;let(p,B,y,j,Y,Y,D,C,E,(K,b,G),c,q):=h;cases f;let(u,Y,G):=d.one;let(z,J,n,r,f,e):=I.lstM D;have f:=(bg.mp b).1;have val:∀(m:b8) (d),∃b,B[m]?=O b/\v9 y J[m]=m3 b y:=λm d=>by
  have f:m<?lB:=?l
  let(a,D,K):=r.get (i:=m) (x:=B[m]) (by simp[f]);have:J[m]?=O J[m]:=?s
  rw[this]at D;cases D;exact(B[m],?s,lX K (dv.mp C _ (d1 _)))
 refine h_ F.slot_list_index (_,e,Y) F.entry_list_index (F.args_list_index_2 _ _) (SeqAt.list_indexAt p ?aJ n bd #[] u (v9 y) j (by simp only[b7];lia) ?_ ?_ ?_) (e,λw f=>jL G E r C w ?x,?_)
 ·have:=kK
  lia
 ·let(b,e1,C):=val j ?l
  grind
 ·intro m d f;let(b,e1,C):=val m d;simpa using C.trans (c m b f e1)
 ·exact(.int j,H,I.tok _,⟨_,Y⟩,q)
theorem UV(l:a_)(items:fK b0)(n:b8)(a:b5 a_)(sl:fK (b5 b0))(x:b0)(e:b0->eg)(j:b8)(c:j<?eitems)(c:e items[j]=bm)(f:∀m (c:m<?eitems),m<j->e items[m]=b1):
  Meets (hX.«tuple.index» ([.ref l,x],[]))
   (λAa R s=>s.heap.get? l=O { cls:=.type "tuple",dict:=a,data:=.seq items n,slots:=sl }/\(∀y,y∈items->u_ Aa.in1 s y x (e y))/\R (.ok (.ret (.int j s.4))) { s with toks:=s.4+1 }):=by
 intro prog w Aa R s h;let(a,Ac,d,tk,os):=s;let(c,g,h):=h;unfold hX.«tuple.index»;simp only[GD]
 wp_walk using wpAny_loadPart' c,wpAny_forIn_list _ (λbU b s'=>b.1=bd/\s'=(a,Ac,d,tk,os)/\∃i,i<=j/\bU=List.range' i (?eitems - i)) _
 case turn=>
  rintro y bU b s' ⟨a,rfl,i,hi,c⟩;have a:i<?eitems:=gi ‹_› ‹_›;rw[show ?eitems - i=(?eitems - i - 1)+1 by lia]at c;injection c with h1 h2
  subst h1;have p:items[y]?=O items[y]:=by simp[a]
  rw[p];refine al (g items[y] (Array.getElem_mem a) prog w _ _ ?_);by_cases g:y=j
  ·subst g
   wp_walk
   exact h
  ·rw[f y a (su ‹_› ‹_›)]
   wp_walk
   refine(Y,Y,y+1,by exact su ‹_› ‹_›,?_);rw[h2];congr 1
 case fin=>
  rintro b s' ⟨_,rfl,i,hi,c⟩;rw[show ?eitems - i=(?eitems - i - 1)+1 by lia,List.range'_succ]at c;cases c
 case h=>
  exact(Y,Y,(0),ej _,by simp[GF])
theorem yz:zG X "tuple.index" (λx vs H Q=>∃(p:a_)(B:U V)(y:V)(j:b8),x = .ref p/\vs=[y]/\fx X.K H p B/\B.all bz=bm/\bz y=bm/\
  (∃z,B[j]?=O z/\m3 z y=bm)/\(∀m z,m<j->B[m]?=O z->m3 z y=b1)/\Q (.int j) H):=by
 intro g s A H x vs v us Q I e d h;let(p,B,y,j,Y,Y,D,f,E,(G,b,C),c,q):=h;cases e;let(u,Y,G):=d.one;let(J,r,(o,C,e,n,hd),hz):=I.tuple D;let(oc,od,d,sl):=o;subst e hd;have e:=?lr;have e:=(bg.mp b).1;have val:∀(m:b8) (d),∃b,B[m]?=O b/\v9 y J[m]=m3 b y:=λm d=>by
  have e:m<?lB:=?l
  let(a,D,K):=r.get (i:=m) (x:=B[m]) ?s;have:J[m]?=O J[m]:=?s
  rw[this]at D;cases D;exact(B[m],by simp[e],lX K (dv.mp f _ (d1 _)))
 refine h_ F.slot_tuple_index (_,C,Y) F.entry_tuple_index (F.args_tuple_index_2 _ _) (UV p ?aJ n od sl u (v9 y) j (by simp only[b7];lia) ?_ ?_) (C,λw e=>jL G E r f w ?x,?_)
 ·let(b,e1,f):=val j ?l
  grind
 ·intro m d e;let(b,e1,f):=val m d;simpa using f.trans (c m b e e1)
 ·exact(.int j,H,I.tok _,⟨_,Y⟩,q)
theorem RO:zG X "int.bit_length" (λx vs H Q=>∃i:cs,x = .int i/\vs=[]/\Q (.int (p5 i)) H):=by
 intro g s A H x vs v us Q I a b h;let(i,Y,Y,q):=h;let(t,Y):=a;cases b;exact call_gives F.slot_int_bit_length Y F.entry_int_bit_length (F.args_int_bit_length_1 _) (Ho i t) (.int _,H,I.tok _,⟨_,Y⟩,q)
theorem bn{i:cs}(a:∃t,X.mg x=O (.int i t))(b:zzp (Gl X x) zz0)(hd:zzp ((x ==("__debug__" : c3))=b1) zz1):PE X (.Name x pos) (tC (.int i)):=by
 let(t,e):=a;exact zq b e (t,Y) hd
theorem dj(b:X.mg x=O (.ref a))(c:zzp (Gl X x) zz0)(hd:zzp ((x ==("__debug__" : c3))=b1) zz1):PE X (.Name x pos) (tC (.ref a)):=
 zq c b Y hd
theorem fY{n:gV}(a:X.mg x=bd)(b:ln x=O (.type n))(c:zzp (Gl X x) zz0)(d:zzp (x ≠ "__name__" ) zz1)(hd:zzp ((x ==("__debug__" : c3))=b1) zz1):PE X (.Name x pos) (tC (.ty n)):=
 QR c a b Y d hd
theorem fR{x:V}{T:gV}{t:b0}{b:eg}(ty:eV K H x t)(e:e3 K t (.type T)=O b):jo K H x (.ty T) b:=
 (.type T,Y,λ_ r=>r,.inl (t,ty,e))
theorem Rf{D:a_}{b:eg}(h:H a=O (gq a (.ref C)))(k:iS K C)(e:e3 K (.ref C) (.ref D)=O b):jo K H (.ref a) (.ref D) b:=
 (.ref D,Y,λ_ r=>r,.inr (a,C,Y,h,k,e))
theorem Um{T:gV}{b:eg}(h:H a=O (gq a (.ref C)))(k:iS K C)(e:e3 K (.ref C) (.type T)=O b):jo K H (.ref a) (.ty T) b:=
 (.type T,Y,λ_ r=>r,.inr (a,C,Y,h,k,e))
def CW(n:b8)(Pv:b8->U V->Hp->Prop)(i m:b8)(acc:U V)(H:Hp):Prop:=m=n - i/\i<=n/\Pv i acc H
theorem cw{i:b8}{Pv:b8->U V->Hp->Prop}{acc:U V}(hi:i<n)(h:Pv (i+1) acc H):∃a,a<n - i/\CW n Pv (i+1) a acc H:=(n - (i+1),?o,Y,hi,h)
theorem oA{fr:U (b5 b8)}(Pv:b8->U V->Hp->Prop)(h:Pv 0 [] H)(j:∀i acc H,i<=?lB->Pv i acc H->eb K H a B/\?lacc<=i)(hz:?lB<=bT)(n:∀i x acc H,B[i]?=O x->i<?lB->Pv i acc H->Ac x (stC fr A) H λc H2=>Wk (stC fr A) c/\tc c H2 λb f=>
   if b=bm then te c f λy g=>∃d,d<?lB - i/\CW ?lB Pv (i+1) d (acc++[y]) g else ∃d,d<?lB - i/\CW ?lB Pv (i+1) d acc f)(hd:∀acc H,Pv ?lB acc H->Qe acc H):
  ∃W:b8->b8->U V->Hp->Prop,(∃m,W 0 m [] H)/\∀i m acc H,W i m acc H->
   ((Fe K a).stop i H/\Qe acc H)\/
   ((Fe K a).go i H/\?lacc<bT/\∀x N,(Fe K a).yld i H x N->Ac x (stC fr A) N λc H2=>Wk (stC fr A) c/\tc c H2 λb f=>
    if b=bm then te c f λy g=>∃d,d<m/\W (i+1) d (acc++[y]) g else ∃d,d<m/\W (i+1) d acc f):=by
 refine(CW ?lB Pv,(?lB,?s,ej _,h),?_);rintro i m acc H ⟨rfl,hi,p⟩;let(q,c):=j i acc H hi p;by_cases c:i<?lB
 ·refine .inr ((B,B[i],q,?s),?l,λx N y=>?_);let(e,y):=y;subst e;exact n i x acc _ (y B q) c p
 ·have e:i=?lB:=?l
  subst e;exact .inl ((B,q,b2 _),hd acc H p)
theorem rJ{fr:U (b5 b8)}(Pv:b8->U V->Hp->Prop)(h:Pv 0 [] H)(j:∀i acc H,i<=?lB->Pv i acc H->fx K H a B/\?lacc<=i)(hz:?lB<=bT)(n:∀i x acc H,B[i]?=O x->i<?lB->Pv i acc H->Ac x (stC fr A) H λc H2=>Wk (stC fr A) c/\tc c H2 λb f=>
   if b=bm then te c f λy g=>∃d,d<?lB - i/\CW ?lB Pv (i+1) d (acc++[y]) g else ∃d,d<?lB - i/\CW ?lB Pv (i+1) d acc f)(hd:∀acc H,Pv ?lB acc H->Qe acc H):
  ∃W:b8->b8->U V->Hp->Prop,(∃m,W 0 m [] H)/\∀i m acc H,W i m acc H->
   ((G4 K a).stop i H/\Qe acc H)\/
   ((G4 K a).go i H/\?lacc<bT/\∀x N,(G4 K a).yld i H x N->Ac x (stC fr A) N λc H2=>Wk (stC fr A) c/\tc c H2 λb f=>
    if b=bm then te c f λy g=>∃d,d<m/\W (i+1) d (acc++[y]) g else ∃d,d<m/\W (i+1) d acc f):=by
 refine(CW ?lB Pv,(?lB,?s,ej _,h),?_);rintro i m acc H ⟨rfl,hi,p⟩;let(q,c):=j i acc H hi p;by_cases c:i<?lB
 ·refine .inr ((B,B[i],q,?s),?l,λx N y=>?_);let(e,y):=y;subst e;exact n i x acc _ (y B q) c p
 ·have e:i=?lB:=?l
  subst e;exact .inl ((B,q,b2 _),hd acc H p)
theorem kj{fr:U (b5 b8)}(Pv:b8->U V->Hp->Prop)(g:Pv 0 [] H)(h:∀i acc H,i<=n->Pv i acc H->?lacc<=i)(hz:n<=bT)(j:∀i acc H,i<n->Pv i acc H->Ac (.int (lo+i)) (stC fr A) H λa H2=>Wk (stC fr A) a/\tc a H2 λb d=>
   if b=bm then te a d λy f=>∃c,c<n - i/\CW n Pv (i+1) c (acc++[y]) f else ∃c,c<n - i/\CW n Pv (i+1) c acc d)(hd:∀acc H,Pv n acc H->Qe acc H):
  ∃W:b8->b8->U V->Hp->Prop,(∃m,W 0 m [] H)/\∀i m acc H,W i m acc H->
   ((FE lo n).stop i H/\Qe acc H)\/
   ((FE lo n).go i H/\?lacc<bT/\∀x N,(FE lo n).yld i H x N->Ac x (stC fr A) N λa H2=>Wk (stC fr A) a/\tc a H2 λb d=>
    if b=bm then te a d λy f=>∃c,c<m/\W (i+1) c (acc++[y]) f else ∃c,c<m/\W (i+1) c acc d):=by
 refine(CW n Pv,(n,?s,ej _,g),?_);rintro i m acc H ⟨rfl,hi,p⟩;have a:=h i acc H hi p;by_cases a:i<n
 ·refine .inr (a,?l,λx N y=>?_);let(e,y):=y;subst e y;exact j i acc _ a p
 ·have e:i=n:=?l
  subst e;exact .inl (b2 _,hd acc H p)
theorem tT{Aa Ah:Hp->Prop}(h:Aa H):jT A H (λb a=>if b=bm then Aa a else Ah a):=by
 assumption
theorem rS.okX{f:a_}{k:b8}(F:rS K x L st f fd)(S:b9 Ae ps (aQ st))(len:∀vs H Q on,sp vs H Q on->?lvs=?lps)(a:∀(cdv:b0)(Aa:hB)(outer:U u2)(s:b')(H:Hp)(vs:U V)(Q:VK)(on:XK),aZ k (Aa.deeper (nI L (aQ st) ?ss f cdv))->sp vs H Q on->
   ∃t,t2 (c6 (tu Ab w) Ab w K mg base Ae L (aQ st) f cdv Aa outer s H on) (ci st) t/\t { nx:=λ_ N=>Q .non N,rt:=Q } (fC Ae vs) H):aN Ab w K mg base (tu Ab w) (k+1) f fd ps sp:=by
 let(oc,od,kV,doc,pm,an,cdv,ct,osl,Y,lk,b):=F.1;exact rT lk b S len λAa outer s H vs Q on c b=>a cdv Aa outer s H vs Q on c b
theorem rS.o{f:a_}{k:b8}(F:rS K x L st f fd)(Ae:U c3)(a:Ae.Nodup->∀(cdv:b0)(Aa:hB)(outer:U u2)(s:b')(H:Hp)(vs:U V)(Q:VK)(on:XK),aZ k (Aa.deeper (nI L (aQ st) ?ss f cdv))->sp vs H Q on->
   ∃t,t2 (c6 r_ Ab w K mg base Ae L (aQ st) f cdv Aa outer s H on).nox (ci st) t/\t { nx:=λ_ N=>Q .non N,rt:=Q } (fC Ae vs) H)(S:zzp (b9 Ae ps (aQ st)) zz5)(len:zzp (∀vs H Q on,sp vs H Q on->?lvs=?lps) zz6):aN Ab w K mg base r_ (k+1) f fd ps sp:=F.ok S len (a S.4)
theorem rS.oX{f:a_}{k:b8}(F:rS K x L st f fd)(Ae:U c3)(a:Ae.Nodup->∀(cdv:b0)(Aa:hB)(outer:U u2)(s:b')(H:Hp)(vs:U V)(Q:VK)(on:XK),aZ k (Aa.deeper (nI L (aQ st) ?ss f cdv))->sp vs H Q on->
   ∃t,t2 (c6 (tu Ab w) Ab w K mg base Ae L (aQ st) f cdv Aa outer s H on) (ci st) t/\t { nx:=λ_ N=>Q .non N,rt:=Q } (fC Ae vs) H)(S:zzp (b9 Ae ps (aQ st)) zz5)(len:zzp (∀vs H Q on,sp vs H Q on->?lvs=?lps) zz6):aN Ab w K mg base (tu Ab w) (k+1) f fd ps sp:=F.okX S len (a S.4)
theorem aG{p:a_}{o:HO}(h:aa H N)(a:N p=bd):aa H (upd N p o):=λb u e=>by
 exact (af (aC (h b u e) a)) ▸ (h b u e)
inductive Fg(Ab:f0)(w:gl)(K:bI)(mg:c3->b5 b0)(base:fy)(CX:zH)(k:b8)(x:c3)(ps:U c3)(sp:Sp):Prop
 |i(f fd:_)(_:aN Ab w K mg base CX k f fd ps sp)(_:mg x=O (.ref f))(_:hw K (.ref f)=bm)(_:cp K fd ps [])
theorem Fg.pe{k:b8}{on:XK}{t:TA}(C:Fg X.1 X.w X.K X.4 X.5 CX k x ps sp)(c:aZ j X.A)(d:c8 CX X on)(g:PA X (e::es) t)(h:zzp (k<=j) zz1)(m:zzp (Gl X x) zz0)(a:zzp ((x ==("__debug__" : c3))=b1) zz1)(n:zzp (cH (e::es) X.10=(zzq b1 (eval e X.10))::cH es X.10) zz0)(b:zzp ((gx pos (cH es X.10)).any (·.1)=b1) zz0):
  PE X (.Call (.Name x p) (e::es) [] pos) (uN sp [] on t):=by
 let(f,fd,G,q,s,u):=C;exact YZ G (c.mono h) m q s u .nil d g a n b
inductive gW(Ab:f0)(w:gl)(K:bI)(mg:c3->b5 b0)(base:fy)(CX:zH)(k:b8)(C:a_)(m:c3)(ps:U c3)(sp:Sp):Prop
 |i(f fd:_)(_:aN Ab w K mg base CX k f fd ps sp)(_:jp K C m f)(_:cp K fd ps [])
inductive vL(Ab:f0)(w:gl)(K:bI)(mg:c3->b5 b0)(base:fy)(CX:zH)(k:b8)(C:a_)(ps:U c3)(sp:Sp):Prop
 |i(f fd:_)(_:aN Ab w K mg base CX k f fd ps sp)(_:Mk K C f)(_:cp K fd ps [])
section
variable{a:f3}
inductive RQ(K:bI)(Q:eg->Hp->Prop)(x:V)(N:Hp):Prop
 |i(p B:_)(_:x = .ref p)(_:eb K N p B)(_:Q (!B.isEmpty) N)
def MB(K:bI)(ta:TE):TT:=λA H Q=>ta A H λx N=>RQ K Q x N
theorem Xw(c:PE X a ta)(d:zzp (∀b,isTrue a X.10 b=(do let v <-b;pU a.pos;ms [v] (Fi v))) zz2):PT X a (MB X.K ta):=by
 intro g s A H Q I h;exact Fj (gv (c g s A H _ I h) λv s1 ⟨x,H1,b,c,p,B,e,f,j⟩=>by
  subst e;exact qh g s1 A H1 (.ref p) v Q b c (_,.inl (B,f,Y),j)) (d _)
structure vU(c:TT)(tb:TS)(D:fJ)(σ:St)(H:Hp):Prop where
 go:Li c tb D σ H
theorem ul{c:f3}(a:ES ?m X.A X.10 X.xe)(b:PT X c tc)(d:t2 X body tb):PS X (.While c body [] pos) (vU tc tb):=
 λg s A H D I h=>UM a b d g s A H D I h.1
inductive Tx(wi:TI)(A:St)(H:Hp)(R:It->Hp->Prop):Prop
 |i(a:It->Hp->Prop)(_:wi A H a)(_:∀Ag H1,a Ag H1->R Ag H1)
theorem PI.mono(h:PI X tg iter wi):PI X tg iter (Tx wi):=by
 intro g s A H R I q;let(a,q,k):=q;exact gv (h g s A H a I q) λv s1 a=>gv a λa s2 b=>by let(it,fp,c,Ag,H2,e,d,T,a,f,j):=b;exact(it,fp,c,Ag,H2,e,d,T,a,f,k _ _ j)
structure vM(J:It)(g:TG)(tb:TS)(D:fJ)(σ:St)(H1:Hp):Prop where
 go:∃W:b8->b8->St->Hp->Prop,(∃m,W 0 m σ H1)/\∀i m σ H,W i m σ H->
  (J.stop i H/\D.nx σ H)\/(J.go i H/\∃N:St->Hp->Prop,(∀σ' H',N σ' H'->∃m',m'<m/\W (i+1) m' σ' H')/\∀x H',J.yld i H x H'->g x σ H' λσ2 H2=>tb { D with nx:=N,ct:=N,bk:=D.1 } σ2 H2)
def Zj(wi:TI)(Ac:TG)(tb:TS):TS:=λD A H=>wi A H λAg H1=>vM Ag Ac tb D A H1
theorem dk(a:ES ?m X.A X.10 X.xe)(b:X.15=bm)(hi:PI X tg iter wi)(c:PG X tg Ac)(d:t2 X body tb)(e:zzp (∀x,hu iter X.10 x=hl x) zz2):PS X (.For tg iter body [] pos) (Zj wi Ac tb):=
 λg s A H D I h=>zM a b hi.mono c d e g s A H D I (_,h,λ_ _ q=>q.1)
structure ff(fr:U (b5 b8))(J:It)(g:TG)(tc:TT)(te:TE)(σ:St)(H1:Hp)(Q:VK):Prop where
  go:∃W:b8->b8->U V->Hp->Prop,(∃m,W 0 m [] H1)/\∀i m acc H,W i m acc H->
    (J.stop i H/\∀p,H p=bd->Q (.ref p) (upd H p (.lst acc)))\/
    (J.go i H/\acc.length<bT/\∀x H',J.yld i H x H'->g x (stC fr σ) H' λσ2 H2=>Wk (stC fr σ) σ2/\tc σ2 H2 λb H3=>
       if b=bm then te σ2 H3 λy H4=>∃m',m'<m/\W (i+1) m' (acc++[y]) H4 else ∃m',m'<m/\W (i+1) m' acc H3)
def LR(fr:U (b5 b8))(wi:TI)(Ac:TG)(tc:TT)(te:TE):TE:=λA H Q=>wi A H λAg H1=>ff fr Ag Ac tc te A H1 Q
theorem bf{fr:U (b5 b8)}(hi:PI X tg iter wi)(a:∀C fp s H,PG (aY X Ae scope C fp s H) tg Ac/\iu (aY X Ae scope C fp s H) ifs tc/\PE (aY X Ae scope C fp s H) elt te)(S:dD X Ae scope fr:=by exact(Y,Y,Y,Y,Y,Y))(b:zzp (X.15=bm) zz0)(c:zzp (∀x,hu iter X.10 x=hl x) zz2):
  PE X (.ListComp elt [(tg,iter,ifs,(0))] scope pos) (LR fr wi Ac tc te):=
 λg s A H Q I h=>Ox S b hi.mono a c g s A H Q I (_,h,λ_ _ q=>q.1)
theorem gR(i:b8){y:c3}{fr:U (b5 b8)}(c:X.N.Nodup)(hi:PI X tg iter wi)(d:∀C fp s H,PG (aY X Ae scope C fp s H) tg Ac/\iu (aY X Ae scope C fp s H) ifs tc/\PE (aY X Ae scope C fp s H) elt te)(a:zzp (X.N[i]?=O y) zz0)(e:zzp (Loc X.env.1 y) zz4)(S:dD X Ae scope fr:=by exact(Y,Y,Y,Y,Y,Y))(f:zzp (X.15=bm) zz0)(b:zzp (mX (.ListComp elt [(tg,iter,ifs,(0))] scope pos) (O (.Name y py)) spos.1 X.10=hl bm) zz0)(j:zzp (X.fn y=bm\/X.env.scope.names.lookup y=O .local) zz3)(m:zzp (∀x,hu iter X.10 x=hl x) zz2):
  PS X (.Assign [.Name y py] (.ListComp elt [(tg,iter,ifs,(0))] scope pos) spos) (jR (LR fr wi Ac tc te) (eF i)):=
 λg s A H D I h=>Na c a e S f hi.mono d b j m g s A H D I (_,h,λ_ _ q=>q.1)
theorem uT{c:TT}(Pv:St->Hp->Prop)(d:St->Hp->b8)(g:Pv A H)(h:∀m A H,m=d A H->Pv A H->c A H λb H1=>if b=bm then ∃Ae:St->Hp->Prop,(∀a N,Ae a N->∃f,f<m/\(f=d a N/\Pv a N))/\tb { D with nx:=Ae,ct:=Ae,bk:=D.1 } A H1 else D.nx A H1):vU c tb D A H:=
 (λm A H=>m=d A H/\Pv A H,(1,g),by rintro m A H ⟨e,p⟩;exact h m A H e p)
theorem wN{Pv:St->Hp->Prop}{b:St->Hp->b8}{m:b8}:∀a N,(Pv a N/\b a N<m)->∃c,c<m/\(c=b a N/\Pv a N):=λ_ _ h=>(_,h.2,Y,h.1)
theorem cO{B:U α}{i:cs}{v:α}(a:0<=i)(h:B[?ii]?=O v):s8 B i=O v:=by
 have:=cf h
 rwa[la a]at this
theorem aa.new{p:a_}{o:HO}(a:H p=bd):aa H (upd H p o):=aG (aa.refl H) a
theorem jF{l:U α}{a x:α}(h:(l++[a])[j]?=O x):l[j]?=O x\/j=?ll/\x=a:=by
 rcases Nat.lt_or_ge j ?ll with k |k
 ·rw[f1 k]at h;exact .inl h
 ·rw[ge k]at h;obtain e:j - ?ll=0:=by have:=(bg.mp h).1;simp at this;omega
  rw[e]at h;exact .inr (Nat.le_antisymm (Nat.sub_eq_zero_iff_le.mp e) k,(c_ h).symm)
theorem kF{c:eg}{Aa:Prop}(h:c=bm->Aa)(k:c=b1->Ah):if c=bm then Aa else Ah:=by
 cases c
 ·exact ao (k Y)
 ·exact aA (h Y)
theorem tq{f:α->β}{d:α}(l:U α):(da ?ll).map (λi=>f (l.getD i d))=l.map f:=tx ?s λi h _=>by simp at h;simp[bb,h]
theorem iX{a:a_}{ys:U α}{G:α->V}(c:α->eg)(F:α->V){fr:U (b5 b8)}{Q:VK}(j:eb K H a (ys.map G))(hz:?lys<=1000)(m:∀(i:b8) y,ys[i]?=O y->∀N (f:VK) (Z:Hp->Prop),aa H N->(c y=bm->∀H2,aa N H2->f (F y) H2)->(c y=b1->∀H2,aa N H2->Z H2)->Ac (G y) (stC fr A) N λd H2=>Wk (stC fr A) d/\tc d H2 λb g=>if b=bm then te d g f else Z g)(hd:∀p N,aa H N->N p=O (.lst ((ys.filter c).map F))->H p=bd->Q (.ref p) N):ff fr (Fe K a) Ac tc te A H Q:=by
 refine⟨oA (B:=ys.map G) (λi acc N=>aa H N/\acc=((ys.take i).filter c).map F) (aa.refl _,Y) (λi acc N hi h=>(h.1.seq j,?_)) (by rw[ai];exact dn (bJ hz)) (λi x acc N f d h=>?_) λacc N h p g=>?_⟩
 ·rw[h.2,ai];exact ce (eu ..) (hY ..)
 ·let(s,Y):=h;rw[a']at f;let(y,j,Y):=d3.mp f;have e:(ys.take (i+1)).filter c=(ys.take i).filter c++[y].filter c:=by rw[ei,j,h3];rfl
  refine m i y j N _ _ s (λh H2 s2=>cw d (s.trans s2,?_)) λh H2 s2=>cw d (s.trans s2,?_)
  ·rw[e,gk,d6 h,b3];rfl
  ·rw[e,gk,du (by simp[h])];simp
 ·let(s,Y):=h;rw[ai,dw];exact hd p _ (aG s g) ae (s.free g)
theorem eC{a:a_}{ys:U α}{G:α->V}(F:α->V){fr:U (b5 b8)}{Q:VK}(e:eb K H a (ys.map G))(hz:?lys<=1000)(f:∀(i:b8) y,ys[i]?=O y->∀N (c:VK),aa H N->(∀H2,aa N H2->c (F y) H2)->Ac (G y) (stC fr A) N λb H2=>Wk (stC fr A) b/\te b H2 c)(hd:∀p N,aa H N->N p=O (.lst (ys.map F))->H p=bd->Q (.ref p) N)(g:∀x A H R d,(∀b N,R b N->d b N)->Ac x A H R->Ac x A H d:=by exact λ_ _ _ _ _ h=>h _ _):ff fr (Fe K a) Ac jT te A H Q:=
 iX (λ_=>bm) F e hz (λi y b N c Z s k _=>g _ _ _ _ _ (λ_ _ h=>(h.1,tT h.2)) (f i y b N c s (k Y))) λp N s h n=>hd p N s (by rwa[nb.mpr λ_ _=>rfl]at h) n
theorem lR{a:a_}{ys:U α}{G:α->V}(d:U V)(e:?ld=?lys){fr:U (b5 b8)}{Q:VK}(j:eb K H a (ys.map G))(hz:?lys<=1000)(m:∀(i:b8) y z,ys[i]?=O y->d[i]?=O z->∀N (f:VK) (Z:Hp->Prop),aa H N->(∀H2,aa N H2->f z H2)->Ac (G y) (stC fr A) N λc H2=>Wk (stC fr A) c/\tc c H2 λb g=>if b=bm then te c g f else Z g)(hd:∀p N,aa H N->N p=O (.lst d)->H p=bd->Q (.ref p) N):ff fr (Fe K a) Ac tc te A H Q:=by
 refine⟨oA (B:=ys.map G) (λi acc N=>aa H N/\acc=d.take i) (aa.refl _,Y) (λi acc N hi h=>(h.1.seq j,by rw[h.2];exact hY ..)) (by rw[ai];exact dn (bJ hz)) (λi x acc N f c h=>?_) λacc N h p g=>?_⟩
 ·let(s,Y):=h;rw[a']at f;let(y,j,Y):=d3.mp f;have f:=ag (show i<?ld by rw[e];exact (bg.mp j).1);exact m i y _ j f N _ _ s λH2 s2=>cw c (s.trans s2,by rw[ei,f];rfl)
 ·let(s,Y):=h;rw[ai,<-e,dw];exact hd p _ (aG s g) ae (s.free g)
theorem R0(F:b8->V){fr:U (b5 b8)}{Q:VK}(hz:n<=1000)(c:∀i,i<n->∀N (b:VK),aa H N->(∀H2,aa N H2->b (F i) H2)->Ac (.int (lo+i)) (stC fr A) N λa H2=>Wk (stC fr A) a/\te a H2 b)(hd:∀p N,aa H N->N p=O (.lst ((da n).map F))->H p=bd->Q (.ref p) N)(d:∀x A H R b,(∀a N,R a N->b a N)->Ac x A H R->Ac x A H b:=by exact λ_ _ _ _ _ h=>h _ _):ff fr (FE lo n) Ac jT te A H Q:=by
 refine⟨kj (λi acc N=>aa H N/\acc=(da i).map F) (aa.refl _,Y) (λi acc N hi h=>?_) (dn (bJ hz)) (λi acc N hi h=>?_) λacc N h p a=>?_⟩
 ·rw[h.2,ai];exact g3 dV
 ·let(s,Y):=h;refine d _ _ _ _ _ (λ_ _ h=>(h.1,tT h.2)) (c i hi N _ s λH2 s2=>cw hi (s.trans s2,?_));rw[hr,b3];rfl
 ·let(s,Y):=h;exact hd p _ (aG s a) ae (s.free a)
end
inductive W9(K:bI)(B:U V)(H:Hp)(Q:VK):Prop
 |i(p ys:_)(_:B=[.ref p])(_:(eb K H p ys\/fx K H p ys))(_:Q (.int ?lys) H)
inductive SJ(K:bI)(B:U V)(H:Hp)(Q:VK):Prop
 |i(p ys:_)(_:B=[.ref p])(_:(eb K H p ys\/fx K H p ys))(_:∀l,H l=bd->Q (.ref l) (upd H l (.lst ys)))
inductive Β(K:bI)(B:U V)(H:Hp)(Q:VK):Prop
 |i(x c b:_)(_:B=[x,c])(_:jo K H x c b)(_:Q (.bl b) H)
inductive O'(K:bI)(B:U V)(H:Hp)(Q:VK):Prop
 |i(p:a_)(bs:U eg)(_:B=[.ref p])(_:eb K H p (bs.map V.bl))(_:Q (.bl (bs.all id)) H)
inductive Qi(K:bI)(B:U V)(H:Hp)(Q:VK):Prop
 |i(p:a_)(ns:U cs)(M:cs)(_:B=[.ref p])(_:eb K H p (ns.map V.int))(_:M∈ns)(_:(∀a∈ns,a<=M))(_:Q (.int M) H)
inductive VM(K:bI)(B:U V)(H:Hp)(Q:VK):Prop
 |i(p:a_)(ns:U cs)(M:cs)(_:B=[.ref p])(_:eb K H p (ns.map V.int))(_:M∈ns)(_:(∀a∈ns,M<=a))(_:Q (.int M) H)
inductive YI(K:bI)(x:V)(y:V)(H:Hp)(Q:VK):Prop
 |i(p q:a_)(B ys:U V)(_:x = .ref p)(_:y = .ref q)(_:eb K H p B)(_:eb K H q ys)(_:B.all bz=bm)(_:ys.all bz=bm)(_:Q (.bl (eX B ys)) H)
inductive Pr(K:bI)(x:V)(vs:U V)(H:Hp)(Q:VK):Prop
 |i(p:a_)(B:U V)(y:V)(j:b8)(_:x = .ref p)(_:vs=[y])(_:fx K H p B)(_:B.all bz=bm)(_:bz y=bm)(_:(∃z,B[j]?=O z/\m3 z y=bm))(_:(∀m z,m<j->B[m]?=O z->m3 z y=b1))(_:Q (.int j) H)
section
variable(K:bI){a:f3}
theorem kH(h:zzp (X.K=K) zz0):G7 X (mY K):=h ▸ x5
theorem Λ(h:zzp (X.K=K) zz0):G7 X (uo K):=h ▸ x8
theorem uE(h:zzp (X.K=K) zz0):G9 X (zU K):=h ▸ X'
theorem k8(h:zzp (X.K=K) zz0):G9 X (zV K):=h ▸ YO
theorem iL(h:zzp (X.K=K) zz0):l6 X (eT .In) (JK K b1):=h ▸ SN
theorem zi(h:zzp (X.K=K) zz0):l6 X (eT .NotIn) (JK K bm):=h ▸ zh
theorem l6.ex{r r':R2}(h:l6 X f r)(k:∀x y H Q,r' x y H Q->r x y H Q):l6 X f r':=λ_ _ _ _ _ _ _ _ _ I l m n=>h _ _ _ _ _ _ _ _ _ I l m (k _ _ _ _ n)
theorem bx.ex{f:b0}{r r':U V->Hp->VK->Prop}(h:bx X f r)(k:∀x H Q,r' x H Q->r x H Q):bx X f r':=λ_ _ _ _ _ _ _ I m n=>h _ _ _ _ _ _ _ I m (k _ _ _ n)
theorem zG.ex{f:gV}{r:V->U V->Hp->VK->Prop}(h:zG X f r)(k:∀x y H Q,r' x y H Q->r x y H Q):zG X f r':=λ_ _ _ _ _ _ _ _ _ I l m n=>h _ _ _ _ _ _ _ _ _ I l m (k _ _ _ _ n)
theorem Ol(g:X.A.5+1<m4)(h:zzp (X.K=K) zz0):l6 X (eT .Eq) (YI K):=by
 subst h;exact (RV (FR g)).ex λ_ _ _ _ ⟨a,b,c,d,e,f,Ac,h,i,j,k⟩=>(a,b,c,d,e,f,Ac,h,i,j,k)
theorem bR(h:zzp (X.K=K) zz0):bx X (.builtin "len") (W9 K):=by subst h;exact wE.ex λ_ _ _ ⟨a,b,c,d,e⟩=>(a,b,c,d,e)
theorem rq(h:zzp (X.K=K) zz0):bx X (.type "list") (SJ K):=by subst h;exact μ.ex λ_ _ _ ⟨a,b,c,d,e⟩=>(a,b,c,d,e)
theorem cJ(h:zzp (X.K=K) zz0):bx X (.builtin "isinstance") (Β K):=by subst h;exact O6.ex λ_ _ _ ⟨a,b,c,d,e,f⟩=>(a,b,c,d,e,f)
theorem jz(f:X.15=bm)(h:zzp (X.K=K) zz0):bx X (.builtin "all") (O' K):=by subst h;exact (wC f).ex λ_ _ _ ⟨a,b,c,d,e⟩=>(a,b,c,d,e)
theorem W8(g:X.15=bm)(h:zzp (X.K=K) zz0):bx X (.builtin "max") (Qi K):=by subst h;exact (Z7 g).ex λ_ _ _ ⟨a,b,c,d,e,f,Ac,h⟩=>(a,b,c,d,e,f,Ac,h)
theorem X_(g:X.15=bm)(h:zzp (X.K=K) zz0):bx X (.builtin "min") (VM K):=by subst h;exact (wF g).ex λ_ _ _ ⟨a,b,c,d,e,f,Ac,h⟩=>(a,b,c,d,e,f,Ac,h)
theorem S9(h:zzp (X.K=K) zz0):zG X "tuple.index" (Pr K):=by subst h;exact yz.ex λ_ _ _ _ ⟨a,b,c,d,e,f,Ac,h,i,j,k,l⟩=>(a,b,c,d,e,f,Ac,h,i,j,k,l)
theorem Q4(c:PE X a ta)(h:zzp (X.K=K) zz0)(d:zzp (∀b,isTrue a X.10 b=(do let v <-b;pU a.pos;ms [v] (Fi v))) zz2):PT X a (MB K ta):=by
 subst h;exact Xw c d
theorem bp{f:c3}(a:PE X e ta)(b:h9 e f X.10 (eval e X.10)=eval e X.10)(h:zzp (X.K=K) zz0):PE X (.Attribute e f pos) (iP K ta f):=by
 subst h;exact cL a b
variable{g:f3}{q:TA}{T p:gV}{r:V->U V->Hp->VK->Prop}
theorem bX(m:Hj T)(d:Slot T name p)(j:Fu (.builtin p)=hl (.type "method_descriptor"))(n:zG X p r)(s:PE X g to)(u:PA X (e::es) q)(h:zzp (X.K=K) zz0)(b:zzp (h9 g name X.10 (eval g X.10)=eval g X.10) zz0)(f:zzp (((gx cpos (cH (e::es) X.10)).all (λx=>!x.1) && (n1 cpos (j2 [] X.10)).all (λx=>x.1.isSome)
   && decide ((e::es).length+([]:U q').length+(if ([]:U q').isEmpty then 0 else 1)<30))=bm) zz0)(c:zzp ((apos.3 ==cpos.1)=bm) zz0)(v:zzp (cH (e::es) X.10=(zzq b1 (eval e X.10))::cH es X.10) zz0)(a:zzp ((gx cpos (cH es X.10)).any (·.1)=b1) zz0):
  PE X (.Call (.Attribute g name apos) (e::es) [] cpos) (K0 K T r to q):=by
 subst h;exact t9 m d j n s u b f c v a
end
section
variable{a b c:f3}{d f:TE}
theorem aD(i:b8)(a:X.N.Nodup)(b:PE X e te)(hi:zzp (X.N[i]?=O x) zz0)(c:zzp (Loc X.env.1 x) zz4)(d:zzp (mX e (O (.Name x pos')) pos.1 X.10=hl b1) zz0)(f:zzp (X.fn x=bm\/X.env.scope.names.lookup x=O .local) zz3):PS X (.Assign [.Name x pos'] e pos) (jR te (eF i)):=zN a hi c b d f
theorem aF(i:b8)(a:X.N.Nodup)(hi:zzp (X.N[i]?=O x) zz0)(b:zzp (Loc X.env.1 x) zz4)(c:zzp (X.fn x=bm\/X.env.scope.names.lookup x=O .local) zz3):PG X (.Name x pos) (eF i):=XN a hi b c
theorem e0(b:PE X a ta)(h:zzp (cH [a] X.10=(zzq b1 (eval a X.10))::cH [] X.10) zz0):PA X [a] (fe ta fD):=aJ b dJ h
theorem fH(c:PE X a ta)(e:PE X b d)(h:zzp (cH [a,b] X.10=(zzq b1 (eval a X.10))::cH [b] X.10) zz0)(h':zzp (cH [b] X.10=(zzq b1 (eval b X.10))::cH [] X.10) zz0):PA X [a,b] (fe ta (fe d fD)):=aJ c (e0 e h') h
theorem l3(K:bI)(c:PE X a ta)(e:PE X b d)(f:nO b:=by exact λ_ _=>rfl)(h:zzp (X.K=K) zz0):PE X (.Subscript a b pos) (Ez (uo K) ta d):=mL (Λ K h) c e f
theorem nC(K:bI)(c:PE X a ta)(e:PE X b d)(f:nO b:=by exact λ_ _=>rfl)(h:zzp (X.K=K) zz0):PE X (.Subscript a b pos) (Ez (mY K) ta d):=mL (kH K h) c e f
theorem aE{r:R2}(c:l6 X (eT op) r)(e:PE X a ta)(f:PE X b d)(g:h8 op b=b1:=by exact yU _):PT X (.Compare a [op] [b] pos) (jS (Ez r ta d)):=iN c e f g
theorem eN{r:R2}(c:l6 X (eT op) r)(e:PE X a ta)(f:PE X b d)(g:h8 op b=b1:=by exact yU _):PE X (.Compare a [op] [b] pos) (Ez r ta d):=mK c e f g
end
theorem Inv.turnedL(I:Inv X g A H s)(k:∀b o,b∉ch->s.heap.get? b=O o->h'.get? b=O o)(f:∀b∈ch,eU X g H b):Inv X g A H { s with heap:=h',toks:=t' }:=by
 have d:∀b u,H b=O u->b∉ch:=λb u e z=>by rw[(f b z).1]at e;cases e
 refine I.step (g':=s.2) (d':=s.3) (λb h=>?_) (λb o _ _ a e _=>k b o a e) (λb o _ _ a e _=>(o.4,k b o a e)) (λ_ _ _ _ n=>n)
  (λb o a e=>(o,k b o a e)) (λ_ _ e=>e) (λ_ _ _ e=>e) (λb ps e=>(#[],?x)) (λm j=>?_) (λb u e=>?_) I.3
 ·let(B,p,C,w,x,y):=f b h;exact(w,p,x,y)
 ·let(o,es,ep,h,r):=j;exact(o,es,ep,k _ o (λz=>(f _ z).2.1 Y) h,r)
 ·refine (I.hok b u e).stay (λc v a q=>k c v ?_ q) (λ_ q=>q) λ_ _ q=>q;rcases a with z |z
  ·exact z ▸ (d b u e)
  ·exact d c _ z
def I1(K:bI)(a b:a_):It:=
  (λi H=>∃B ys x y,eb K H a B/\eb K H b ys/\B[i]?=O x/\ys[i]?=O y,
   λi H v N=>∃T,H T=bd/\v = .ref T/\∀B ys,eb K H a B->eb K H b ys->∃x y,B[i]?=O x/\ys[i]?=O y/\N=upd H T (.tup [x,y]),
   λi H=>∃B ys,eb K H a B/\eb K H b ys/\(?lB<=i\/?lys<=i))
theorem JE{e f:a_}(h:c∈[a,b,d,e,f]):c=a\/c=b\/c=d\/c=e\/c=f:=?x
theorem p9{TI TO:a_}(h:c∈[z,TO,i1,i2]):c∈[z,TI,TO,i1,i2]:=by grind
theorem ja{x:a_}(h1:x≠a)(h2:x≠b)(d:x≠c):x∉[a,b,c]:=?x
theorem pA{x:a_}(h:x∉[a,b,c,d]):x≠a/\x≠b/\x≠c/\x≠d:=by simpa using h
theorem ZK{k:b8}(a b z TI TO i1 i2:a_)(D:vb z TI TO i1 i2 a b):
  fM Ab w K (.Tuple elts k pos) (I1 K a b) [z,TI,TO,i1,i2] z (λi h=>tz h z TI TO .none/\hN h TI (.ref i1) (.ref i2)/\(∃c d,hN h TO c d)/\h.IsListIter i1 a i/\h.IsListIter i2 b i) where
 mem:=?s
 obj:=λi h st c G=>by
  let(h1,h2,(_,_,n),(AE,e1,c1,AF),(AG,P,j,f)):=st;rcases JE G with rfl |rfl |rfl |rfl |rfl
  ·exact(_,h1,λv z=>by cases z)
  ·exact(_,h2,λv z=>by cases z)
  ·exact(_,n,λv z=>by cases z)
  ·exact(AE,e1,λv z=>by rw[AF]at z;cases z)
  ·exact(AG,P,λv z=>by rw[f]at z;cases z)
 keep:=λi h h' st kk=>by
  let(h1,h2,(c,d,n),C,E):=st;exact(kk z (.head _) _ h1,kk TI (.tail _ (.head _)) _ h2,(c,d,kk TO (.tail _ (.tail _ (.head _))) _ n),C.at λo e=>kk i1 (.tail _ (.tail _ (.tail _ (.head _)))) o e,E.at λo e=>kk i2 (.tail _ (.tail _ (.tail _ (.tail _ (.head _))))) o e)
 item:=by
  intro X J Q R G i g s A H on I N st S;subst J Q R;let(B,ys,x,y,p,u,AH,AI):=S;let(Z,A3,A4,_):=I.list p;let(A5,A6,A7,_):=I.list u;let(AJ,f,A8):=A3.get AH;let(AK,m,A9):=A6.get AI;have j:=(bg.mp f).1;have j:=(bg.mp m).1;have W:=WalksT.zip2 (prog:=X.1) (w:=X.w) (I.ok.hd G) z TI TO i1 i2 a b D ?aZ ?aA5;let(h1,h2,n,C,E):=id st;refine W.item i s _ _ (by simp only[b7,b7];exact Nat.le_min.mpr (‹_›,‹_›)) (h1,h2,n,C,E,A4.isList,A7.isList) λT j h' tk J AA L AL AB=>?_;refine(.ref T,Y,W.go elts k pos i T { s with heap:=h',toks:=tk } _ _ AL λAC j M=>?_);let(AM,AN,ex,AO,Y):=J;have AD:AJ=AM:=by
   have:Z[i]?=O AM:=by simpa using ex
   rw[f]at this;exact c_ this
  have f:AK=AN:=by
   have:A5[i]?=O AN:=by simpa using AO
   rw[m]at this;exact c_ this
  subst AD f;have AD:Inv X g A H { s with heap:=AC,toks:=tk }:=I.turnedL (λc o f e=>M c o f (AB c o f e)) λc f=>N c (p9 f);have AC:=I.hok.fresh AA;have m:∀{c:a_}{o:hg},s.heap.get? c=O o->c≠T:=λe=>cb (c2 (b6 e) AA);have AM:=I.trackN (o:=.tup [x,y]) AA AD (by show 2<=bT;decide,[AJ,AK],.cons A8 (.cons A9 .nil),(L.at λo e=>M T o (W.apart i T _ AL) e));refine(.ref T,_,AM,Y,(T,AC,Y,λL M A8 A9=>?_),(j.1,j.2.1,j.2.2.1,j.2.2.2.1,j.2.2.2.2.1),λc f=>?_)
  ·rw[I.list_inj A8 p,I.list_inj A9 u];exact(x,y,AH,AI,Y)
  ·have:c≠T:=by
    let(c1,AF,n):=n;let(AE,e1,_):=C;let(AG,P,_):=E;rcases JE f with rfl |rfl |rfl |rfl |rfl
    ·exact m h1
    ·exact m h2
    ·exact m n
    ·exact m e1
    ·exact m P
   rw[af this];exact (N c f).1
 done:=by
  intro X J Q R G i g s A H on I N st S;subst J Q R;let(B,ys,p,u,j):=S;let(Z,A3,A4,_):=I.list p;let(A5,A6,A7,_):=I.list u;let(h1,h2,(c,d,n),C,E):=id st;have l1:=?lA3;have l2:=?lA6;refine Gq (I.ok.hd G) D h1 h2 n C E A4.isList A7.isList ?_ λh' AB=>(Y,I.turnedL (t':=s.4) (λc o f e=>AB c o (λq=>f (by simp[q])) (λq=>f (by simp[q])) (λq=>f (by simp[q])) (λq=>f (by simp[q])) e) λc f=>N c (p9 f))
  rcases j with h |h
  ·exact .inl (by simp;simp_all)
  ·exact .inr (by simp;simp_all)
 self:=λ_ _ _ _ _ st h=>lz st.1 h
inductive RJ(K:bI)(R:It->Hp->Prop)(vs:U V)(H1:Hp):Prop
 |i(a b B ys:_)(_:vs=[.ref a,.ref b])(_:eb K H1 a B)(_:eb K H1 b ys)(_:R (I1 K a b) H1)
def YL(K:bI)(ta:TA):TI:=λA H R=>ta A H λvs H1=>RJ K R vs H1
theorem mQ(K:bI){k:b8}{a b:f3}{ta:TA}(j:Gl X "zip")(d:X.mg "zip" =bd)(m:PA X [a,b] ta)(n:zzp (X.K=K) zz0)(f:zzp (cH [a,b] X.10=[(zzq b1 (eval a X.10)),(zzq b1 (eval b X.10))]) zz0)(f:zzp (cH [b] X.10=[(zzq b1 (eval b X.10))]) zz0):
  PI X (.Tuple elts k tpos) (.Call (.Name "zip" p) [a,b] [] pos) (YL K ta):=by
 subst n;intro g s A H R I h;refine uB (df I j d qq (ec (gv (m pos g s A H _ I h) λus s1 ⟨vs,H1,d,j,m⟩=>?_) ?x (by rw[f];rfl)));let(a,b,B,ys,e,n,u,q):=m;subst e;cases j with
 |cons r f=>
  cases f with
  |cons r' f=>
   cases f;cases r;cases r';let(j,m,f,_):=d.list n;let(m,n,j,_):=d.list u;have m:a<?ss1:=by let(o,_,e,_):=f;exact b6 e
   have lb:b<?ss1:=by let(o,_,e,_):=j;exact b6 e
   refine Hq f.isList j.isList λh' f n u v w j x=>?_;refine lz f ?_;refine(?ss1+4,[?ss1+4,?ss1+2,?ss1+3,?ss1,?ss1+1],_,_,H1,Y,d.kept (t':=s1.4) x,ZK a b _ _ _ _ _ (Fy m lb),(f,n,(_,_,u),v,w),λc j=>?_,q);have:?ss1<=c:=by
    simp only[bG,dH,f8]at j;rcases j with rfl |rfl |rfl |rfl |rfl <;> lia
   exact d.fpOk this (d.hok.fresh this)
theorem dA(K:bI){k:b8}{t:HP}(b:X.15=bm)(h:Jj X es t)(c:zzp (X.K=K) zz0)(d:zzp ((m_ es X.10).length=n) zz0)(a:zzp ((m_ es X.10).findIdx? (·.1)=bd) zz0):PG X (.Tuple es k pos) (si K n t):=by
 subst c;exact YC b h d a
theorem rK{fr:U (b5 b8)}(Pv:b8->U V->Hp->Prop)(u:Pv 0 [] H)(n:b8)(c:n=min ?lB ?lys)(w:∀i acc H,i<=n->Pv i acc H->eb K H a B/\eb K H b ys/\?lacc<=i)(hz:n<=bT)(z:∀i x y acc H T,B[i]?=O x->ys[i]?=O y->i<n->Pv i acc H->H T=bd->Ac (.ref T) (stC fr A) (upd H T (.tup [x,y])) λc H2=>Wk (stC fr A) c/\tc c H2 λb f=>
   if b=bm then te c f λy g=>∃d,d<n - i/\CW n Pv (i+1) d (acc++[y]) g else ∃d,d<n - i/\CW n Pv (i+1) d acc f)(hd:∀acc H,Pv n acc H->Qe acc H):
  ∃W:b8->b8->U V->Hp->Prop,(∃m,W 0 m [] H)/\∀i m acc H,W i m acc H->
   ((I1 K a b).stop i H/\Qe acc H)\/
   ((I1 K a b).go i H/\?lacc<bT/\∀x N,(I1 K a b).yld i H x N->Ac x (stC fr A) N λc H2=>Wk (stC fr A) c/\tc c H2 λb f=>
    if b=bm then te c f λy g=>∃d,d<m/\W (i+1) d (acc++[y]) g else ∃d,d<m/\W (i+1) d acc f):=by
 refine(CW n Pv,(n,?s,ej _,u),?_);rintro i m acc H ⟨rfl,hi,p⟩;let(h,j,c):=w i acc H hi p;by_cases q:i<n
 ·refine .inr ((B,ys,B[i]' ?l,ys[i]' ?l,h,j,?s,?s),?l,λv N s=>?_);let(T,C,Y,s):=s;let(x,y,D,E,Y):=s B ys h j;exact z i x y acc _ T D E q p C
 ·have e:i=n:=?l
  subst e;exact .inl ((B,ys,h,j,?l),hd acc H p)
theorem PS.nox{t:TS}(h:PS X.nox st t):PS X st t:=λg s A H D I a=>
 ew (h g s A H D (I.wish _) a) (λ_ _ q=>q.unwish) λ_ _ z=>fb z
theorem bW    : c8 (tu Ab w) X E0:=by
 rintro _ _ _ _ _ _ _ ⟨_,_,_,_,_,_,_,_,_,_,_,_,_,h⟩;exact h.elim
section
variable(K:bI)
theorem vZ:∀bs:U eg,(da ?lbs).any (λi=>bs.getD i b1)=bs.any id
 |[]=>rfl
 |b::bs=>by
  simp only[e_,l_,hx,HF,hx,<-vZ bs];rfl
inductive RZ(K:bI)(B:U V)(H:Hp)(Q:VK):Prop
 |i(p:a_)(bs:U eg)(_:B=[.ref p])(_:eb K H p (bs.map V.bl))(_:Q (.bl (bs.any id)) H)
theorem wD(c:X.15=bm)(a:zzp (X.K=K) zz0):bx X (.builtin "any") (RZ K):=by
 subst a;intro g s A H B us Q I a h;let(p,bs,Y,d,q):=h;let(u,Y,f):=cA a;cases f;let(J,r,pl,hz):=I.list d;have lt:p<?ss:=by
  let(o,_,e,_):=pl;exact b6 e
 have a:?lbs=?lJ:=by
  have:=?lr
  simp_all
 refine call_any_walk (ky pl.isList ?_);refine(_,_,_,_,_,_,λi=>bs.getD i b1,Y,n2 (A:=X.A.in1) (I.ok.hd c) _ p (cb lt) ?aJ,((_,b_ _ Y,Y,Y),pl.isList.push _),?_,λh' tk m=>?_)
 ·intro i v s' n c c d;have c:J[i]?=O v:=by simpa using c
  have hi:i<?lbs:=by rw[a];exact (bg.mp c).1
  let(u,j,f):=r.get (i:=i) (x:=V.bl bs[i]) (by simp[hi]);rw[c]at j;cases j;cases (show v=ke bs[i] from f);have e:bs.getD i b1=bs[i]:=by simp[ hi]
  have d:n (bs.getD i b1) s':=d;rw[e]at d;exact b4 d
 ·refine(.bl (bs.any id),H,I.kept (t':=tk) λb o e=>?_,?_,q)
  rotate_left
  ·show _=ke _;simp only[b7,<-a,vZ]
  ·exact m b o (by simpa using cb (b6 e)) (aw _ e)
theorem N':∀(l:U cs)(f:b8->cs),(∀i,i<?ll->f i=l.getD i 0)->J4 f ?ll=l.sum:=by
 intro l;have b:∀(n),n<=?ll->∀f:b8->cs,(∀i,i<?ll->f i=l.getD i 0)->J4 f n=(l.take n).sum:=by
  intro n;induction n with
  |zero=>intro _ f _;simp[J4]
  |succ n d=>
   intro h f a;have c:n<?ll:=?o
   have e:l.take (n+1)=l.take n++[l[n]]:=by rw[ei,ag c];rfl
   have g:l.getD n 0=l[n]:=by simp[ c]
   rw[J4,d ?o f a,a n c,g,e,Gr];simp
 intro f a;have:=b ?ll (b2 _) f a
 rwa[dw]at this
inductive ZJ(K:bI)(B:U V)(H:Hp)(Q:VK):Prop
 |i(p:a_)(ns:U cs)(_:B=[.ref p])(_:eb K H p (ns.map V.int))(_:Q (.int ns.sum) H)
theorem Rm(c:X.15=bm)(a:zzp (X.K=K) zz0):bx X (.builtin "sum") (ZJ K):=by
 subst a;intro g s A H B us Q I a h;let(p,ns,Y,b,q):=h;let(u,Y,d):=cA a;cases d;let(J,r,pl,hz):=I.list b;have hi:=mf r;let(ws,e):=hi.allInts.items;have b:ns=ws.toList.map (·.1):=by
  have d:=hi.numsOf;have a:=tw ws;rw[<-e]at a;rw[<-d];exact a
 have a:?lns=?ews:=by rw[b,ai,ee]
 refine sum_intListG (I.ok.hd c) (e ▸ pl.isList) λh' tk t' d=>?_;refine(.int ns.sum,H,I.kept (t':=tk) d,(t',?_),q);rw[<-a,N' ns (l8 ws) λi _=>by rw[b];exact ss _ _]
inductive NQ(K:bI)(x:V)(y:V)(H:Hp)(Q:VK):Prop
 |i(p q:a_)(B ys:U V)(_:x = .ref p)(_:y = .ref q)(_:eb K H p B)(_:eb K H q ys)(_:B.all bz=bm)(_:ys.all bz=bm)(_:Q (.bl (!eX B ys)) H)
theorem QB(f:X.A.5+1<m4)(c:zzp (X.K=K) zz0):l6 X (eT .NotEq) (NQ K):=by
 subst c;have f:=FR f;intro g s A H x y v u Q I c d h;let(p,q,B,ys,Y,Y,m,n,w,z,k):=h;cases c;cases d;let(J,r,pl,_):=I.list m;let(c,m,d,_):=I.list n;have l1:=?lr;have l2:=?lm;by_cases e:?lB=?lys
 ·refine v3 (e:=λj=>m3 (B.getD j .non) (ys.getD j .non)) pl.isList d.isList (by simp only[b7,b7];simp_all) f (λj h1 h2=>?_) X.1 X.w _ _ ?_
  ·simp only[b7]at h1 h2;let(a,C,n):=r.get (i:=j) (x:=B[j]' ?x) ?s;let(b,D,C):=m.get (i:=j) (x:=ys[j]' ?x) ?s;have m:?aJ[j]=a:=by
    simp_all
   have D:?ac[j]=b:=by
    simp_all
   simp only[m,D];have c:B.getD j .non=B[j]' ?x:=by simp[ show j<?lB by simp_all]
   have m:ys.getD j .non=ys[j]' ?x:=by simp[ show j<?lys by simp_all]
   simp only[c,m];exact jD n C (dv.mp w _ (d1 _)) (dv.mp z _ (d1 _))
  ·refine(.bl (!eX B ys),H,I,?_,k);show _=ke _;simp only[b7,<-l1,rQ e]
 ·refine IQ pl.isList d.isList (by simp only[b7];simp;simp_all) f X.1 X.w _ _ (.bl (!eX B ys),H,I,?_,k);rw[rP e];rfl
end
section
variable(K:bI)
inductive PF(K:bI)(Q:VK)(x:V)(H1:Hp):Prop
 |i(a B:_)(_:x = .ref a)(_:eb K H1 a B)(_:∀p,H1 p=bd->Q (.ref p) (upd H1 p (.lst B.reverse)))
def L0(K:bI)(te:TE):TE:=λA H Q=>te A H λx H1=>PF K Q x H1
theorem OM{st:f3}(j:PE X e te)(d:PE X st (L7 (rU λi=>.int (-i)) (tC (.int 1))))(m:zzp (X.K=K) zz0):PE X (.Subscript e (.Slice bd bd (O st) p2) pos) (L0 K te):=by
 subst m;intro g s A H Q I h;refine C' (gv (j g s A H _ I h) λv s1 ⟨x,H1,n,p,w⟩=>?_);let(a,B,Y,y,q):=w;cases p;refine MN ?_;rw[evalPart_none];refine b4 (b4 ?_);refine gv (eP d g s1 A H1 (λo N=>o=O (-1)/\N=H1) n ((1),Y,-1,Y,Y,Y)) λu c ⟨o,z,C,D,e1,E⟩=>?_;subst e1 E;have f:Inv X g A z { c with heap:=c.heap.push { cls:=.type "slice",data:=.fields #[.none,.none,u] } }:=C.kept (t':=c.4) λb G q=>aw _ q;let(J,r,d,hz):=f.list y;have j:=?lr;show dy ?m X.A (JY e (.Slice bd bd (O st) p2) (.ref a) (.ref ?sc)) (EP X g A Q) X.xe { c with heap:=c.heap.push { cls:=.type "slice",data:=.fields #[.none,.none,u] } };refine tail_any (ops:=[.ref a,.ref ?sc]) d.isList.typeIs uG.1 (EH d.isList (uc ..) .none .none D ?s ?_ (by rw[b7] <;> omega)) (by with_unfolding_all rfl);rw[W.krv_pick];refine(.ref _,_,f.laid (t':=c.4) (o:=.lst B.reverse) (λb G q=>aw _ q) (b2 _) ?_,Y,q _ (f.hok.fresh (b2 _)));refine(by rw[EL];exact hz,J.reverse,(0),?_,b_ _ Y);have rev:∀{B:U V}{us:U b0},az B us->az B.reverse us.reverse:=by
  intro B us r;induction r with
  |nil=>exact .nil
  |cons h t d=>rw[j_,j_];exact d.append (.cons h .nil)
 exact rev r
end
theorem Pf:mj (.type "list_reverseiterator") "__len__" =hl bd:=Y
theorem WX:mj (.type "list_reverseiterator") "__length_hint__" =hl (O (.builtin "list_reverseiterator.__length_hint__")):=Y
theorem Y3{l:a_}(p:Aa.1=bd)(c:s.heap.IsRevIter I l ((?eitems:cs) - 1))(n:s.heap.IsList l items)(h:l≠I)(q:?eitems<=bT)(S:a_)(d:b0)(a:b8)(u:s.heap.get? S=O { cls:=.type "list",data:=.seq #[] a })(g:S≠I)(j:S≠l)(hR:∀h' tk a c',(∀b o,b≠S->b≠I->s.heap.get? b=O o->h'.get? b=O o)->h'.get? S=O { cls:=.type "list",dict:=bd,data:=.seq a c',slots:=#[] }->
   B2 (λi v=>items[?eitems - 1 - i]?=O v) a ?eitems->R (.ok (.ret d)) { s with heap:=h',toks:=tk }):
  dy (ds prog w) Aa.in1 (ry (.ref S) (.ref I) d)
   (λfin s'=>match fin with |.done f=>R (.ok f) s' |.again c'=>c'.quiet=bm/\lp (ds prog w) Aa c' R s') (λe s'=>R (.error e) s') s:=by
 have m:(0)<=?eitems/\s.heap.IsRevIter I l ((?eitems) - 1 - ((0):cs))/\s.heap.IsList l items:=(ej _,by simpa using c,n)
 have n:S∉[I,l]:=by simp[g,j]
 have d:=c.typeIs;refine al (ra d ?_);have h1:kb (.ref S) (.ref I)=b1:=by simp[kb,g]
 have h2:(hk "list_reverseiterator" ==hk "list")=b1:=?a
 have g:(hk "list_reverseiterator" ==hk "tuple")=b1:=?a
 simp only[h1];refine al (wpAny_pyIter_revIter c ?_);refine al (e6 ?_);refine al (kc d Pf ?_);refine al (kc d WX ?_);refine al (w7 (b:=bm) d (by rw[isSubtype_type];kernel_rfl) ?_);refine b4 ?_;refine b4 (hm s0 _,codeAny_extend_loopS ((Walks.listRev (prog:=prog) (w:=w) (A:=Aa.in1) p I l h items).toS) q _ n _ ?eitems 0 _ _ _ Y (ej _) m u (ϒ _) λs' a c' j d c=>?_);rw[Moved.eq_with j];refine hR s'.1 s'.4 a c' (λb a n g e=>j.heap b a (λa=>?_) e) d c;rcases bG.mp a with d |a
 ·exact n d
 ·exact g (by simpa using a)
theorem S_{l:a_}(p:Aa.1=bd)(f:s.heap.IsRevIter I l ((?eitems:cs) - 1))(n:s.heap.IsList l items)(j:l≠I)(q:?eitems<=bT)(u:∀h' tk a c',(∀b o,b≠I->s.heap.get? b=O o->h'.get? b=O o)->
   h'.get? ?ss=O { cls:=.type "list",dict:=bd,data:=.seq a c',slots:=#[] }->B2 (λi v=>items[?eitems - 1 - i]?=O v) a ?eitems->Q (.ref ?ss) { s with heap:=h',toks:=tk }):
  dy (ds prog w) Aa (qB (.type "list") [.ref I]) Q on s:=by
 refine Eo (Q₁:=λobj c=>obj = .ref ?ss/\c={ s with heap:=s.heap.push { cls:=.type "list",data:=.seq #[] } }) IR (GG _) GH
  (Kh _ (Y,Y)) λobj c d=>?_
 let(Y,Y):=d;have d:(s.heap.push { cls:=.type "list",data:=.seq #[] }).get? ?ss=O { cls:=.type "list",data:=.seq #[] }:=b_ _ Y;have g:I<?ss:=by let(o,e,_):=f;exact b6 e
 have h:l<?ss:=by let(o,e,_):=n;exact b6 e
 refine((_,d,Y),Gs _ _,?_);refine al ?_;refine al (fA d Y (b4 ?_));refine al (hP d Y ?_);have c:=f5 (et (λ_=>(#[]))) d Y;have d:∀b o,b≠?ss->s.heap.get? b=O o->((s.heap.push { cls:=.type "list",data:=.seq #[] }).update ?ss (et (λ_=>(#[])))).get? b=O o:=
  λb o m e=>(e7 _ _ (fU m)).trans (aw _ e)
 refine Y3 (Aa:=Aa.in1) p (f.at λo e=>d _ o (cb g) e) (n.at λo e=>d _ o (cb h) e) j q _ .none _ c (e8 g) (e8 h) λh' tk a c' g f c=>?_;exact(Y,u h' tk a c' (λb o m e=>g b o (cb (b6 e)) m (d b o (cb (b6 e)) e)) f c)
section
variable(K:bI)
theorem az.rev:∀{B:U V}{us:U b0},az B us->az B.reverse us.reverse:=by
 intro B us r;induction r with
 |nil=>exact .nil
 |cons h t a=>simp only[j_,j_];exact a.append (.cons h .nil)
theorem S4(h:B2 (λi v=>?aJ[?wJ - 1 - i]?=O v) acc ?wJ):acc=?aJ.reverse:=by
 let(h1,h2):=h;apply Array.ext
 ·simp[h1]
 ·intro i a a;have q:?aJ[?wJ - 1 - i]?=O acc[i]:=h2 i acc[i] ?s;have hi:i<?lJ:=?x
  have lt:?lJ - 1 - i<?lJ:=?o
  simp_all
theorem Tf(n:X.15=bm)(d:Gl X "list")(c:X.mg "list" =bd)(f:Gl X "reversed")(j:X.mg "reversed" =bd)(p:PE X e te)(v:zzp (X.K=K) zz0)(m:zzp (cH [e] X.10=[(zzq b1 (eval e X.10))]) zz0):
  PE X (.Call (.Name "list" p2) [.Call (.Name "reversed" p3) [e] [] p4] [] pos) (L0 K te):=by
 subst v;intro g s A H Q I h;refine fq (df I d c z5 ?_ ?a ?a);refine ec ?_ Y Y;refine hc ?_;refine fq (df I f j qa ?_ ?a ?a);refine ec ?_ (by rw[m];rfl) Y;simp only[m];refine hc (gv (p g s A H _ I h) λu s1 ⟨x,H1,f,d,a,B,e1,c,q⟩=>hj ?_);subst e1;cases d;let(J,j,pl,hz):=f.list c;have d:=?lj;have lt:a<?ss1:=by let(o,_,e,_):=pl;exact b6 e
 refine call_reversed_list pl.isList ?_;refine hj ?_;have d:(s1.heap.push (revObj a ((?wJ) - 1))).IsRevIter ?ss1 a ((?wJ) - 1):=(_,b_ _ Y,Y,Y)
 refine S_ (I.ok.hd n) d (pl.isList.push _) (cb lt) (by rw[b7];simp_all) λh' tk m c' n c d=>?_;rw[S4 d]at c;have keep:=λb o e=>n b o (cb (b6 e)) (aw _ e);have d:?ss1<=(s1.heap.push (revObj a ((?wJ) - 1))).objs.size:=by rw[fN];exact h0 _
 refine(.ref _,_,f.laid (t':=tk) (o:=.lst B.reverse) keep d (?x,J.reverse,c',j.rev,c),Y,q _ (f.hok.fresh d))
end
noncomputable def bc(ys:U c3):c3:=⟨((ys.map λy=>y.cps.1).flatten).toArray⟩
theorem nq{a b:c3}(h:a.cps.1=b.cps.1):a=b:=by
 cases a;simp_all
theorem eD(a b:c3):(a++b).cps.toList=a.cps.1++b.cps.1:=by
 exact Array.toList_append
theorem PL{ys:U c3}(h:az (ys.map V.str) us):StrsAre us ys:=by
 induction ys generalizing us with
 |nil=>cases h;exact .nil
 |cons y ys a=>cases h with
  |cons r t=>
   let(k,Y):=(show ∃t,_=nk y t from r)
   exact .cons y k (a t)
section
variable(K:bI)
theorem WA(h:zzp (X.K=K) zz0):zG X "str.join" (λx vs H Q=>∃(z:c3)(p:a_)(ys:U c3),x = .str z/\vs=[.ref p]/\eb K H p (ys.map V.str)/\(ys.map (·.length)).sum+?lys * ?lz<=16777216/\Q (.str (Txt.join z ys)) H):=by
 subst h;intro g s A H x vs v us Q I a b c;let(z,p,ys,Y,Y,d,hz,q):=c;let(t,Y):=a;let(u,Y,a):=b.one;cases a;let(J,r',pl,_):=I.list d;exact join_list pl.isList (by simpa using PL r') hz λt' k=>(.str _,H,I.tok _,⟨_,Y⟩,q)
end
theorem V3:("" : c3).cps.toList=[]:=Y
theorem xn:∀ys:U c3,(Hr "" ys).cps.toList=(ys.map λy=>y.cps.1).flatten
 |[]=>rfl
 |[x]=>by simp[Hr]
 |x::y::r=>by
  show ((x++(""))++Hr "" (y::r)).cps.toList=_;simp only[eD,eD,xn (y::r),V3,f2];rfl
theorem mh(ys:U c3):Txt.join "" ys=bc ys:=by
 exact (ϓ _ _).trans (nq (xn ys))
theorem ie(ys:U c3):(bc ys).cps.toList=(ys.map λy=>y.cps.1).flatten:=Y
theorem i6(ys:U c3):(bc ys).length=(ys.map (·.length)).sum:=by
 show (bc ys).cps.size=_;simp only[<-ee,ie,List.length_flatten,d_];rfl
theorem RF(a b:U c3):bc (a++b)=bc a++bc b:=by
 apply nq;simp only[eD,ie,ie,ie,b3,k']
def I3(hi:cs)(n:b8):It:=(λi _=>i<n,λi H x N=>N=H/\x = .int (hi - i),λi _=>n<=i)
theorem Κ(it:a_)(hi:cs)(n:b8):fM Ab w K tg (I3 hi n) [it] it (λi h=>MJ h it (hi+(i:b8) * (-1)) ((n:cs) - (i:b8)) (-1)) where
 mem:=?s
 obj:=λi h st b a=>by
  simp_all
 keep:=λi h h' st k=>k it ?s _ st
 item:=by
  intro X f j m p i g s A H on I d st q;subst f j m;let(u,x,C,y,z,B):=d it ?s;refine (HA (prog:=X.1) (w:=X.w) (I.ok.hd p) it hi (-1) n).item i s _ _ q st λv h' tk D c kk=>?_;let(t,Y):=D;have D:Inv X g A H { s with heap:=h',toks:=tk }:=I.turned (λb o a e=>kk b o (by simpa using a) e) u x y z B;refine(1,kB c Y Y ?a (.int (hi - i),H,D,(t,?_),(Y,Y),c,λb a=>(d b a).1))
  grind
 done:=by
  intro X f j m p i g s A H on I d st q;subst f j m;let(u,x,C,y,z,B):=d it ?s;exact Fl (I.ok.hd p) st (by have:n<=i:=q;lia) λh' D=>(Y,I.turned (t':=s.4) (λb o a e=>D b o a e) u x y z B)
 self:=λ_ _ _ _ _ st h=>Fm st h
theorem zW(a b:cs):kn a b (-1)=if b<a then a - b else 0:=by
 delta kn
 simp_all
theorem ZA{a b:cs}(c : -(2 ^ 62)<=a)(c:a<2 ^ 62)(c : -(2 ^ 62)<=b)(c:b<2 ^ 62):up a b (-1)=bm:=by
 delta up
 rw[zW];simp only[Im,eB,m6,g1,show ¬ ((-1) > 0) by decide,J5]
 grind
inductive NJ(R:It->Hp->Prop)(vs:U V)(H1:Hp):Prop
 |i(i j:cs)(_:vs=[.int i,.int j,.int (-1)])(_:(-(2 ^ 61)<=i/\i<2 ^ 61/\-(2 ^ 61)<=j/\j<2 ^ 61))(_:R (I3 i (i - j).toNat) H1)
def WB(ta:TA):TI:=λA H R=>ta A H λvs H1=>NJ R vs H1
theorem OX{R:It->Hp->Prop}{hi:cs}{t u v:GZ}(I:Inv X g A H s)(h1 : -(2 ^ 62)<=hi)(h2:hi<2 ^ 62)(a : -(2 ^ 62)<=lo)(c:lo<2 ^ 62)(q:R (I3 hi (hi - lo).toNat) H):dy ?m X.A (Fk (.ref ?ss)) (Ku X g A tg R) on { s with heap:=s.heap.push { cls:=.type "range",data:=.fields #[.int hi t,.int lo u,.int (-1) v] },toks:=tk }:=by
 refine Hd (y_ ..) (ZA h1 h2 a c) ?_;have a:Inv X g A H { s with heap:=s.heap.push { cls:=.type "range",data:=.fields #[.int hi t,.int lo u,.int (-1) v] },toks:=tk }:=I.kept λb o e=>aw _ e;refine((s.heap.push { cls:=.type "range",data:=.fields #[.int hi t,.int lo u,.int (-1) v] }).objs.size,[(s.heap.push { cls:=.type "range",data:=.fields #[.int hi t,.int lo u,.int (-1) v] }).objs.size],_,_,H,Y,
  a.kept (t':=tk) λb o e=>aw _ e,Κ _ hi (hi - lo).toNat,?_,λb c=>?_,q)
 ·have e1:hi+((0:b8):cs) * (-1)=hi:=?s
  have d:(((hi - lo).toNat:b8):cs) - ((0:b8):cs)=kn hi lo (-1):=by rw[zW];split <;> lia
  simp only[e1,d];exact b_ _ Y
 ·have e:b=(s.heap.push { cls:=.type "range",data:=.fields #[.int hi t,.int lo u,.int (-1) v] }).objs.size:=by simpa using c
  subst e;exact a.fpOk (b2 _) (a.hok.fresh (b2 _))
theorem WU{a b c:f3}{ta:TA}(f:Gl X "range")(m:X.mg "range" =bd)(n:PA X [a,b,c] ta)(d:zzp (cH [a,b,c] X.10=[(zzq b1 (eval a X.10)),(zzq b1 (eval b X.10)),(zzq b1 (eval c X.10))]) zz0)(d:zzp (cH [b,c] X.10=[(zzq b1 (eval b X.10)),(zzq b1 (eval c X.10))]) zz0):PI X tg (.Call (.Name "range" p) [a,b,c] [] pos) (WB ta):=by
 intro g s A H R I h;refine uB (df I f m CH (ec (gv (n pos g s A H _ I h) λus s1 ⟨vs,H1,m,n,f⟩=>?_) ?x (by rw[d];rfl)));let(i,j,e,(f,d,u,v),q):=f;subst e;cases n with
 |cons r d=>
  cases d with
  |cons r' d=>
   cases d with
   |cons f d=>
    cases d;let(t,Y):=r;let(t',Y):=r';let(d,Y):=f;exact call_range_3 ?a (OX m ?l ?l ?l ?l q) (oe (wk (Nat.le_add_left _ _)))
theorem RG{fr:U (b5 b8)}(Pv:b8->U V->Hp->Prop)(g:Pv 0 [] H)(h:∀i acc H,i<=n->Pv i acc H->?lacc<=i)(hz:n<=bT)(j:∀i acc H,i<n->Pv i acc H->Ac (.int (lo - i)) (stC fr A) H λa H2=>Wk (stC fr A) a/\tc a H2 λb d=>
   if b=bm then te a d λy f=>∃c,c<n - i/\CW n Pv (i+1) c (acc++[y]) f else ∃c,c<n - i/\CW n Pv (i+1) c acc d)(hd:∀acc H,Pv n acc H->Qe acc H):
  ∃W:b8->b8->U V->Hp->Prop,(∃m,W 0 m [] H)/\∀i m acc H,W i m acc H->
   ((I3 lo n).stop i H/\Qe acc H)\/
   ((I3 lo n).go i H/\?lacc<bT/\∀x N,(I3 lo n).yld i H x N->Ac x (stC fr A) N λa H2=>Wk (stC fr A) a/\tc a H2 λb d=>
    if b=bm then te a d λy f=>∃c,c<m/\W (i+1) c (acc++[y]) f else ∃c,c<m/\W (i+1) c acc d):=by
 refine(CW n Pv,(n,?s,ej _,g),?_);rintro i m acc H ⟨rfl,hi,p⟩;have a:=h i acc H hi p;by_cases a:i<n
 ·refine .inr (a,?l,λx N y=>?_);let(e,y):=y;subst e y;exact j i acc _ a p
 ·have e:i=n:=?l
  subst e;exact .inl (b2 _,hd acc H p)
def Vh(K:bI)(ta:TE):TT:=λA H Q=>ta A H λx N=>∃k,qL K x N k/\Q k N
theorem TY(K:bI){a:f3}(c:PE X a ta)(h:zzp (X.K=K) zz0)(d:zzp (∀b,isTrue a X.10 b=(do let v <-b;pU a.pos;ms [v] (Fi v))) zz2):PT X a (Vh K ta):=by
 subst h;exact Ui c d
structure FD(X:Cx)(e:f3)(t:TE):Prop where
 h:PE X e t
structure G3(X:Cx)(b:U eo)(t:TS):Prop where
 h:t2 X b t
structure HQ(X:Cx)(es:U f3)(t:TA):Prop where
 h:PA X es t
section
variable{a b:f3}{j:TE}{d:TA}{g n s:U eo}{u f m q:TS}
theorem gM:HQ X [] fD:=⟨dJ⟩
theorem aS(a:PE X e te)(b:HQ X es d)(c:zzp (cH (e::es) X.10=(zzq b1 (eval e X.10))::cH es X.10) zz0):HQ X (e::es) (fe te d):=⟨aJ a b.h c⟩
theorem im(h:HQ X es d):FD X (.List es pos) (L8 d):=⟨bO h.h⟩
theorem mM{r:R2}(c:G7 X r)(d:FD X a ta)(e:PE X b j)(f:nO b):FD X (.Subscript a b pos) (Ez r ta j):=⟨mL c d.h e f⟩
theorem Ji(h:PE X e te):FD X e te:=⟨h⟩
theorem zo(a:FD X e te)(b:HQ X es d)(c:zzp (cH (e::es) X.10=(zzq b1 (eval e X.10))::cH es X.10) zz0):HQ X (e::es) (fe te d):=⟨aJ a.h b.h c⟩
theorem Zb{c:b8}(h:HQ X es d):FD X (.Tuple es c pos) (Mg d):=⟨bP h.h⟩
theorem mP{op:u4}{r:R2}(c:l6 X (i' op) r)(d:FD X a ta)(e:FD X b j):FD X (.BinOp a op b pos) (Ez r ta j):=⟨aq c d.h e.h⟩
theorem mO(K:bI)(j:PE X a ta)(m:PA X (e::es) d)(h:zzp (X.K=K) zz0)(c:zzp (h9 a "join" X.10 (eval a X.10)=eval a X.10) zz0)(g:zzp (((gx cpos (cH (e::es) X.10)).all (λx=>!x.1) && (n1 cpos (j2 [] X.10)).all (λx=>x.1.isSome)
   && decide ((e::es).length+([]:U q').length+(if ([]:U q').isEmpty then 0 else 1)<30))=bm) zz0)(f:zzp ((apos.3 ==cpos.1)=bm) zz0)(n:zzp (cH (e::es) X.10=(zzq b1 (eval e X.10))::cH es X.10) zz0)(b:zzp ((gx cpos (cH es X.10)).any (·.1)=b1) zz0):
  FD X (.Call (.Attribute a "join" apos) (e::es) [] cpos) (K0 K "str" (λx vs H Q=>∃(z:c3)(p:a_)(ys:U c3),x = .str z/\vs=[.ref p]/\eb K H p (ys.map V.str)/\(ys.map (·.length)).sum+?lys * ?lz<=16777216/\Q (.str (Txt.join z ys)) H) ta d):=⟨bX K F.plainAttrs_str F.slot_str_join F.type_str_join (WA K h) j m h c g f n b⟩
theorem bi(h1:PS X st u)(h2:G3 X g f):G3 X (st::g) (f9 u f):=⟨ak h1 h2.h⟩
theorem pR(h1:PS X st u):G3 X [st] u:=⟨aj h1⟩
theorem iM(a:FD X e te):G3 X [.Return (O e) pos] (LI te):=⟨aj (ay a.h)⟩
theorem mU(i:b8)(a:X.N.Nodup)(b:FD X e te)(c:G3 X g f)(hi:zzp (X.N[i]?=O x) zz0)(d:zzp (Loc X.env.1 x) zz4)(h:zzp (mX e (O (.Name x pos')) pos.1 X.10=hl b1) zz0)(j:zzp (X.fn x=bm\/X.env.scope.names.lookup x=O .local) zz3):G3 X (.Assign [.Name x pos'] e pos::g) (f9 (jR te (eF i)) f):=
 ⟨ak (zN a hi d b.h h j) c.h⟩
theorem zO(a:PT X e tc)(b:G3 X n m)(c:G3 X g f):G3 X (.If e n [] pos::g) (f9 (nu tc m lx) f):=⟨ak (aI a b.h aK) c.h⟩
end
theorem gz{b:U eo}{R:TS->Prop}(h:∃t,G3 X b t/\R t):∃t,t2 X b t/\R t:=by let(t,h1,h2):=h;exact(t,h1.h,h2)
section
open PySem.W
noncomputable def mt(B:fK b0)(c:b8):hg:={ cls:=.type "list",dict:=bd,data:=.seq B c,slots:=#[] }
def Kp(wr:U a_)(S:a_)(h h':fy):Prop:=∀b o,b∉wr->b≠S->h.get? b=O o->h'.get? b=O o
noncomputable def La:{Ah:gV->hX // Ah "max" =ϔ/\Ah "min" =ϕ}:=(1,Y)
noncomputable def Jg:{Ah:gV->CmpOp->hX // Ah "max" .Gt=hX.«max.loop»/\Ah "min" .Lt=hX.«min.loop»}:=(1,Y)
section
variable{S:a_}{P:b8->b0->Prop}{a:b8->fy->Prop}
theorem Xt{Af:gV}(p:toString nm++toString ".loop" =Af)(B:oL Ep Af=O (Jg.1 nm op))(pl:sD Af=bm)(W:Walks prog w Aa.in1 I fp wr n P a)(C:MR prog w Aa.in1 op P bt)(m:S∉fp):∀(k j:b8)(s:b')(g:b0)(c:b8),n=j+1+k->a (j+1) s.1->P (ih bt j) g->s.heap.get? S=O (mt #[g,g] c)->
  (∀v h' tk,P (ih bt (n - 1)) v->Kp wr S s.1 h'->R (.ok (.ret v)) { s with heap:=h',toks:=tk })->lp (ds prog w) Aa (.builtin Af ([.ref I,.none,.ref S],kw)) R s:=by
 subst p;have p:=λz=>m (W.sub _ z);intro k;induction k with
 |zero=>
  intro j s g c y st A x d;refine f7 B ?_;rw[hA pl _];refine al (fA x Y ?_);refine al (mv (W.done s _ _ (y ▸ st) λh' tk q=>?_));have f:=q S _ p x;refine al (hP f Y (al (ml (b4 ?_))));exact d g _ tk (y ▸ A) λb o h u e=>(e7 _ _ (fU u)).trans (q b o h e)
 |succ k E=>
  intro j s g c y st A x d;refine f7 B ?_;rw[hA pl _];refine al (fA x Y ?_);show dy _ Aa.in1 (zA (tryCatch (sk (.ref I)) _) _) _ _ s;refine al (mv (W.item (j+1) s _ _ ?x st λv h' tk pv y q=>?_));have f:=q S _ p x;show dy _ Aa.in1 (zA (tryCatch (ms [v,v] (zA (richCompare op v g) _)) _) _) _ _ _;refine al (mv (e6 (al (C (j+1) (ih bt j) v g _ _ _ pv A ?_))));refine al (e6 (gd (al (ml (b4 ?_)))));cases G:bt (j+1) (ih bt j) with
  |true=>
   refine al (hP f Y (al (ml ?_)));have x:=W.frame _ _ (Io h' S (et λ_=>#[v,v])) y λb h o e=>(e7 h' _ (show S≠b from λz=>m (z ▸ h))).trans e;have B:P (ih bt (j+1)) v:=by simp only[ih,G];exact pv
   exact b4 (hm pl _,E (j+1) _ v _ ?l x B (f5 _ f Y) λC h2 m D p=>d C h2 m D λb o h u e=>p b o h u ((e7 _ _ (fU u)).trans (q b o h e)))
  |false=>
   refine al (ml ?_);have B:P (ih bt (j+1)) g:=by simp only[ih,G];exact A
   exact b4 (hm pl _,E (j+1) _ g c ?l y B f λC h2 m D p=>d C h2 m D λb o h u e=>p b o h u (q b o h e))
theorem XT{Af:gV}(h:toString nm++toString ".loop" =Af)(q:oL Ep Af=O (Jg.1 nm op))(pl:sD Af=bm)(W:Walks prog w Aa.in1 I fp wr n P a)(y:MR prog w Aa.in1 op P bt)(d:S∉fp)(pos:0<n){c:b8}(st:a 0 s.1)(j:s.heap.get? S=O (mt #[] c))(f:∀v h' tk,P (ih bt (n - 1)) v->Kp wr S s.1 h'->R (.ok (.ret v)) { s with heap:=h',toks:=tk }):lp (ds prog w) Aa (.builtin Af ([.ref I,.none,.ref S],kw)) R s:=by
 subst h;refine f7 q ?_;rw[hA pl _];refine al (fA j Y ?_);refine al (mv (W.item 0 s _ _ pos st λv h' tk pv h u=>?_));have g:=u S _ (λz=>d (W.sub _ z)) j;show dy _ Aa.in1 (zA (updateSeq S (λ_=>#[v,v])) _) _ _ _;refine al (hP g Y ?_);have j:=W.frame _ _ (Io h' S (et λ_=>#[v,v])) h λb h o e=>(e7 h' _ (show S≠b from λz=>d (z ▸ h))).trans e;exact b4 (hm pl _,Xt Y q pl W y d (n - 1) 0 _ v _ ?l j pv (f5 _ g Y) λA h2 m B p=>f A h2 m B λb o h x e=>p b o h x ((e7 _ _ (fU x)).trans (u b o h e)))
theorem Oj{Af:gV}(g:toString nm++toString ".loop" =Af)(h:oL Ep Af=O (Jg.1 nm op))(pl:sD Af=bm)(W:Walks prog w Aa.in1 I fp wr 0 P a)(f:S∉fp){c:b8}{k:c3}{d:b0}(st:a 0 s.1)(j:s.heap.get? S=O (mt #[] c))(f:∀h' tk,Kp wr S s.1 h'->R (.ok (.ret d)) { s with heap:=h',toks:=tk }):lp (ds prog w) Aa (.builtin Af ([.ref I,.none,.ref S],[(zzq k d)])) R s:=by
 subst g;refine f7 h ?_;rw[hA pl _];refine al (fA j Y ?_);refine al (mv (W.done s _ _ st λh' tk g=>?_));refine al (oT ?_);exact b4 (f h' tk λb o f _ e=>g b o f e)
end
section
variable{l:a_}{c:fK (cs×GZ)}{d:b0}
theorem Wx{Af:gV}(g:Go nm=bd)(pn:sD nm=bm)(j:oL Ep nm=O (La.1 nm))(m:∀a d,Hk nm ([a],[(zzq (q0 "default") d)]))(f:toString nm++toString ".loop" =Af)(q:oL Ep Af=O (Jg.1 nm op))(pl:sD Af=bm)(u:MR prog w Aa.in1 op (λi v=>(s3 c)[i]?=O v) bt)(n:Aa.1=bd)(x:s.heap.IsList l (s3 c))(one:∀v h' tk,0<?ec->(s3 c)[ih bt (?ec - 1)]?=O v->(∀b o,s.heap.get? b=O o->h'.get? b=O o)->Q v { s with heap:=h',toks:=tk })(h:∀h' tk,?ec=0->(∀b o,s.heap.get? b=O o->h'.get? b=O o)->Q d { s with heap:=h',toks:=tk }):
  dy (ds prog w) Aa (qB (.builtin nm) [.ref l] [(zzq (q0 "default") d)]) Q on s:=by
 subst f;have f:(s3 c).size=?ec:=by simp[s3]
 refine kmk_tree g pn j (m _ _) ?_;refine al (sr (show GJ nm ["key","default"] 0 ([],[(zzq (q0 "default") d)])=hl [bd,O d] from Y) (al (b4 (al (iter_intList x λg e st j ne=>?_)))));subst e;refine al (nn ?_ (ej _));have W:=n2 (prog:=prog) (w:=w) (A:=Aa.in1) n ?ss l ne (s3 c);have g:=λz=>fS _ (j _ z);have j:∀{h':fy},Kp [?ss] (s.heap.push { cls:=.type "list_iterator",data:=.fields #[.ref l,.int 0 0] }).objs.size ((s.heap.push { cls:=.type "list_iterator",data:=.fields #[.ref l,.int 0 0] }).push (mt #[] 0)) h'->
   ∀b o,s.heap.get? b=O o->h'.get? b=O o:=λm b o e=>by
  have lt:=b6 e;refine m b o (by simpa using cb lt) (λz=>?_) (aw _ (aw _ e));simp only[z,fN]at lt;exact cx (hy (f_ _) lt) (fS _)
 have n:=W.frame 0 _ ((s.heap.push { cls:=.type "list_iterator",data:=.fields #[.ref l,.int 0 0] }).push (mt #[] 0)) st λb _ o e=>aw _ e;refine b4 (hm pl _,?_);by_cases pos:0<?ec
 ·exact XT Y q pl W u g (f ▸ pos) n (b_ _ Y) λv h' tk p m=>one v h' tk pos (f ▸ p) (j m)
 ·have u:?ec=0:=?x
  simp only[f,u]at W;exact Oj Y q pl W g n (b_ _ Y) λh' tk m=>h h' tk u (j m)
end
section
variable(K:bI)
theorem Qf(r:az (ns.map V.int) J):∃ws:fK (cs×GZ),?aJ=s3 ws/\ns=ws.toList.map (·.1):=by
 have hi:=mf r;let(ws,e):=hi.allInts.items;refine(ws,e,?_);have a:=hi.numsOf;have a:=tw ws;rw[<-e]at a;simp_all
inductive Kz(r:cs->cs->Prop)(B:U V)(d:V)(H:Hp)(Q:VK):Prop
 |i(p:a_)(ns:U cs)(_:B=[.ref p])(_:eb K H p (ns.map V.int))(_:(ns=[]->Q d H))(_:∀M:cs,M∈ns->(∀a∈ns,r a M)->Q (.int M) H)
abbrev zS(K:bI):=Kz K (·<=·)
abbrev zT(K:bI):=Kz K λa b=>b<=a
def nG(X:Cx)(id:gV)(k:c3)(r:U V->V->Hp->VK->Prop):Prop:=
 ∀(g:U (a_×hg))(s:b')(A:St)(H:Hp)(B:U V)(us:U b0)(d:V)(a:b0)(Q:VK),Inv X g A H s->az B us->aB d a->r B d H Q->
  dy ?m X.A (qB (.builtin id) us [(zzq k a)]) (EP X g A Q) X.xe s
theorem wG{r:cs->cs->Prop}{Af:gV}{bt:(b8->cs)->b8->b8->eg}(w:Go nm=bd)(pn:sD nm=bm)(x:oL Ep nm=O (La.1 nm))(y:∀a d,Hk nm ([a],[(zzq (q0 "default") d)]))(z:toString nm++toString ".loop" =Af)(b:oL Ep Af=O (Jg.1 nm op))(pl:sD Af=bm)(C:∀{Ab:b8->b0->Prop}(val:b8->cs),(∀i v,Ab i v->∃t,v = .int (val i) t)->MR X.1 X.w X.A.in1 op Ab (bt val))(D:∀f n,ih (bt f) n<=n/\∀j,j<=n->r (f j) (f (ih (bt f) n)))(E:X.15=bm)(h:X.K=K):nG X nm "default" (Kz K r):=by
 subst h;intro g s A H B us d c Q I c G m;let(p,ns,Y,L,M,q):=m;let(u,Y,m):=cA c;cases m;let(J,r,c,hz):=I.list L;let(ws,e,m):=Qf r;refine Wx w pn x y z b pl (C (l8 ws) λ_ _=>x4) (I.ok.hd E) (e ▸ c.isList) (λv h' tk pos c b=>?_) (λh' tk w b=>(d,H,I.kept (t':=tk) b,G,M ?_))
 ·let(t,Y):=x4 c;let(h1,h2):=D (l8 ws) (?ews - 1);refine(.int _,H,I.kept (t':=tk) b,(t,Y),q _ ?_ λa c=>?_)
  ·rw[m,ss];exact getD_mem (by simp only[ai,ee];omega)
  ·rw[m]at c;let(j,m,Y):=J3 c;simp only[ai,ee]at m;rw[<-ss];exact h2 j (ri ‹_›)
 ·grind
theorem YV(a:X.15=bm)(h:zzp (X.K=K) zz0):nG X "max" "default" (zS K):=wG K F.kind_max F.plain_max F.entry_max (λ_ _=>rfl) ?a F.entry_max_loop F.plain_max_loop CmpOf.ints_gt ϐ a h
theorem Qm(a:X.15=bm)(h:zzp (X.K=K) zz0):nG X "min" "default" (zT K):=wG K F.kind_min F.plain_min F.entry_min (λ_ _=>rfl) ?a F.entry_min_loop F.plain_min_loop CmpOf.ints_lt ϑ a h
variable{m:gV}{k:c3}{c:TA}{r:U V->V->Hp->VK->Prop}
def Yk(r:U V->V->Hp->VK->Prop)(c:TA)(td:TE):TE:=λA H Q=>c A H λvs H1=>td A H1 λd H2=>r vs d H2 Q
theorem zp(f:nG X m k r)(j:Gl X x)(n:X.mg x=bd)(q:ln x=O (.builtin m))(u:PA X (e::es) c)(hd:PE X ed td)(v:zzp (x ≠ "__name__" ) zz1)(a:zzp ((x ==("__debug__" : c3))=b1) zz1)(w:zzp (gx pos (cH (e::es) X.10)=(zzq b1 (eval e X.10))::gx pos (cH es X.10)) zz0)(b:zzp ((gx pos (cH (e::es) X.10)).any (·.1)=b1) zz0):PE X (.Call (.Name x p) (e::es) [(O k,ed,kpos)] pos) (Yk r c td):=by
 intro g s A H Q I h;refine fq (df I j n q ?_ v a);refine mC (gv (u pos g s A H _ I h) λus s1 ⟨vs,H1,a,j,n⟩=>?_) w b Y Y;refine Gu (gv (hd g s1 A H1 _ a n) λa s2 ⟨d,H2,n,b,q⟩=>KC ?_);exact f g s2 A H2 vs us d a Q n j b q
end
end
section
open PySem.W
inductive Zd(x:V)(vs:U V)(H:Hp)(Q:VK):Prop
 |i(a:a_)(E:U (Key×V))(k:Key)(v:V)(_:x = .ref a)(_:vs=[kV k,v])(_:H a=O (.dK E))(_:(∀z,aO E k=O z->Q z H))(_:(aO E k=bd->?lE<bT/\Q v (upd H a (.dK (bQ E k v)))))
theorem tL:zG X "dict.setdefault" Zd:=by
 intro g s A H x vs c us Q I b f d;let(a,E,k,v,Y,Y,e,j,m):=d;cases (show c=eM a from b);let(c,vu,Y,h,d):=f.two;let(z,hd,ws,b,c):=ko I.10 e;have hz:?lws<=bT:=?lb ▸ z;have val:=b.val k;refine rc F.slot_dict_setdefault c.typeIs F.entry_dict_setdefault (F.args_dict_setdefault_3 _ _ _) (kt_meets_setdefault (cy X.1 X.w) a (iH h) hd vu) (ws,c,hz,λu h=>?_,λh h' f n=>?_)
 ·rw[h]at val;cases c:aO E k with
  |none=>rw[c]at val;exact val.elim
  |some y=>
   rw[c]at val;exact(y,H,I.tok _,val,j y c)
 ·rw[h]at val;cases c:aO E k with
  |some y=>rw[c]at val;exact val.elim
  |none=>
   let(l,q):=m c;have c:(bQ E k v).length<=bT:=by have:=pf E k v;exact ce ‹_› ‹_›
   have h:∃q,h'.get? a=O q:=by let(q,_,_,j,_):=f;exact(q,j)
   exact(v,_,lT I (e ▸ ho) n h (km c hd (b.put k d) f),d,q)
theorem qj(h:?lB=?lus)(r:∀(j:b8)(x:V)(u:b0),B[j]?=O x->us[j]?=O u->aB x u):az B us:=by
 induction B generalizing us with
 |nil=>cases us with
  |nil=>exact .nil
  |cons _ _=>cases h
 |cons x B a=>cases us with
  |nil=>cases h
  |cons u us=>exact .cons (r 0 x u Y Y) (a (rs h) λj=>r (j+1))
theorem ur{k:Key}(h:(cy Ab w).is k v=bm):aB (kV k) v:=by
 rcases fT h with⟨rfl,rfl⟩ |⟨i,t,rfl,rfl⟩ |⟨x,t,rfl,rfl⟩
 ·rfl
 ·exact(t,Y)
 ·exact(t,Y)
theorem ye{E:U (κ×V)}{ws:U (κ×b0)}(r:KV E ws)(j:b8):(E[j]?).map (·.1)=(ws[j]?).map (·.1):=by
 induction r generalizing j with
 |nil=>rfl
 |cons h t a=>
  cases j with
  |zero=>exact eG O h.1
  |succ j=>exact a j
inductive Yr(B:U V)(H:Hp)(Q:VK):Prop
 |i(a:a_)(E:U (Key×V))(_:B=[.ref a])(_:H a=O (.dK E))(_:∀l,H l=bd->Q (.ref l) (upd H l (.lst (E.map λkv=>kV kv.1))))
theorem oq(h:X.15=bm):bx X (.type "list") Yr:=by
 intro g s A H B us Q I d b;let(a,E,Y,e,q):=b;let(u,Y,b):=cA d;cases b;let(z,hd,ws,b,m):=ko I.10 e;have f:=?lb;let(ep,d):=m.dictAt;refine kdl_call (kdl_dict hd) (I.ok.hd h) d ?x λh' tk acc c h Ac it=>?_;have r:az (E.map λkv=>kV kv.1) acc.1:=by
  refine qj (by simp only[ai,f];exact it.1.symm.trans ?yee) λj x u h1 h2=>?_;let(k,y,e1,m):=it.2 j u ?x;have d:j<?lE:=by rw[f];exact (bg.mp e1).1
  simp only[a',ag d]at h1;cases h1;have f:E[j].1=k:=by
   have:=ye b j;rw[e1,ag d]at this
   simp_all
  show aB (kV E[j].1) u;rw[f];exact ur m
 exact(.ref ?ss,_,I.laid (t':=tk) h (b2 _) (show bo X.1 X.w _ h' _ (.lst _) from(?x,acc.1,c,r,?x)),Y,q _ (I.hok.fresh (b2 _)))
end
inductive nE(Ab:f0)(w:gl)(K:bI)(mg:c3->b5 b0)(base:fy)(CX:zH)(k:b8)(x:c3)(ps:U c3)(keys:U c3)(sp:c3->Sp):Prop
 |i(a:a_)(es:fK o7)(n:b8)(_:mg x=O (.ref a))(_:K.lookup a=O (.type "dict",bd,.dict es n,#[]))(_:q1 w.2 es.1)(_:∀y∈keys,∃(f:a_)(fd:i3),lw K a y=O (O (.ref f))/\aN Ab w K mg base CX k f fd ps (sp y)/\hw K (.ref f)=bm/\cp K fd ps [])
inductive V6(keys:U c3)(sp:c3->Sp)(on:XK)(t:TA)(A:St)(Q:VK)(y:V)(H1:Hp):Prop
 |i(x:_)(_:y = .str x)(_:x∈keys)(_:t A H1 λvs H2=>sp x (vs++[]) H2 Q on)
def Sv(keys:U c3)(sp:c3->Sp)(on:XK)(ti:TE)(t:TA):TE:=λA H Q=>ti A H λy H1=>V6 keys sp on t A Q y H1
theorem nE.pe{k:b8}{keys:U c3}{sp:c3->Sp}{on:XK}{sp':FF}{i:f3}{t:TA}(C:nE X.1 X.w X.K X.4 X.5 CX k x ps keys sp)(v:aZ j X.A)(w:c8 CX X on)(hi:PE X i ti)(B:PA X (e::es) t)(D:zzp (k<=j) zz1)(u:zzp (Gl X x) zz0)(E:nL i:=by (intro _ _;rfl))(c:zzp ((x ==("__debug__" : c3))=b1) zz1)(b:zzp (eval (.Call (.Subscript (.Name x p) i sp') (e::es) [] pos) X.10=(do uF pos (<-eval (.Subscript (.Name x p) i sp') X.10) [] (gx pos (cH (e::es) X.10)) (n1 pos (j2 [] X.10)))) zz0)(J:zzp (cH (e::es) X.10=(zzq b1 (eval e X.10))::cH es X.10) zz0)(d:zzp ((gx pos (cH es X.10)).any (·.1)=b1) zz0):
  PE X (.Call (.Subscript (.Name x p) i sp') (e::es) [] pos) (Sv keys sp on ti t):=by
 let(a,N,n,K,m,L,M):=C;intro g s A H Q I h;refine uB (uM so.1 E (gC I u K (gv (hi g s A H _ I h) λN s1 ⟨y,H1,u,E,z,K,hz,q⟩=>?_) c)) b;subst K;let(tk,Y):=E;let(f,fd,E,G,c,K):=M z hz;have b:=E3 (prog:=X.1) u.kIn m L;refine(b.typeIs,w4 (t8 X.1 X.w z tk) b (W.find_K m E) ?_);refine qC I.ok.mod.1 c (gv (B pos g _ A H1 _ (u.tok (s1.4+1)) q) λus s2 ⟨vs,H2,b,r,E⟩=>(b.kIn,?_)) J d;exact m7 G (v.mono D) K .nil w b r E
section
open PySem.NumText
def bq(l:U b8):Prop:=∀c∈l,c=48\/c=49
noncomputable def fO(l:U b8):b8:=l.foldl (λacc c=>acc * 2+(c - 48)) 0
theorem TR{c:b8}(h:c=48\/c=49)(a:fK b8)(b:eg):step 2 (zzq a b) c=O (zzq (a.push (c - 48)) bm):=by
 rcases h with rfl |rfl <;> rfl
theorem we:∀(l:U b8)(a:fK b8)(b:eg),bq l->l.foldlM (step 2) (zzq a b)=O (zzq ((l.map (· - 48)).foldl Array.push a) (b || !l.isEmpty))
 |[],a,b,_=>?s
 |c::r,a,b,h=>by
  rw[List.foldlM_cons,TR (h c ea)];show r.foldlM (step 2) (zzq (a.push (c - 48)) bm)=_;rw[we r _ bm λd hd=>h d (dz _ hd)];simp
theorem UC{l:U b8}(h:bq l)(a:l≠[]):digits? 2 l=O (l.map (· - 48)).toArray:=by
 unfold digits?;rw[we l _ _ h]
 grind
theorem wf{l:U b8}(h:bq l)(p:b8->eg)(a:p 48=b1)(h1:p 49=b1):l.dropWhile p=l:=by
 cases l with
 |nil=>rfl
 |cons c r=>
  have:p c=b1:=by rcases h c ea with e |e <;> rw[e] <;> assumption
  simp_all
theorem Ps{l:U b8}(h:bq l):bq l.reverse:=λc a=>h c (t0.mp a)
theorem We{l:U b8}(h:bq l):sign l=(zzq b1 l):=by
 cases l with
 |nil=>rfl
 |cons c r=>rcases h c ea with e |e <;> rw[e] <;> rfl
theorem Zh{l:U b8}(h:bq l):based 2 l=(zzq 2 (zzq b1 l)):=by
 match l,h with
 |[],_=>rfl
 |[c],h=>rcases h c ea with e |e <;> rw[e] <;> rfl
 |c::d::r,h=>
  rcases h c ea with e |e <;> rcases h d (dz _ ea) with a |a <;> rw[e,a] <;> rfl
theorem Vx(l:U b8)(a:b8):(l.map (· - 48)).foldl (λacc d=>acc * 2+d) a=l.foldl (λacc c=>acc * 2+(c - 48)) a:=by
 rw[List.foldl_map]
theorem WJ{l:U b8}(h:bq l)(a:l≠[]):(int_private% "readNumeral") 0 2 l=(int_private% "Numeral.value") (fO l:cs):=by
 rw[readNumeral_eq,wf h blank Y Y,We h];rw[Zh h];simp only[wf (Ps h) blank Y Y,List.reverse_reverse,UC h a];show (int_private% "Numeral.value") (((l.map (· - 48)).toArray.foldl (λacc d=>acc * 2+d) 0:b8):cs)=_;rw[List.foldl_toArray,Vx];rfl
theorem wg:∀{l:U b8},bq l->l.takeWhile (· !=0)=l
 |[],_=>rfl
 |c::r,h=>by
  have:(c !=0)=bm:=by rcases h c ea with e |e <;> rw[e] <;> rfl
  rw[List.takeWhile_cons,this,d6 Y,wg λd hd=>h d (dz _ hd)]
theorem Oo(a b:b0):checkTypeCall "int" ([a,b],[])=hl ():=?r
theorem QK(a b:b0):checkBuiltinCall "int.__new__" ([.type "int",a,b],[])=hl ():=by kernel_rfl
structure UK(p:Prop):Prop where
 out:p
theorem UY{l:U b8}(c:bq l)(b:l≠[])(a:?ll<=640)(h:Q (.int (fO l) s.4) { s with toks:=s.4+1 }):
  dy M Aa ((int_private% "intFromText") v l 2) Q on s:=by
 have d:=wg c;have a:=WJ c b;rw[<-d]at a;have a:(int_private% "readNumeral") 0 2 (l.takeWhile (· !=0))=(int_private% "Numeral.value") (fO l):=by rw[a,d]
 repeat (any_goals (first |assumption | (with_reducible refine s4 (dg b) ?_) | (with_reducible refine s4 (dg c) ?_) |wp_step))
 all_goals (try rw[a])
 repeat (any_goals (first |assumption | (with_reducible refine s4 (dg b) ?_) | (with_reducible refine s4 (dg c) ?_) |wp_step))
theorem Fh{z l:U b8}(e:z=l)(b:bq l)(a:l≠[])(c:?ll<=640)(h:Q (.int (fO l) s.4) { s with toks:=s.4+1 }):
  dy M Aa ((int_private% "intFromText") v z (Int.toNat 2)) Q on s:=by
 subst e;exact UY b a c h
theorem Wa{x:IS}{u t:GZ}(f:bq x.cps.1)(a:x.cps.1≠[])(j:?lx<=640):Gives (hX.«int.__new__» ([.type "int", .str x u,.int 2 t],[])) (.int (fO x.cps.1)):=
 .of_wp λM Aa on s Q h=>by
  let(b,Ac,d,tk,os):=s;have b:=F.conv_sub_int;have b:=F.madeHere_int;have b:Fu (.str x u)=hl (.type "str"):=Y;have m:x.cps.all (· < 128)=bm:=by
   rw[Array.all_eq_true_iff_forall_mem];intro c b;rcases f c (CI.mpr b) with e |e <;> rw[e] <;> rfl
  have b:?lx.cps.toList<=640:=by rw[ee];exact j
  have g:=UK.mk (Gv f (Gv a b));clear f a j b
  repeat (any_goals (first |assumption | ((with_reducible show dy _ _ ((int_private% "intFromText") _ _ _) _ _ _);refine Fh (d6 m) g.out.1 g.out.2.1 g.out.2.2 ?_) |wp_step))
  all_goals first |exact(1,h) |skip
inductive Zu(B:U V)(H:Hp)(Q:VK):Prop
 |i(z:c3)(_:B=[.str z,.int 2])(_:bq z.cps.1)(_:z.cps.1≠[])(_:?lz<=640)(_:Q (.int (fO z.cps.1)) H)
theorem N5:bx X (.type "int") Zu:=by
 intro g s A H B us Q I r h;let(z,Y,d,c,e,q):=h;let(a,b,Y,(t,Y),(k,Y)):=r.two;refine callType_new F.called_int F.newNe_int (Oo _ _) (QK _ _) (λobj=>Fz obj _ _) F.entry_int_new (Wa d c e).meets ?_;exact (show (Made.int (fO z.cps.1)).post _ s from(Y,(.int _,H,I.tok _,⟨_,Y⟩,q)))
theorem wR(c:b8):∀l:U b8,IT c l=((l.count c:b8):cs)
 |[]=>rfl
 |n::r=>by
  rw[IU,wR c r,List.count_cons];by_cases e:n=c
  ·subst e;simp;omega
  ·have:(n ==c)=b1:=by simpa using e
   simp_all
theorem LO(x:IS)(c:b8):Txt.count x ⟨#[c]⟩=((x.cps.toList.count c:b8):cs):=(IV x c).trans (wR c x.cps.1)
theorem yx:zG X "str.count" (λx vs H Q=>∃z y:c3,x = .str z/\vs=[.str y]/\Q (.int (Txt.count z y)) H):=by
 intro g s A H x vs v us Q I a b h;let(z,y,Y,Y,q):=h;let(t,Y):=a;let(u,Y,(k,Y)):=b.one;exact SC.count (.int _,H,I.tok _,⟨_,Y⟩,q)
inductive Pk(x:V)(lo:b5 cs)(hi:b5 cs)(H:Hp)(Q:VK):Prop
 |i(z:c3)(a b:b8)(_:x = .str z)(_:lo=O (a:cs))(_:hi=O (b:cs))(_:a<=b)(_:b<=?lz)(_:?lz<=bT)(_:Q (.str ⟨((z.cps.toList.drop a).take (b - a)).toArray⟩) H)
theorem YT(z:c3){a b:b8}(c:a<=b)(d:b<=?lz):Txt.slice z (O (a:cs)) (O (b:cs))=⟨((z.cps.toList.drop a).take (b - a)).toArray⟩:=by
 delta Txt.slice
 rw[ϖ z c d,ϗ c d]
 split
 ·rename_i h
  have h:b - a=?lz:=by simpa using h
  have c:a=0:=?l
  subst c;rw[h];rw[List.drop_zero,hv (ee ▸ (b2 _))]
 ·rfl
theorem Ld:G9 X Pk:=by
 intro g s A H x v vl vu lo hi sl Q I d e pl f h;let(z,a,b,Y,Y,Y,c,j,hz,q):=h;let(t,Y):=d;obtain⟨ta,rfl⟩:∃ta,vl = .int (a) ta:=by cases pl;exact⟨_,Y⟩
 obtain⟨tb,rfl⟩:∃tb,vu = .int (b) tb:=by cases f;exact⟨_,Y⟩
 refine("str",_,F.slot_str_getitem.1,Ψ _ _ _,?_);refine wpAny_getItem_str_slice (l:=O (zzq (a) ta)) (u:=O (zzq (b) tb)) (st:=bd) e Y ?_;refine post_val_or_str (ce (Txt.slice_le z (O (a)) (O (b))) hz,λt' k=>(.str _,H,I.tok k,(t',?_),q));show nk (Txt.slice z (O (a)) (O (b))) t'=_;rw[YT z c j]
end
inductive Hy(K:bI)(H:Hp):b8->V->V->Prop
 |flat(d:b8){x:V}(f:bz x=bm):Hy K H d x x
 |lst{d:b8}{p q:a_}{B ys:U V}(a:eb K H p B)(b:eb K H q ys)(c:?lB=?lys)(h:∀(j:b8)(x y:V),B[j]?=O x->ys[j]?=O y->Hy K H d x y):Hy K H (d+1) (.ref p) (.ref q)
 |tup{d:b8}{p q:a_}{B ys:U V}(a:fx K H p B)(b:fx K H q ys)(c:?lB=?lys)(h:∀(j:b8)(x y:V),B[j]?=O x->ys[j]?=O y->Hy K H d x y):Hy K H (d+1) (.ref p) (.ref q)
theorem lE(r:az B J)(h:j<?wJ):∃x,B[j]?=O x/\aB x ?aJ[j]:=by
 have b:=?lr;rw[b7]at h;let(a,b,c):=r.get (i:=j) (x:=B[j]' ?o) ?s;refine(B[j]' ?o,?s,?_);have:J[j]?=O J[j]:=?s
 rw[this]at b;have e:=c_ b;show aB _ J[j];rw[e];exact c
theorem nZ(n:b8):(da n).all (λ_=>bm)=bm:=?s
theorem Pa(I:Inv X g A H s){d:b8}{x:V}(h:Hy X.K H d x y):∀{Aa:hB}{u v:b0},aB x u->aB y v->Aa.5+d<m4->u_ Aa s u v bm:=by
 induction h with
 |flat d f=>
  intro Aa u v n w _;have:=jD (Aa:=Aa) (s:=s) n w f f
  rwa[jE f]at this
 |@lst d p q B ys C D N h E=>
  intro Aa u v n w P;cases n;cases w;by_cases e:p=q
  ·subst e;exact ot _
  let(J,r,pl,_):=I.list C;let(c,z,m,_):=I.list D;have l1:=?lr;have l2:=?lz;have:=Ki (A:=Aa) pl.isList m.isList (by rw[b7,b7];omega) ?o (λj h1 h2=>by
   let(a,G,K):=lE r h1;let(b,L,M):=lE z h2;exact E j a b G L K M (by show Aa.5+1+d<m4;omega))
  rw[nZ]at this;exact x_ e this
 |@tup d p q B ys C D N h E=>
  intro Aa u v n w P;cases n;cases w;by_cases e:p=q
  ·subst e;exact ot _
  let(J,r,pl,_):=I.tuple C;let(c,z,m,_):=I.tuple D;have l1:=?lr;have l2:=?lz;have:=Kj (A:=Aa) pl m ?o (λj h1 h2=>by
   let(a,G,K):=lE r h1;let(b,L,M):=lE z h2;exact E j a b G L K M (by show Aa.5+1+d<m4;omega))
  have m:(?wJ ==?wc)=bm:=by rw[b7];simp;omega
  rw[nZ,m]at this;exact x_ e this
inductive W4(K:bI)(x:V)(y:V)(H:Hp)(Q:VK):Prop
 |i(p q:a_)(B ys:U V)(_:x = .ref p)(_:y = .ref q)(_:eb K H p B)(_:eb K H q ys)(_:?lB=?lys)(_:(∀(j:b8)(a b:V),B[j]?=O a->ys[j]?=O b->Hy K H 50 a b))(_:Q (.bl b1) H)
theorem zg(K:bI)(c:X.A.5+64<m4)(c:zzp (X.K=K) zz0):l6 X (eT .NotEq) (W4 K):=by
 subst c;intro g s A H x y v u Q I c d h;let(p,q,B,ys,Y,Y,e,f,n,m,k):=h;cases c;cases d;let(J,r,pl,_):=I.list e;let(d,e,c,_):=I.list f;have l1:=?lr;have l2:=?le;refine v3 (e:=λ_=>bm) pl.isList c.isList (by rw[b7,b7];omega) ?o (λj h1 h2=>?_) X.1 X.w _ _ ?_
 ·let(a,c,d):=lE r h1;let(b,f,n):=lE e h2;exact Pa I (m j a b c f) d n (by show X.A.5+1+50<m4;omega)
 ·rw[nZ];exact(.bl b1,H,I,Y,k)
theorem oV{k:b8}(a:aZ k Aa):Aa.5+64<m4:=by have:=a.3;omega
noncomputable def cj(B:U α)(k:b8)(y:α):U α:=B.take k++y::B.drop k
inductive UX(x:V)(vs:U V)(H:Hp)(Q:VK):Prop
 |i(l:a_)(B:U V)(i:cs)(y:V)(_:x = .ref l)(_:vs=[.int i,y])(_:H l=O (.lst B))(_:0<=i)(_:i<=?lB)(_:?lB<1000000)(_:Q .non (upd H l (.lst (cj B ?ii y))))
theorem Nq(r:az B J)(a:aB y u)(k:b8):az (cj B k y) (cj J k u):=(r.take k).append (.cons a (r.drop k))
theorem TW:JJ X "list.insert" UX:=by
 intro g s A H x vs v us Q I a b h;let(l,B,i,y,Y,Y,c,d,f,hz,q):=h;cases a;let(f,u,Y,a,d):=b.two;let(t,Y):=a;let(z,J,n,r,a,e):=I.lstM c;have a:¬ (!r5 i)=bm:=by
  rw[D' ?l ?l];decide
 have b:?wJ<=bT:=by rw[b7];lia
 refine h_ F.slot_list_insert (_,e,Y) F.entry_list_insert (F.args_list_insert_3 _ _ _) (MS l ?aJ n i t u a b) (e,?_);refine(.non,_,I.lset (its':=cj J ?ii u) c e ?_ (Nq r d ?ii) ?_,Y,q)
 ·show ((J.toArray.extract 0 (if i<0 then (i+(?wJ)).toNat else min ?ii ?wJ)).push u++J.toArray.extract (if i<0 then (i+(?wJ)).toNat else min ?ii ?wJ))=(cj J ?ii u).toArray;have a:(if i<0 then (i+(?wJ)).toNat else min ?ii ?wJ)=?ii:=by
   rw[du ?l,b7];lia
  rw[a];simp[cj];rw[hv ?s]
 ·show (cj B ?ii y).length<=bT
  delta cj
  simp only[cc,d8,e_,he,e2]
  lia
inductive Ks(Ah:fy)(l:U u2)(e:a_)(cls a:b0)(h:fy):Prop
 |i(b:_)(_:Ah.StaysIn h)(_:Ah.get? e=bd)(_:h.FunFrames Ah l)(_:h.TracedAtW Ah e cls a b)
section
variable{B:fy}{l:U u2}{e L:a_}{a:b0}{Q:Gc->b'->Prop}
theorem Ks.mark{o:b5 a_}(f:Ks B l e cls a s.1)(k:∀h',Ks B l e cls a h'->s.heap.UpToSlots h'->Q () { s with heap:=h' }):dy M Aa (Il (.ref e) o) Q on s:=by
 let(d,p,q,u,v,vs,T,g,ts,j,w,hd,h1,m,n,gT,dT,c):=f;have z:3<?ets:=(Array.getElem?_eq_some_iff.mp c).1;have g:∀(b:a_)(Ac:hg->hg),b≠T->(s.heap.update T Ac).get? b=s.heap.get? b:=λb Ac c=>e7 _ _ (fU c);have nt:∀b d,s.heap.get? b=O d->(∀vs,d.3≠.fields vs)->b≠T:=by
  rintro b d c h rfl;rw[gT]at c;cases c;exact h ts dT
 unfold Il;refine al (gc j hd h1 ?_);rw[d6 (by simp:(eM T !=g2)=bm)];refine Er gT dT z (k _ (_,λb d c=>?_,q,u.of_keeps λb d c h=>(d,?_,Y),v,vs,T,_,_,?_,w,hd,h1,m,n,f5 _ gT (E4 (nN dT _)),nN dT _,by simp[z];rfl) λb d c h=>(d.4,?_))
 ·rw[g b _ (by rintro rfl;rw[m]at c;cases c)];exact p b d c
 ·rw[g b _ (nt b d c h)];exact c
 ·rw[g e _ (fU n)];exact j
 ·rw[g b _ (nt b d c h)];exact c
end
section
variable{a:U c3}{f:a_}{E:XK}
end
section
open PySem.Builtin.Str
end
section
variable{k:b8}{f:a_}{E:XK}{m:c3}{b:f3}{a:TA}
end
def Lq(z:c3):It:=(λi _=>i<?lz,λi H x N=>N=H/\∃c,z.cps.1[i]?=O c/\x = .str ⟨#[c]⟩,λi _=>?lz<=i)
theorem Od(z:c3)(t:GZ)(it:a_):fM Ab w K tg (Lq z) [it] it (λi h=>h.IsStrIter it "str_ascii_iterator" z t i) where
 mem:=?s
 obj:=λi h st b a=>by
  have e:b=it:=by simpa using a
  subst e;let(o,e,c,d):=st;exact(o,e,λv z=>by rw[d]at z;cases z)
 keep:=λi h h' st k=>by
  let(o,e,r):=st;exact(o,k it ?s o e,r)
 item:=by
  intro X n p q D i g s A H on I m st f;subst n p q;have f:i<?ez.cps:=f;let(u,x,G,y,B,C):=m it ?s;have E:z.1[i]?=O z.1[i]:=by simp[f]
  refine wpAny_pyNext_ascii_item st E λh' j J=>?_;have L:Inv X g A H { s with heap:=h',toks:=s.4+1 }:=I.turned (t':=s.4+1) (λb o a e=>(J.2 b a).trans e) u x y B C;let(o,e,c,d):=id j;exact(1,kB (s:={ s with heap:=h',toks:=s.4+1 }) e c d ?a (.str ⟨#[z.1[i]]⟩,H,L,⟨_,Y⟩,(Y,_,by exact j1 ▸ E,Y),j,λb a=>(m b a).1))
 done:=by
  intro X n p q D i g s A H on I m st f;subst n p q;have f:?ez.cps<=i:=f;let(u,x,G,y,B,C):=m it ?s;exact wpAny_pyNext_ascii_end (I.ok.hd D) st (by simp[f]) λh' f=>(Y,I.turned (t':=s.4) (λb o a e=>f b o a e) u x y B C)
 self:=λ_ _ _ _ _ st h=>wpAny_pyIter_striter_ascii st h
inductive Ο(R:It->Hp->Prop)(x:V)(H1:Hp):Prop
 |i(z:c3)(_:x = .str z)(_:z.cps.all (· < 128)=bm)(_:R (Lq z) H1)
def S5(tl:TE):TI:=λA H R=>tl A H λx H1=>Ο R x H1
theorem Rw{l:f3}(a:PE X l tl):PI X tg l (S5 tl):=by
 intro g s A H R I h;refine gv (a g s A H _ I h) λv s1 ⟨x,H1,a,c,d⟩=>?_;let(z,e,f,q):=d;subst e;let(t,Y):=c;refine wpAny_pyIter_ascii f ?_;refine(?ss1,[?ss1],_,_,H1,Y,a.kept (t':=s1.4) λb o e=>aw _ e,Od z t _,(_,b_ _ Y,Y,Y),λb c=>?_,q);have e:b=?ss1:=by simpa using c
 subst e;exact a.fpOk (b2 _) (a.hok.fresh (b2 _))
section
variable{k:b8}{E:XK}{y m:c3}{b:f3}{a:TA}
end
section
open PySem.Builtin.Str
end
def VH(ta tb:TE):TE:=λA H Q=>ta A H λx H1=>(x = .non/\tb A H1 Q)\/∃i:cs,x = .int i/\if i=0 then tb A H1 Q else Q x H1
theorem Zi{a b:f3}{bU:U f3}{tb:TE}(d:PE X a ta)(n:PE X (.BoolOp .Or (b::bU) pos) tb):PE X (.BoolOp .Or (a::b::bU) pos) (VH ta tb):=by
 intro g s A H Q I h;refine BoolOp_or (gv (d g s A H _ I h) λv s1 ⟨x,H1,p,j,d⟩=>?_);rcases d with⟨rfl,d⟩ |⟨i,rfl,d⟩
 ·refine gv (qh g s1 A H1 .non v (λb H2=>H2=H1/\b=b1) p j (1,Y,Y)) λc s2 ⟨H2,f,e1,m⟩=>?_;subst e1 m;exact n g s2 A H2 Q f d
 ·refine gv (qh g s1 A H1 (.int i) v (λb H2=>H2=H1/\b=(i !=0)) p j (1,Y,Y)) λc s2 ⟨H2,f,e1,m⟩=>?_;subst e1 m;by_cases e:i=0
  ·subst e;exact n g s2 A H2 Q f d
  ·rw[du e]at d;rw[show (i !=0)=bm by simp[e]];exact(.int i,H2,f,j,d)
theorem aN.or0{k:b8}{f:a_}(F:aN Ab w K mg base r_ k f fd ps sp)(b:aN Ab w K mg base CX k f fd ps sp'):
  aN Ab w K mg base CX k f fd ps (λvs H Q on=>sp vs H Q on\/sp' vs H Q on):=
 (λvs H Q on h=>h.elim (F.len vs H Q on) (b.len vs H Q on),λAa outer s H a us vs Q on c d g j h=>h.elim (λh=>h6 (F.run Aa outer s H a us vs Q on c d g j h) λr s' m=>by
  cases r with
  |error e=>exact fb m
  |ok n=>cases n <;> exact m) (λh=>b.run Aa outer s H a us vs Q on c d g j h))
section
variable [hQ κ] {f:KeyKind prog w κ}
theorem qk{v:a_}{Q:gV->b'->Prop}(T:s.TypeIs (.ref v) "dict_valueiterator")(q:Q "dict_valueiterator" s):dy (ds prog w) Aa (typeNameOfWhole (.ref v)) Q on s:=wpAny_typeNameOfWhole_valiter T q
theorem yP{v:a_}{i e:b8}{ps:U (κ×b0)}{k:κ}{y:b0}(a:s.heap.IsValIter v d i ?lps e)(j:s.heap.DictAt f d ps e)(c:ps[i]?=O (zzq k y))(q:∀h',h'.IsValIter v d (i+1) ?lps e->gS v s.1 h'->Q y { s with heap:=h' }):dy (ds prog w) Aa (ft (.ref v)) Q on s:=by
 let(g,e1,c1,b):=id a;let(m,es,g,n,h,p,p2,u):=id j
 delta ft;refine al (gD a.typeIs ic
  (g8 ic a.typeIs uv ?_ (tA _)))
 refine al (b4 (al (al (al (qk a.typeIs (b4 (al (J6 e1 b ?_))))))));have j:p_ "dict_valueiterator" =b1:=?a
 have sz:?ees=?lps:=by rw[<-?lp2];simp
 refine al (b4 (al (HG g h ?_)));rw[du (by rw[sz];simp)];refine al (b4 (al (IW g h ?_)));rw[du ?s];refine b4 ?_;have lt:i<?ees:=by rw[sz];exact (bg.mp c).1
 have g:=(p2.get? (e:=es[i]) (by simp[lt]) c).2;simp only[ e4,Array.getElem?_eq_getElem lt];refine al (al (qk a.typeIs (b4 (al (rz a.typeIs ?_)))));show dy _ _ (setField (.ref v) 1 (mi ((i)+1)) >>=_) _ _ s;refine al (Er e1 b ?s ?_);have a:(s.heap.update v (HH (·.setIfInBounds 1 (mi ((i)+1))))).IsValIter v d (i+1) ?lps e:=
  (_,f5 _ e1 (E4 (nN b _)),(Obj.cls_mapFields ..).trans c1,by rw[nN b];simp[mi])
 generalize b:s.heap.update v (HH (·.setIfInBounds 1 (mi ((i)+1))))=h' at a;refine al (e6 (al (rz a.typeIs (al (rz a.typeIs ?_)))));exact b4 (b4 (1,b4 (g ▸ q _ a (b ▸ gg ..))))
theorem UQ{v:a_}{i e:b8}{ps:U (κ×b0)}(h:Aa.1=bd)(a:s.heap.IsValIter v d i ?lps e)(j:s.heap.DictAt f d ps e)(m:ps[i]?=bd)(q:∀h' x,E5 v s.1 h'->(∃o,h'.get? x=O o/\o.1 = .type "StopIteration")->on (.ref x) { s with heap:=h' }):dy (ds prog w) Aa (ft (.ref v)) Q on s:=by
 let(c,e1,c1,b):=id a;let(n,es,c,p,g,u,p2,y):=id j
 delta ft;refine al (gD a.typeIs ic
  (g8 ic a.typeIs uv ?_ (tA _)))
 refine al (b4 (al (al (al (qk a.typeIs (b4 (al (J6 e1 b ?_))))))));have j:p_ "dict_valueiterator" =b1:=?a
 have sz:?ees=?lps:=by rw[<-?lp2];simp
 refine al (b4 (al (HG c g ?_)));rw[du (by rw[sz];simp)];refine al (b4 (al (IW c g ?_)));rw[du ?s];refine b4 ?_;have lt:?ees<=i:=by rw[sz];simpa using m
 simp only[ e4,Array.getElem?_eq_none lt];refine al (al (qk a.typeIs (b4 ?_)));show dy _ _ (setField (.ref v) 0 .none >>=_) _ _ s;refine al (Er e1 b ?s ?_);refine al ?_;refine al (mu (al (sr (a:=g2) (by first |rfl | (simp only[firstArgMember];rfl)) (mu ?_ (by size_fits)))) (by size_fits));refine al (wpAny_handled ?_);rw[show Aa.in1.1=bd from h];exact al (b4 (wpAny_throw (q _ _ (((gg ..).extBut.push _).push _) (_,b_ _ Y,Y))))
structure JF(z TI TO i1 i2:a_):Prop where
 a1:TI≠z
 a2:TO≠z
 a3:i1≠z
 a4:i2≠z
 a5:TO≠i1
 a6:TO≠i2
 a7:i1≠i2
def fh(Af:U a_)(S:fy->Prop):Prop:=∀h h',S h->(∀c o,c∉Af->h.get? c=O o->h'.get? c=O o)->S h'
theorem fh.but{Af:U a_}(Ac:fh Af S)(a:S h)(b:gS c h h')(d:c∈Af):S h':=Ac h h' a λx o a e=>b.extBut x o (λz=>a (z ▸ d)) e
theorem Ν{TI TO:a_}{x y a b:b0}{m f n g:fy->Prop}(D:JF z TI TO i1 i2)(h:tz s.1 z TI TO .none)(u:hN s.1 TI (.ref i1) (.ref i2))(B:hN s.1 TO a b)(p1:m s.1)(p2:n s.1)(C:fh [z,TO,i2] m)(d:fh [z,TO,i2] f)(p:fh [z,TO,i1] n)(j:fh [z,TO,i1] g)(A:∀(Aa:hB)(on:b0->b'->Prop)(s:b')(Q:b0->b'->Prop),m s.1->(∀h',f h'->gS i1 s.1 h'->Q x { s with heap:=h' })->dy (ds prog w) Aa (ft (.ref i1)) Q on s)(E:∀(Aa:hB)(on:b0->b'->Prop)(s:b')(Q:b0->b'->Prop),n s.1->(∀h',g h'->gS i2 s.1 h'->Q y { s with heap:=h' })->dy (ds prog w) Aa (ft (.ref i2)) Q on s)(q:∀h',tz h' z TI TO (mi ?ss)->hN h' TO x y->f h'->g h'->hN h' ?ss x y->?zh'=?ss+1->
   (∀c o,c∉[z,TO,i1,i2]->s.heap.get? c=O o->h'.get? c=O o)->Q (.ref ?ss) { s with heap:=h' }):
  dy (ds prog w) Aa (hX.«zip.__next__» ([.ref z],[])) (λr s1=>∃v,r = .done (.ret v)/\Q v s1) on s:=by
 refine al (m:=MT (.ref z) 2) (gc h Y (x:=.bool b1) Y ?_);refine al (gc h Y Y (al (fA u Y ?_)));refine al ?_
 delta iv;refine al (gc h Y Y (b4 ?_))
 refine al (oT (al (gc h Y Y (al (hE h ?s λn G h=>?_)))));refine al ?_;simp only[FS,Gw,ls,GL];refine al (al (qu ?_));refine al (A _ _ _ _ (C.but p1 h ?s) λn H m=>b4 ?_);have n:=m.extBut _ _ D.5 (h.extBut _ _ D.2 B);refine al (fA n Y (al (s5 n λf uC n=>al (ml (b4 ?_)))));refine al (al (qu ?_));refine al (E _ _ _ _ (p.but (p.but (p.but p2 h ?s) m ?s) n ?s) λf E p=>b4 ?_);have f:=p.extBut _ _ D.6 uC;refine al (fA f Y (al (s5 f λg A u=>al (ml (b4 (b4 ?_))))));replace A:hN g TO x y:=A;refine al (fA A Y (al (s6 ?_)));have sz:?zg=?ss:=by simp only[u.1,p.1,n.1,m.1,h.1]
 have B:=u.extBut _ _ ?yD.a2 (p.extBut _ _ ?yD.a4 (n.extBut _ _ ?yD.a2 (m.extBut _ _ ?yD.a3 G)));have G:∀c o,c∉[z,TO,i1,i2]->s.heap.get? c=O o->g.get? c=O o:=λc o f e=>by
  simp only[bG,dH,f8,Es]at f;let(c1,C,I,J):=f;exact u.extBut _ _ C (p.extBut _ _ J (n.extBut _ _ C (m.extBut _ _ I (h.extBut _ _ c1 e))))
 have I:=d.but (d.but (d.but H n ?s) p ?s) u ?s;have H:=j.but E u ?s;have h:=b6 B;refine al ?_
 delta FT;have n:tz (g.push { cls:=.type "tuple",data:=.seq #[x,y] }) z TI TO .ellipsis:=aw _ B
 refine al (hE n ?s λp m n=>?_);refine hE m ?s λp B u=>?_;have m:∀c o,c≠z->g.get? c=O o->p.get? c=O o:=λc o c1 e=>u.extBut _ _ c1 (n.extBut _ _ c1 (aw _ e));have C:=u.extBut _ _ (e8 h) (n.extBut _ _ (e8 h) (b_ _ Y));have h:?zp=?zg+1:=by simp only[u.1,n.1,fN]
 rw[sz]at B C h;refine b4 (1,?_);rw[sz];exact q p B (m _ _ D.2 A) (d _ _ I λc o f e=>m c o (λy=>f (y ▸ ea)) e) (j _ _ H λc o f e=>m c o (λy=>f (y ▸ ea)) e) C h λc o f e=>m c o (λy=>f (y ▸ ea)) (G c o f e)
theorem W'{TI TO:a_}{a b:b0}{g j:fy->Prop}{Q:Fin->b'->Prop}(D:JF z TI TO i1 i2)(d:tz s.1 z TI TO .none)(n:hN s.1 TI (.ref i1) (.ref i2))(p:hN s.1 TO a b)(p1:g s.1)(p2:j s.1)(B:fh [z,TO,i2] g)(m:fh [z,TO,i1] j)(h:(∃x,∀(Aa:hB)(on:b0->b'->Prop)(s:b')(Q:b0->b'->Prop),g s.1->(∀h',gS i1 s.1 h'->Q x { s with heap:=h' })->dy (ds prog w) Aa (ft (.ref i1)) Q on s)/\
    (∀(f:hB)(on:b0->b'->Prop)(s:b')(Q:b0->b'->Prop),f.1=bd->j s.1->(∀h' x,E5 i2 s.1 h'->(∃o,h'.get? x=O o/\o.1 = .type "StopIteration")->on (.ref x) { s with heap:=h' })->dy (ds prog w) f (ft (.ref i2)) Q on s)\/
   (∀(f:hB)(on:b0->b'->Prop)(s:b')(Q:b0->b'->Prop),f.1=bd->g s.1->(∀h' x,E5 i1 s.1 h'->(∃o,h'.get? x=O o/\o.1 = .type "StopIteration")->on (.ref x) { s with heap:=h' })->dy (ds prog w) f (ft (.ref i1)) Q on s))(C:Aa.1=bd)(q:∀h' e,(∀c o,c∉[z,TO,i1,i2]->s.heap.get? c=O o->h'.get? c=O o)->(∃o,h'.get? e=O o/\o.1 = .type "StopIteration")->on (.ref e) { s with heap:=h' }):dy (ds prog w) Aa (hX.«zip.__next__» ([.ref z],[])) Q on s:=by
 refine al (m:=MT (.ref z) 2) (gc d Y (x:=.bool b1) Y ?_);refine al (gc d Y Y (al (fA n Y ?_)));refine al ?_
 delta iv;refine al (gc d Y Y (b4 ?_))
 refine al (oT (al (gc d Y Y (al (hE d ?s λf E g=>?_)))));refine al ?_;simp only[FS,Gw,ls,GL];refine al (al (qu ?_));rcases h with⟨⟨x,h⟩,j⟩ |h
 ·refine al (h _ _ _ _ (B.but p1 g ?s) λG d=>b4 ?_);have f:=d.extBut _ _ D.5 (g.extBut _ _ D.2 p);refine al (fA f Y (al (s5 f λf uC p=>al (ml (b4 ?_)))));refine al (al (qu ?_));refine al (j _ _ _ _ C (m.but (m.but (m.but p2 g ?s) d ?s) p ?s) λn e H u=>?_);let(o,f,j):=u;have m:tz n z TI TO .ellipsis:=H _ _ ?yD.a4 (p.extBut _ _ ?yD.a2 (d.extBut _ _ ?yD.a3 E));have v:e≠z:=λr=>by subst r;rw[m]at f;cases f;simp at j
  refine hE m ?s λy _ m=>q y e (λc o n r=>?_) (o,m.extBut _ _ v f,j);simp only[bG,dH,f8,Es]at n;let(c1,I,A,J):=n;exact m.extBut _ _ c1 (H _ _ J (p.extBut _ _ I (d.extBut _ _ A (g.extBut _ _ c1 r))))
 ·refine al (h _ _ _ _ C (B.but p1 g ?s) λG e d u=>?_);let(o,f,j):=u;have h:tz G z TI TO .ellipsis:=d _ _ ?yD.a3 E;have v:e≠z:=λr=>by subst r;rw[h]at f;cases f;simp at j
  refine hE h ?s λy _ m=>q y e (λc o n r=>?_) (o,m.extBut _ _ v f,j);simp only[bG,dH,f8,Es]at n;let(c1,I,A,J):=n;exact m.extBut _ _ c1 (d _ _ A (g.extBut _ _ c1 r))
end
noncomputable def Jo(h:fy)(a b:hg):fy:=((h.push a).push b).push { cls:=.type "tuple",data:=.seq #[.ref ?zh,.ref (h.push a).objs.size] }
noncomputable def Ix(h:fy)(a b:hg):fy:=(Jo h a b).push { cls:=.type "tuple",data:=.seq #[.none,.none] }
noncomputable def G2(h:fy)(a b:hg):fy:=(Ix h a b).push { cls:=.type "zip",data:=.fields #[.none,.bool b1,.bool b1,.ref ((h.push a).push b).objs.size,.ref (Jo h a b).objs.size] }
theorem SU(h:fy)(a b:hg)(s:a.isFreed=b1)(u:b.isFreed=b1):(G2 h a b).get? ?zh=O a/\(G2 h a b).get? (?zh+1)=O b/\
  hN (G2 h a b) (?zh+2) (.ref ?zh) (.ref (?zh+1))/\hN (G2 h a b) (?zh+3) .none .none/\tz (G2 h a b) (?zh+4) (?zh+2) (?zh+3) .none/\
  (∀c o,h.get? c=O o->(G2 h a b).get? c=O o)/\(Ix h a b).objs.size=?zh+4:=by
 have d:(h.push a).objs.size=?zh+1:=fN ..;have f:((h.push a).push b).objs.size=?zh+2:=by rw[fN,d]
 have g:(Jo h a b).objs.size=?zh+3:=by delta Jo;rw[fN,f]
 have m:(Ix h a b).objs.size=?zh+4:=by delta Ix;rw[fN,g]
 have j:∀c o,((h.push a).push b).get? c=O o->(G2 h a b).get? c=O o:=λc o e=>aw _ (aw _ (aw _ e));have n:(G2 h a b).get? ((h.push a).push b).objs.size=O _:=aw _ (aw _ (b_ _ Y));have p:(G2 h a b).get? (Jo h a b).objs.size=O _:=aw _ (b_ _ Y);have q:(G2 h a b).get? (Ix h a b).objs.size=O _:=b_ _ Y;have a:=j _ _ (b_ _ u);rw[d]at a;rw[f,d]at n;rw[g]at p;rw[m,f,g]at q;exact(j _ _ (aw _ (b_ _ s)),a,n,p,q,λc o e=>j _ _ (aw _ (aw _ e)),m)
section
variable [hQ κ] {a:KeyKind prog w κ}
theorem Pu(v d l:a_)(ps:U (κ×b0))(e:b8)(B:fK b0):
  MeetsIn prog w (hX.«zip.__new__» ([.type "zip", .ref v,.ref l],[])) (λ_ R s=>s.heap.IsValuesView v d/\s.heap.DictAt a d ps e/\s.heap.IsList l B/\∀h',(∀c o,s.heap.get? c=O o->h'.get? c=O o)->h'.IsValIter ?ss d 0 ?lps e->h'.IsListIter (?ss+1) l 0->
   hN h' (?ss+2) (.ref ?ss) (.ref (?ss+1))->hN h' (?ss+3) .none .none->tz h' (?ss+4) (?ss+2) (?ss+3) .none->
   R (.ok (.ret (.ref (?ss+4)))) { s with heap:=h' }):=
 .of_wp λAa R s h=>by
  let(b,Ac,f,tk,os):=s;let(g,j,m,q):=h;have n:=sub_zip;have n:=g;have g:=j;have j:Heap.IsList (Hs (b.push { cls:=.type "dict_valueiterator",data:=.fields #[.ref d,.int 0 0,.int ?lps 0,.int e 0] },Ac,f,tk,os)) l B:=J7 m _
  wp_walk using GN n g,ky j
  refine(1,?_);let(g,j,m,n,p,u,x):=SU b { cls:=.type "dict_valueiterator",data:=.fields #[.ref d,.int 0 0,.int ?lps 0,.int e 0] } { cls:=.type "list_iterator",data:=.fields #[.ref l,.int 0 0] } Y Y;have r:=q _ u (_,g,Y,Y) (_,j,Y,Y) m n p;rw[show (Hs (b,Ac,f,tk,os)).objs.size+4=(Ix b _ _).objs.size from ?yx]at r;exact r
end
noncomputable def met{κ:Type}[hQ κ]:U κ->U κ->U κ
 |acc,[]=>acc
 |acc,k::r=>met (if k∈acc then acc else acc++[k]) r
section
variable [hQ κ] {a:KeyKind prog w κ} {G:fK Jq->fK Jq->Prop} {P:b8->b0->Prop} {c:b8->b'->Prop}
noncomputable def cu(ks:U κ)(i:b8):U κ:=met [] (ks.take i)
theorem yp:∀(acc l:U κ)(k:κ),met acc (l++[k])=(if k∈met acc l then met acc l else met acc l++[k])
 |acc,[],k=>rfl
 |acc,j::r,k=>yp _ r k
theorem pj:∀(acc l:U κ),(met acc l).length<=?lacc+?ll
 |acc,[]=>b2 _
 |acc,j::r=>by
  have h:=pj (if j∈acc then acc else acc++[j]) r;have h2:(if j∈acc then acc else acc++[j]).length<=?lacc+1:=by split <;> simp
  show (met _ r).length<=?lacc+(?lr+1)
  lia
theorem Nn(W:WalksS prog w Aa.in1 I fp wr G n P c)(S:a_)(z:S∉fp)(ks:U κ)(y:?lks=n)(y:∀(i:b8)(v:b0),P i v->∃k,ks[i]?=O k/\a.is k v=bm/\v.scannable=bm)(p:n+1<w8):
  ∀(m i:b8)(s:b'),n - i=m->i<=n->c i s->s.heap.SetOf a S (λk=>decide (k∈cu ks i)) (cu ks i).length->
   (∀s',Moved (S::wr) G s s'->s'.heap.SetOf a S (λk=>decide (k∈cu ks n)) (cu ks n).length->R (.ok (.ret .none)) s')->
   lp (ds prog w) Aa (.builtin "set.update.loop" { pos:=[.ref S,.ref I] }) R s:=by
 have A:=λh=>z (W.sub _ h);have B:∀b∈wr,b∈S::wr:=λb h=>dz _ h;intro m;induction m with
 |zero=>
  intro i s d hi st g q;have e:i=n:=?l
  subst e;refine f7 E6 ?_;refine al (W.done s _ _ st λs' f=>?_);refine b4 (q s' (f.mono B) ?_);let(o,es,ep,t,e,r):=g;exact(o,es,ep,t,f.heap S _ A e,r)
 |succ m C=>
  intro i s d hi st g q;have lt:i<n:=?l
  refine f7 E6 ?_;rw[hA E7 _];refine al (W.item i s _ _ lt st λv s' D u f=>?_);let(k,E,d,x):=y i v D;have y:s'.heap.SetOf a S (λk=>decide (k∈cu ks i)) (cu ks i).length:=by
   let(o,es,ep,tb,e,r):=g;exact(o,es,ep,tb,f.heap S _ A e,r)
  refine al (e6 ?_)
  delta setAdd;refine e6 (al (a.pyHash d ?_))
  have g:(cu ks i).length+1<w8:=by
   have:=pj [] (ks.take i);rw[d8]at this;have:(cu ks i).length<=0+min i ?lks:=this
   lia
  have es:cu ks (i+1)=(if k∈cu ks i then cu ks i else cu ks i++[k]):=by
   delta cu
   simp only[ei,E];exact yp [] _ k
  refine wpAny_setAddHashed_of d x y g λh' A g=>?_;have x:h'.SetOf a S (λk=>decide (k∈cu ks (i+1))) (cu ks (i+1)).length:=by
   have e1:(λj=>decide (j∈cu ks (i+1)))=λj=>decide (j∈cu ks i) || decide (j=k):=by
    funext j
    rw[es];by_cases d:k∈cu ks i
    ·rw[d6 d];by_cases y:j=k
     ·subst y;simp[d]
     ·simp[y]
    ·rw[du d];simp
   have y:(cu ks (i+1)).length=(if decide (k∈cu ks i)=bm then (cu ks i).length else (cu ks i).length+1):=by
    rw[es];by_cases d:k∈cu ks i
    ·rw[d6 d,d6 (dg d)]
    ·rw[du d,du (by simp[d])];simp
   simp only[e1,y];exact g
  refine b4 (hm E7 _,C (i+1) _ ?l lt (W.frame _ s' _ _ u (h0 _) λb p o e=>?_) x λg y d=>?_)
  ·rw[A.2 b (λh:b=S=>z (h ▸ p))];exact e
  ·refine q g (Moved.trans W.3 ((f.mono B).then_heap (h0 _) λb o p e=>?_) y) d;rw[A.2 b (λh:b=S=>p (h ▸ ea))];exact e
end
section
variable [hQ κ] {a:KeyKind prog w κ}
abbrev gH(a:eg):hg:={ cls:=.type "set",dict:=bd,data:=.set #[] 0 (.fresh 0 0 a) }
set_option maxHeartbeats 4000001 in
theorem S6{l:a_}{J:fK b0}{ks:U κ}(A:Aa.1=bd)(f:s.heap.IsList l J)(j:?lks=?eJ)(B:∀(i:b8)(v:b0),J[i]?=O v->∃k,ks[i]?=O k/\a.is k v=bm/\v.scannable=bm)(h:?eJ+1<w8)(q:∀(h':fy)(tk:b8),h'.SetOf a ?ss (λk=>decide (k∈met [] ks)) (met [] ks).length->(∀b o,b<?ss->s.heap.get? b=O o->h'.get? b=O o)->Q (.ref ?ss) { s with heap:=h',toks:=tk }):dy (ds prog w) Aa (qB (.type "set") [.ref l]) Q on s:=by
 have em:cu ks ?eJ=met [] ks:=by unfold cu;rw[<-j,dw]
 let(c,tl,d):=lc.3;have h1:=lc.4;have h2:=lc.6;have p:=lc.1;have d:=lc.2;have d:=F.typeCall_set_1 (.ref l);refine na (codeAny_of_tree (?_:dy _ _ (callAny (.type "set") _) _ _ _));refine b4 (EX _ ?k,f7 F.entry_type_call ?_);rw[Around.under_plain (weight_type_call_type "set" [.ref l] []) Y]
 repeat (any_goals first |assumption |wp_step)
 refine h6 (code_set_new_1 (.ref l) (E:=on) (Q₁:=λx s1=>∃d:eg,x = .ref ?ss/\s1={ s with heap:=s.heap.push (gH d) }) λd=>(d,Y,Y)) λr s1 m=>?_;cases r with
 |error e=>exact m
 |ok n=>
  cases n with
  |ret x=>
   let(d,Y,Y):=m;have u:(s.heap.push (gH d)).get? ?ss=O (gH d):=b_ _ Y;have n:v4 { s with heap:=s.heap.push (gH d) } (.ref ?ss) "set" := (_,u,Y)
   have i1:=lc.init.1;have i2:=lc.init.bind (.ref ?ss)
   repeat (any_goals first |assumption |wp_step)
   refine h6 (sq (R:=wants (λr s2=>r = .none/\∃h' tk,s2={ s with heap:=h',toks:=tk }/\h'.SetOf a ?ss (λk=>decide (k∈met [] ks)) (met [] ks).length/\
     (∀b o,b<?ss->s.heap.get? b=O o->h'.get? b=O o)) on) lc.init.4 F.entry_set_init (check_set_init_1 n ?_)) λC s2 g=>?_
   ·let(z,n,cl,y,dl):=f;let(oc,od,f,os):=z;simp only at cl dl;subst cl;subst dl;have f:(s.heap.push (gH d)).get? l=O { cls:=.type "list",dict:=od,data:=.seq J y,slots:=os }:=aw _ n;have z:=F.sub_list_set;have z:=F.sub_list_frozenset;have z:(hk "list" ==hk "dict")=b1:=?a
    have z:(s.heap.push (gH d)).IsList l J:=(_,f,Y,y,Y)
    unfold hX.«set.__init__» noKeywords Gx;generalize f:Fk=PI
    wp_walk
    subst f;refine ky z (al (J8 ?_));have f:l<?ss:=b6 n;have p:Aa.in1.in1.in1.1=bd:=by simp[A]
    have n:(s.heap.push (gH d)).objs.size=?ss+1:=fN ..;have y:l≠(s.heap.push (gH d)).objs.size:=by rw[n];exact cb (eA f)
    have A:?ss∉[(s.heap.push (gH d)).objs.size,l]:=by
     rw[n];simp only[bG,dH,f8,Es];exact(cb (f_ _),e8 f)
    refine Nn (a:=a) ((n2 p _ l y J).toS) ?ss A ks j B h (?eJ - 0) 0 _ ?o (ej _) ((_,b_ _ Y,Y,Y),(z.push _)) ?_ λs' j f=>?_
    ·have y:((s.heap.push (gH d)).push { cls:=.type "list_iterator",data:=.fields #[.ref l,.int 0 0] }).get? ?ss=O (gH d):=aw _ u;have:=(IX (knd:=a) d).setOf y (by unfold w8;omega);exact this
    ·rw[em]at f;let(h',g',d',d,y):=s';have z:g'=s.2:=j.2;have ed:d'=s.3:=j.3;have A:y=s.5:=j.4;subst z;subst ed;subst A;refine b4 (b4 (Y,h',d,Y,f,λb o h e=>?_));refine j.heap b o ?_ (aw _ (aw _ e));simp only[bG,dH,f8,Es];exact(cb h,by rw[n];exact cb (eA h))
   ·cases C with
    |error e=>exact g
    |ok d=>
     cases d with
     |ret r=>
      let(Y,h',tk,Y,f,d):=g
      repeat (any_goals first |assumption |wp_step)
      exact q _ _ f d
     |_=>exact g.elim
  |_=>exact m.elim
end
section
open PySem.W
section
variable{T:gV}{r:a_}{g:fy->Prop}{P:b8->b0->Prop}
theorem S2{Q:U b0->b'->Prop}(K:KdlSrc prog w T r d n P g)(a:Aa.1=bd)(ok:g s.1)(h:n<=bT)(q:∀(h':fy)(tk:b8)(acc:fK b0),(∀b o,s.heap.get? b=O o->h'.get? b=O o)->?ss<?zh'->B2 P acc n->Q acc.1 { s with heap:=h',toks:=tk }):dy (ds prog w) Aa (collect (.ref r)) Q on s:=by
 have lt:=K.there _ ok
 delta collect;refine al (J8 (f7 entry_proto_collect' ?_))
 refine al (mu (b4 (hm F.plain_list_iadd _,f7 entry_list_iadd' ?_)));have j:(s.heap.push { cls:=.type "list",data:=.seq ([]).toArray }).get? ?ss=O { cls:=.type "list",data:=.seq #[] }:=b_ _ Y;have m:=kdl_extend (s:={ s with heap:=s.heap.push { cls:=.type "list",data:=.seq ([]:U b0).toArray } })
  (R:=λ(x) (s1)=>∃(h':fy)(tk:b8)(acc:fK b0)(c:b8),x = .ok (.ret (.ref ?ss))/\s1={ s with heap:=h',toks:=tk }/\(∀b o,s.heap.get? b=O o->h'.get? b=O o)/\h'.get? ?ss=O { cls:=.type "list",dict:=bd,data:=.seq acc c,slots:=#[] }/\B2 P acc n)
  K a (K.keep _ _ ok λb _ o e=>aw _ e) ?ss (e8 lt.1) (e8 lt.2) (.ref ?ss) 0 j
  (λh' tk acc c a Ac it=>(h',tk,acc,c,Y,Y,λb o e=>a b o (cb (b6 e)) (aw _ e),Ac,it)) h
 refine ew m (λfin s1 x=>?_) λe s1 x=>?_
 ·cases fin with
  |done f=>
   let(h',tk,acc,c,e,Y,a,Ac,it):=x;cases e;exact al (Hc Ac (b4 (q h' tk acc a (b6 Ac) it)))
  |again c1=>
   refine(x.1,h6 x.2 λy s2 z=>?_);let(h',tk,acc,c,Y,Y,a,Ac,it):=z;exact al (Hc Ac (b4 (q h' tk acc a (b6 Ac) it)))
 ·let(_,_,_,_,a,_):=x;cases a
theorem PH(K:KdlSrc prog w T r d n P g)(m:Aa.1=bd)(ok:g s.1)(h:n<64)(x:∀vs:U b0,?lvs=n->(∀(j:b8)(v:b0),vs[j]?=O v->P j v)->sC vs ns)(q:∀(a:a_)(h':fy)(tk:b8)(f:fK b0)(e:b8)(c:U cs),(∀b o,s.heap.get? b=O o->h'.get? b=O o)->?ss<=a->h'.get? a=O (g4 "list" f e)->sC f.1 c->c.Perm ns->c.Pairwise (·<=·)->Q (.ref a) { s with heap:=h',toks:=tk }):dy (ds prog w) Aa (qB (.builtin "sorted") [.ref r]) Q on s:=by
 refine v5 Gy F0 F1 (KD _) ?_;refine al (b4 (al (S2 K m ok (dn (hy h ?a)) λh1 tk acc m hz p=>?_)));have u:?lacc.toList=n:=by simpa only[ee]using p.1
 refine al (nn ?_ (by exact u ▸ (dn (hy h ?a))));have h:(h1.push (g4 "list" ?aacc.toList 0)).get? ?zh1=O (g4 "list" ?aacc.toList 0):=b_ _ Y;refine al (e6 (g8 Et (_,h,Y) zB (list_sort_tree h (x acc.1 u λj v e=>p.2 j v (by grind)) ?x λf c p u x=>(1,?_)) (J9 _)));let(e,y):=sortedHeap_at h;refine b4 (1,q _ _ _ f e c (λb o h=>?_) (dn hz) y p u x);have lb:=b6 (m _ _ h);rw[sortedHeap_old (cb lb) (by rw[fN];exact eA lb)];exact aw _ (m _ _ h)
end
end
theorem ze:l6 X (eT .LtE) (λx y H Q=>∃i j,x = .str i/\y = .str j/\Q (.bl (!decide (j.cps.1<i.cps.1))) H):=by
 intro g s A H x y v u Q I a b h;let(i,j,Y,Y,q):=h;let(t,Y):=a;let(t',Y):=b;exact P.le_str (bE I q Y)
theorem Inv.frz(I:Inv X g A H s)(e:H d=O (.dK E)):∃o,Inv X g A (upd H d (.frz o (.dK E))) s:=by
 let(z,y,vs,r,o,es,ep,a,c):=id (I.hok d _ e);refine(o,I.write (h':=s.1) (t':=s.4) (by rw[e];trivial) (.inl Y) (λb u _ q=>q) (o,a) (a,z,y,vs,r,o,es,ep,a,c))
def PB(ts:TS):TS:=λD A H=>ts { D with nx:=λa H1=>∃d E,H1 d=O (.dK E)/\∀o,D.nx a (upd H1 d (.frz o (.dK E))) } A H
theorem RH{t:TS}(h:PS X st t):PS X st (PB t):=by
 intro g s A H D I a;refine ew (h g s A H _ I a) (λf s1 q=>?_) λ_ _ z=>z;cases f with
 |next=>
  let(a,H1,b,d,E,e,q):=q;let(o,c):=b.frz e;exact(a,_,c,q o)
 |brk=>exact q
 |cont=>exact q
 |ret u=>exact q
def iw(p d:a_):HO:=.ext λh=>h.IsValuesView p d
theorem Wc{p:a_}(e:h.IsValuesView p d):bo Ab w H h p (iw p d):=
 (e,(by let(o,a,_):=e;exact(o,a)),by rintro h1 h2 ⟨o,a,r⟩ k;exact(o,k o a,r))
inductive U0(Q:VK)(x:V)(H1:Hp):Prop
 |i(d E:_)(_:x = .ref d)(_:Rd H1 d (.dK E))(_:∀p,H1 p=bd->Q (.ref p) (upd H1 p (iw p d)))
def Pt(to:TE):TE:=λA H Q=>to A H λx H1=>U0 Q x H1
theorem ud{o:f3}(m:PE X o to)(f:zzp (h9 o "values" X.10 (eval o X.10)=eval o X.10) zz0)(j:zzp ((apos.3 ==cpos.1)=bm) zz0):PE X (.Call (.Attribute o "values" apos) [] [] cpos) (Pt to):=by
 intro g s A H Q I h;refine qD f j (gv (m g s A H _ I h) λv s1 ⟨x,H1,j,f,d,E,ex,hd,q⟩=>?_);subst ex;cases f;let(z,m,vs,n,f):=i4 j.10 hd;refine("dict","dict.values",t7,Gz,F.type_dict_values,f.typeIs,λa e=>?_,ia Y (rb ?_))
 ·cases e;let(o,es,ep,n,c,_):=f;exact(o,n,c.2.1)
 ·refine rc Gz f.typeIs F.entry_dict_values (F.args_dict_values_1 _) (meets_dict_values (cy X.1 X.w) d m) ((vs,f),?_);exact(.ref ?ss1,_,j.laid (t':=s1.4) (λb u q=>aw _ q) (b2 _) (Wc (_,b_ _ Y,Y,Y)),Y,q _ (j.hok.fresh (b2 _)))
theorem Inv.view{p:a_}(I:Inv X g A H s)(e:H p=O (iw p d)):s.heap.IsValuesView p d:=(I.hok p _ e).1
def KY(o:hg)(d:a_)(E:U (Key×V)):It:=(λi H=>H d=O (.frz o (.dK E))/\i<?lE,λi H x N=>N=H/\∃k,E[i]?=O (zzq k x),λi H=>H d=O (.frz o (.dK E))/\?lE<=i)
theorem Inv.dictAt{o:hg}{d:a_}{E:U (Key×V)}(I:Inv X g A H s)(e:H d=O (.frz o (.dK E))):∃vs es ep,KV E vs/\o.3 = .dict es ep/\s.heap.DictAt (cy X.1 X.w) d vs ep:=by
 let(b,z,y,vs,r,a):=I.hok d _ e;let(ep,h):=a.dictAt;let(f,es,a,c,dt,q):=id h;rw[b]at a;cases a;exact(vs,es,ep,r,dt,h)
theorem sW{vs:U (Key×b0)}(r:KV E vs){i:b8}{k:Key}{x:V}(h:E[i]?=O (zzq k x)):∃u,vs[i]?=O (zzq k u)/\aB x u:=by
 induction r generalizing i with
 |nil=>cases h
 |cons d t a=>cases i with
  |zero=>cases h;exact(_,by rw[show k=_ from d.1];rfl,d.2)
  |succ j=>exact a h
theorem XF{o:hg}{es:fK o7}(hd:o.3 = .dict es ep)(M:n=?lE):fM Ab w K tg (KY o d E) [it] it (λi h=>h.IsValIter it d i n ep) where
 mem:=?s
 obj:=λi h st b a=>by
  have e:b=it:=by simpa using a
  subst e;let(o,e,c,d):=st;exact(o,e,λv z=>by rw[d]at z;cases z)
 keep:=λi h h' st k=>st.at λo e=>k it ?s o e
 item:=by
  intro X p q x N i g s A H on I m st f;subst p q x M;let(f,hi):=f;let(vs,y,B,r,dt,at'):=I.dictAt f;rw[hd]at dt;cases dt;let(C,D,P,G,J,L):=m it ?s;have ex:=ag hi;let(u,j,Q):=sW r ex;rw[?lr]at st ⊢;refine wpAny_pyNext_values_item st at' j λh' j R=>?_;let(T,e1,c1,S):=id j;exact(u,Y,kB e1 c1 S ?a (E[i].2,H,(I.turned (t':=s.4) (λb o a e=>(R.2 b a).trans e) C D G J L),Q,(Y,E[i].1,ex),j,λb a=>(m b a).1))
 done:=by
  intro X p q x N i g s A H on I m st f;subst p q x M;let(f,hi):=f;let(vs,y,B,r,dt,at'):=I.dictAt f;rw[hd]at dt;cases dt;let(C,D,P,G,J,L):=m it ?s;rw[?lr]at st hi;exact wpAny_pyNext_values_end (I.ok.hd N) st at' (hb hi) λh' j=>(Y,I.turned (t':=s.4) (λb o a e=>j b o a e) C D G J L)
 self:=λ_ _ _ _ _ st h=>wpAny_pyIter_valiter st h
inductive V'(R:It->Hp->Prop)(x:V)(H1:Hp):Prop
 |i(p d o E:_)(_:x = .ref p)(_:H1 p=O (iw p d))(_:H1 d=O (.frz o (.dK E)))(_:R (KY o d E) H1)
def Wd(tl:TE):TI:=λA H R=>tl A H λx H1=>V' R x H1
theorem Rn{l:f3}(a:PE X l tl):PI X tg l (Wd tl):=by
 intro g s A H R I h;refine gv (a g s A H _ I h) λv s1 ⟨x,H1,a,c,f⟩=>?_;let(p,d,o,E,Y,j,hd,q):=f;cases c;let(vs,es,ep,r,dt,at'):=a.dictAt hd;refine GN (a.view j) at' ?_;refine(?ss1,[?ss1],_,_,H1,Y,a.kept (t':=s1.4) λb o e=>aw _ e,XF dt ?yr.length,(_,b_ _ Y,Y,Y),λb c=>?_,q);have e:b=?ss1:=by simpa using c
 subst e;exact a.fpOk (b2 _) (a.hok.fresh (b2 _))
def vO(K:bI)(o:hg)(d:a_)(E:U (Key×V))(l:a_):It:=
  (λi H=>H d=O (.frz o (.dK E))/\i<?lE/\∃ys y,eb K H l ys/\ys[i]?=O y,
   λi H v N=>∃T,H T=bd/\v = .ref T/\∀ys,eb K H l ys->∃k x y,E[i]?=O (zzq k x)/\ys[i]?=O y/\N=upd H T (.tup [x,y]),
   λi H=>H d=O (.frz o (.dK E))/\∃ys,eb K H l ys/\(?lE<=i\/?lys<=i))
theorem p7{Af:U a_}(c:∀h h',S h->(∀o,h.get? a=O o->h'.get? a=O o)->(∀o,h.get? b=O o->h'.get? b=O o)->S h')(d:a∉Af)(f:b∉Af):fh Af S:=λh h' g k=>c h h' g (λo e=>k a o d e) (λo e=>k b o f e)
theorem P5{o:hg}{es:fK o7}{l TI TO:a_}(hd:o.3 = .dict es ep)(AS:n=?lE)(D:JF z TI TO i1 i2)(A4:∀b∈[d,l],b∉[z,TO,i1,i2])(nT:TI∉[z,TO,i1,i2]):
  fM Ab w K (.Tuple elts kk pos) (vO K o d E l) [z,TI,TO,i1,i2] z (λi h=>tz h z TI TO .none/\hN h TI (.ref i1) (.ref i2)/\(∃c e,hN h TO c e)/\h.IsValIter i1 d i n ep/\h.IsListIter i2 l i) where
 mem:=?s
 obj:=λi h st c P=>by
  let(h1,h2,(_,_,C),(AT,e1,c1,S),(AU,A9,j,T)):=st;rcases JE P with rfl |rfl |rfl |rfl |rfl
  ·exact(_,h1,λv z=>by cases z)
  ·exact(_,h2,λv z=>by cases z)
  ·exact(_,C,λv z=>by cases z)
  ·exact(AT,e1,λv z=>by rw[S]at z;cases z)
  ·exact(AU,A9,λv z=>by rw[T]at z;cases z)
 keep:=λi h h' st kk=>by
  let(h1,h2,(c,d,C),G,R):=st;exact(kk z (.head _) _ h1,kk TI (.tail _ (.head _)) _ h2,(c,d,kk TO (.tail _ (.tail _ (.head _))) _ C),G.at λo e=>kk i1 (.tail _ (.tail _ (.tail _ (.head _)))) o e,R.at λo e=>kk i2 (.tail _ (.tail _ (.tail _ (.tail _ (.head _))))) o e)
 item:=by
  intro X AA AB AC P i g s A H on I A5 st J;subst AA AB AC AS;let(J,hi,ys,y,A6,AV):=J;let(vs,AD,AE,r,dt,at'):=I.dictAt J;rw[hd]at dt;cases dt;have ex:=ag hi;let(u,a,AY):=sW r ex;let(AF,AG,AH,_):=I.list A6;let(A7,j,AI):=AG.get AV;let(h1,h2,(AZ,Ba,C),G,R):=id st;rw[?lr]at G ⊢;have Z:s.TypeIs (.ref z) "zip" := (_,h1,Y)
  let(S,T,AW,AJ):=pA (A4 d (.head _));let(AK,AL,AM,AX):=pA (A4 l (.tail _ (.head _)));have m:∀k:b8,fh [z,TO,i2] (λh=>h.IsValIter i1 d k ?lvs ep/\h.DictAt (cy X.1 X.w) d vs ep):=λk=>p7 (λh h' f L M=>(f.1.at L,f.2.at' M)) (ja D.3 ?yD.a5 D.7) (ja S T AJ);have x:∀k:b8,fh [z,TO,i1] (λh=>h.IsListIter i2 l k/\h.IsList l ?aAF):=λk=>p7 (λh h' f L M=>(f.1.at L,f.2.at M)) (ja D.4 ?yD.a6 ?yD.a7) (ja AK AL AM)
  delta sk;refine al (l7 (gD Z hK (g8 hK Z q2 (Ν D h1 h2 C (G,at') (R,AH.isList) (m i) (m (i+1)) (x i) (x (i+1)) (x:=u) (y:=A7) (λAa on s Q p q=>?_) (λAa on s Q p q=>?_) λh' A3 AN s1 s2 Bb sz A8=>?_) (pb _))))
  ·exact yP p.1 p.2 a λh' a N=>q h' (a,p.2.at' λo e=>by rw[N.2 d AW];exact e) N
  ·exact rk p.1 p.2 (by simpa using j) λh' a N=>q h' (a,p.2.at λo e=>by rw[N.2 l AX];exact e) N
  refine b4 (1,wpAny_letOwnedTupleGo_zip A3 λB AO AQ=>?_);have Bd:=I.turnedL (t':=s.4) (λc o a e=>by
   have:=A8 c o a e;rw[AQ.2 c (λy=>a (y ▸ .head _))];exact this) λc a=>A5 c (p9 a)
  have AR:=I.hok.fresh (b2 _);have A3:qA B ?ss #[u,A7]:=by
   have:hN B ?ss u A7:=by show B.get? _=_;rw[AQ.2 _ (e8 (b6 h1))];exact Bb
   exact(_,this,Y,1)
  have j:∀{c:a_}{Bb:hg},s.heap.get? c=O Bb->c≠?ss:=λe=>cb (b6 e);have Bb:=I.trackN (o:=.tup [E[i].2,y]) (b2 _) Bd (by show 2<=bT;decide,[u,A7],.cons AY (.cons AI .nil),A3);have A3:∀c o,c≠z->h'.get? c=O o->B.get? c=O o:=λc o P e=>by rw[AQ.2 c P];exact e
  let(AT,e1,_):=id G;let(AU,A9,_):=id R;refine(.ref ?ss,_,Bb,Y,(_,AR,Y,λB A7=>?_),(AO,A3 _ _ D.1 (A8 TI _ ?_ h2),(_,_,A3 _ _ D.2 AN),s1.1.at λo e=>A3 _ o D.3 e,s2.1.at λo e=>A3 _ o D.4 e),λc a=>?_)
  ·rw[I.list_inj A7 A6];exact(_,_,y,ex,AV,Y)
  ·exact nT
  ·have:c≠?ss:=by
    rcases JE a with rfl |rfl |rfl |rfl |rfl
    ·exact j h1
    ·exact j h2
    ·exact j C
    ·exact j e1
    ·exact j A9
   rw[af this];exact (A5 c a).1
 done:=by
  intro X AA AB AC P i g s A H on I A5 st J;subst AA AB AC AS;let(J,ys,A6,j):=J;let(vs,AD,AE,r,dt,at'):=I.dictAt J;rw[hd]at dt;cases dt;let(AF,AG,AH,_):=I.list A6;let(h1,h2,(AZ,Ba,C),G,R):=id st;rw[?lr]at G j;have Z:s.TypeIs (.ref z) "zip" := (_,h1,Y)
  let(S,T,AW,AJ):=pA (A4 d (.head _));let(AK,AL,AM,AX):=pA (A4 l (.tail _ (.head _)));have m:fh [z,TO,i2] (λh=>h.IsValIter i1 d i ?lvs ep/\h.DictAt (cy X.1 X.w) d vs ep):=p7 (λh h' f L M=>(f.1.at L,f.2.at' M)) (ja D.3 ?yD.a5 D.7) (ja S T AJ);have x:fh [z,TO,i1] (λh=>h.IsListIter i2 l i/\h.IsList l ?aAF):=p7 (λh h' f L M=>(f.1.at L,f.2.at M)) (ja D.4 ?yD.a6 ?yD.a7) (ja AK AL AM);have lb:=?lAG
  delta sk;refine al (l7 (gD (name:=q0 "__next__") Z hK (g8 hK Z q2 (W' D h1 h2 C (G,at') (R,AH.isList) m x ?_ (I.ok.hd P) λh' e A8 B=>?_) (pb _))))
  ·by_cases c:?lvs<=i
   ·exact .inr λf on s Q j p q=>UQ j p.1 p.2 (hb c) q
   ·have m:vs[i]?=O (zzq (vs[i].1) (vs[i].2)):=ag (G0 ‹_›);refine .inl ((vs[i].2,λAa on s Q p q=>yP p.1 p.2 m λh' _ N=>q h' N),λf on s Q j p q=>FU j p.1 p.2 (by simp;simp_all) q)
  ·let(o,f,j):=B;refine al (w7 (o,f,j) JA (b4 (Y,I.turnedL (t':=s.4) (λc o a e=>A8 c o a e) λc a=>A5 c (p9 a))))
 self:=λ_ _ _ _ _ st h=>lz st.1 h
theorem PY(n:b8):JF (n+4) (n+2) (n+3) n (n+1):=by
 constructor
 ·grind
 ·grind
 ·grind
 ·grind
 ·grind
 ·grind
 ·grind
theorem LF{b:b8}(h:b<n):b∉([n+4,n+3,n,n+1]:U b8):=by grind
theorem Q5(n:b8):n+2∉([n+4,n+3,n,n+1]:U b8):=?s
theorem VG{b:b8}(h:b∈([n+4,n+2,n+3,n,n+1]:U b8)):n<=b:=by grind
inductive T7(K:bI)(R:It->Hp->Prop)(vs:U V)(H1:Hp):Prop
 |i(p d o E l ys:_)(_:vs=[.ref p,.ref l])(_:H1 p=O (iw p d))(_:H1 d=O (.frz o (.dK E)))(_:eb K H1 l ys)(_:R (vO K o d E l) H1)
def Yo(K:bI)(ta:TA):TI:=λA H R=>ta A H λvs H1=>T7 K R vs H1
theorem zy(K:bI){k:b8}{a b:f3}{ta:TA}(j:Gl X "zip")(c:X.mg "zip" =bd)(m:PA X [a,b] ta)(n:zzp (X.K=K) zz0)(u:zzp (cH [a,b] X.10=[(zzq b1 (eval a X.10)),(zzq b1 (eval b X.10))]) zz0)(f:zzp (cH [b] X.10=[(zzq b1 (eval b X.10))]) zz0):
  PI X (.Tuple elts k tpos) (.Call (.Name "zip" p) [a,b] [] pos) (Yo K ta):=by
 subst n;intro g s A H R I h;refine uB (df I j c qq (ec (gv (m pos g s A H _ I h) λus s1 ⟨vs,H1,c,j,m⟩=>?_) (by simp only[u,f]) (by rw[f];rfl)));let(pv,d,o,E,l,ys,e,n,hd,f,q):=m;subst e;let(u,v,Y,e1,m):=j.two;cases e1;cases m;let(ws,es,ep,r,dt,at'):=c.dictAt hd;let(m,u,j,_):=c.list f;refine callType_newIn F.called_zip ?a (F.typeCall_zip_2 _ _) (F.newCall_zip_2 _ _) (λobj=>Fz obj _ _) F.entry_zip_new (Pu pv d l ws ep ?am) (c.view n,at',j.isList,λh' u v w x y f=>((_,f,Y),?_));have m:=(c.hok d _ hd).lt;have n:l<?ss1:=by let(_,e,_):=j.isList;exact b6 e
 refine lz f ?_;refine(_,[?ss1+4,?ss1+2,?ss1+3,?ss1,?ss1+1],_,_,H1,Y,c.kept (t':=s1.4) u,P5 dt ?yr.length (PY _) (λb j=>?_) (Q5 _),(f,x,(_,_,y),v,w),λb j=>?_,q)
 ·simp only[bG,dH,f8]at j;rcases j with rfl |rfl
  ·exact LF m
  ·exact LF n
 ·have f:=VG j;exact c.fpOk f (c.hok.fresh f)
section
open PySem.W
theorem lQ{fr:U (b5 b8)}{Q:VK}(Pv:b8->U V->Hp->Prop)(d:Pv 0 [] H)(f:∀i acc H,i<=n->Pv i acc H->?lacc<=i/\(i<n->Ag.go i H)/\(n<=i->Ag.stop i H))(hz:n<=bT)(g:∀i x acc H N,i<n->Pv i acc H->Ag.yld i H x N->Ac x (stC fr A) N λa H2=>Wk (stC fr A) a/\tc a H2 λb c=>
   if b=bm then te a c λy h=>∃a,a<n - i/\CW n Pv (i+1) a (acc++[y]) h else ∃a,a<n - i/\CW n Pv (i+1) a acc c)(hd:∀acc H,Pv n acc H->∀p,H p=bd->Q (.ref p) (upd H p (.lst acc))):ff fr Ag Ac tc te A H Q:=by
 refine(CW n Pv,(n,?s,ej _,d),?_);rintro i m acc H ⟨rfl,hi,p⟩;let(a,c,d):=f i acc H hi p;by_cases a:i<n
 ·exact .inr (c a,?l,λx N y=>g i x acc H N a p y)
 ·have e:i=n:=?l
  subst e;exact .inl (d (b2 _),hd acc H p)
theorem QZ(a:U V){fr:U (b5 b8)}{Q:VK}(f:aa H0 H)(hz:?la<=1000)(g:∀i N,aa H0 N->(i<?la->Ag.go i N)/\(?la<=i->Ag.stop i N))(j:∀(i:b8) z,a[i]?=O z->∀x N H2 (e:VK) (Z:Hp->Prop),aa H0 N->Ag.yld i N x H2->(∀d,aa H0 d->e z d)->Ac x (stC fr A) H2 λc H2=>Wk (stC fr A) c/\tc c H2 λb d=>if b=bm then te c d e else Z d)(hd:∀p N,aa H0 N->N p=O (.lst a)->H0 p=bd->Q (.ref p) N):ff fr Ag Ac tc te A H Q:=by
 refine lQ (n:=?la) (λi acc N=>aa H0 N/\acc=a.take i) (f,Y) (λi acc N hi h=>(by rw[h.2];exact hY ..,g i N h.1)) (dn (bJ hz)) (λi x acc N H2 hi h y=>?_) λacc N h p a=>?_
 ·let(s,Y):=h;have c:=ag hi;exact j i _ c x N H2 _ _ s y λd e=>cw hi (e,by rw[ei,c];rfl)
 ·let(s,Y):=h;rw[dw];exact hd p _ (aG s a) ae (s.free a)
theorem rW(Pv:b8->St->Hp->Prop)(b:Pv 0 A H)(c:∀i A H,i<=n->Pv i A H->(i<n->Ag.go i H)/\(n<=i->Ag.stop i H))(d:∀i x A H N,i<n->Pv i A H->Ag.yld i H x N->Ac x A N λa H2=>tb { D with nx:=Pv (i+1),ct:=Pv (i+1),bk:=D.1 } a H2)(hd:∀A H,Pv n A H->D.nx A H):vM Ag Ac tb D A H:=by
 refine(λi m A H=>m=n - i/\i<=n/\Pv i A H,(n,?s,ej _,b),?_);rintro i m A H ⟨rfl,hi,p⟩;let(b,f):=c i A H hi p;by_cases a:i<n
 ·exact .inr (b a,Pv (i+1),λc N h=>(n - (i+1),?l,Y,a,h),λx N y=>d i x A H N a p y)
 ·have e:i=n:=?l
  subst e;exact .inl (f (b2 _),hd A H p)
def nQ(p:a_)(n:b8):HO:=.ext λh=>∃o es ep t,h.get? p=O o/\o.ExactSet/\o.3 = .set es ep t/\t.fits ?ees=bm/\?ees=n
theorem VA(K:bI)(c:X.15=bm)(d:zzp (X.K=K) zz0):bx X (.type "set") (λB H Q=>∃(l:a_)(a:U c3),B=[.ref l]/\eb K H l (a.map V.str)/\?la<=100/\∀p,H p=bd->Q (.ref p) (upd H p (nQ p (met [] a).length))):=by
 subst d;intro g s A H B us Q I r h;let(l,a,Y,f,hz,q):=h;let(u,Y,d):=cA r;cases d;let(J,e,pl,_):=I.list f;have le:=?le;rw[ai]at le;refine S6 (a:=strKind X.1 X.w) (I.ok.hd c) pl.isList ?o (λi v f=>?_) (by rw[b7];delta w8;lia) λh' tk j m=>?_
 ·have c:J[i]?=O v:=by simpa using f
  have hi:i<?la:=by rw[le];exact (bg.mp c).1
  let(u,f,d):=e.get (by rw[a',ag hi];rfl);rw[c]at f;cases f;let(t,Y):=d;exact(a[i],ag hi,t8 _ _ _ _,Y)
 ·let(o,es,ep,t,c,ex,f,_,_,_,d,e):=j;exact(.ref ?ss,_,I.laid (o:=nQ ?ss (met [] a).length) (t':=tk) (λb u q=>m b u (b6 q) q) (b2 _) ((o,es,ep,t,c,ex,f,d,e),(o,c),by rintro h1 h2 ⟨o,es,ep,t,c,r⟩ k;exact(o,es,ep,t,k o c,r)),Y,q _ (I.hok.fresh (b2 _)))
theorem VR:bx X (.builtin "len") (λB H Q=>∃p n,B=[.ref p]/\H p=O (nQ p n)/\n<=1000/\Q (.int n) H):=by
 intro g s A H B us Q I r h;let(p,n,Y,a,m,q):=h;let(u,Y,b):=cA r;cases b;let((o,es,ep,t,c,d,e,f,j),_):=I.hok p _ a;subst j;exact call_len_set c d e f ?l (.int ?ees,H,(I.tok _).tok _,⟨_,Y⟩,q)
theorem NY:bx X (.builtin "len") (λB H Q=>∃a E,B=[V.ref a]/\Rd H a (.dK E)/\Q (.int ?lE) H):=by
 intro g s A H B us Q I r h;let(a,E,Y,b,q):=h;let(u,Y,c):=cA r;cases c;exact w9 I b λt s' b=>(.int ?lE,H,b,(t,Y),q)
theorem zu:∀{l c:U cs},l.Perm c->l.Pairwise (·<=·)->c.Pairwise (·<=·)->l=c
 |[],c,p,_,_=>(List.nil_perm.mp p).symm
 |a::r,[],p,_,_=>cx (List.perm_nil.mp p) ?s
 |a::r,b::r',p,h,h'=>by
  let(h1,h2):=h4.mp h;let(c,d):=h4.mp h';have e:a=b:=by
   rcases bG.mp (p.mem_iff.mp ea) with e |e
   ·exact e
   ·rcases bG.mp (p.mem_iff.mpr (ea)) with f |f
    ·exact ?yf
    ·exact Int.le_antisymm (h1 b f) (c a e)
  subst e;rw[zu ((List.perm_cons a).mp p) h2 d]
theorem kg(n:X.15=bm):bx X (.builtin "sorted") (λB H Q=>∃(d:a_)(ns:U cs)(ws:U V),B=[.ref d]/\H d=O (.dK ((ns.zip ws).map λq=>(zzq (.inl (O q.1)) q.2)))/\?lns=?lws/\ns.Pairwise (·<=·)/\?lns<64/\∀l,H l=bd->Q (.ref l) (upd H l (.lst (ns.map V.int)))):=by
 intro g s A H B us Q I r h;let(d,ns,ws,Y,hd,c,w,f,q):=h;let(u,Y,c):=cA r;cases c;let(z,p,vs,b,c):=ko I.10 hd;let(ep,m):=c.dictAt;have c:?lvs=?lns:=by simp only[<-?lb,ai,hF];simp_all
 refine PH (ns:=ns) (kdl_dict p) (I.ok.hd n) m (c ▸ f) (λus m f=>?_) λa h' tk m e n C p D E pm G=>?_
 ·refine mf (qj (by grind) λj x v h1 h2=>?_);let(k,y,e1,J):=f j v h2;have f:j<?lns:=c ▸ (bg.mp e1).1;simp only[a',ag f]at h1;cases h1;have c:=ye b j;simp only[e1,a',gp (z:=(zzq (ns[j]) (ws[j]' ?x))) |>.mpr (ag f,ag _)]at c;have c:(eS (O ns[j]):Key)=k:=c_ c;have:=ur J;rw[<-c]at this;exact this
 ·have c:=zu pm G w;subst c;exact(.ref a,_,I.laid (o:=.lst (n.map V.int)) (t':=tk) C p (?x,m.1,e,Lb E,D),Y,q a (I.hok.fresh p))
end
theorem PE.alt{a b:TE}(h1:PE X e a)(h2:PE X e b):PE X e (λA H Q=>a A H Q\/b A H Q):=λg s A H Q I h=>h.elim (h1 g s A H Q I) (h2 g s A H Q I)
theorem l6.alt{o:b0->b0->HS b0}{a b:R2}(h1:l6 X o a)(h2:l6 X o b):l6 X o (λx y H Q=>a x y H Q\/b x y H Q):=λg s A H x y v u Q I a b h=>h.elim (h1 g s A H x y v u Q I a b) (h2 g s A H x y v u Q I a b)
theorem kE{D:a_}{fs:U (c3×V)}{b:eg}(h:H a=O (.ins C dx fs))(cl:zI K C)(y:hM K (.ref C) "__class__" =O (O (.builtin "object.__class__"))/\EG K C (.type "object")=O bm)(Ac:v2 K (.builtin "object.__class__") "__get__" =O (O (.builtin "getset_descriptor.__get__"))/\E2 K (.builtin "object.__class__")=O bm)(e:e3 K (.ref C) (.ref D)=O b):jo K H (.ref a) (.ref D) b:=
 (.ref D,Y,λ_ r=>r,.inl (.ref C,.ins h cl y.1 Ac.1 Ac.2 y.2,e))
theorem yo(a b:b8):decide (([a]:U b8) < [b])=decide (a<b):=by
 rw[g0];simp[List.cons_lt_cons_iff]
section
variable{k:b8}{f:a_}{d g:b0}
def Bs(Ab:f0)(w:gl)(base:fy):Prop:=sI
def FB(K:bI)(x L:c3)(st:eo)(ps:U c3)(f:a_):Prop:=∃fd,rS K x L st f fd/\cp K fd ps []
def DD(K:bI)(mg:c3->b5 b0)(x:c3)(st:eo)(ps:U c3):Prop:=∃f,mg x=O (.ref f)/\FB K x x st ps f
def MM(K:bI)(C:a_)(x L:c3)(st:eo)(ps:U c3):Prop:=∃f,jp K C x f/\FB K x L st ps f
def II(K:bI)(C:a_)(L:c3)(st:eo)(ps:U c3):Prop:=∃f,Mk K C f/\FB K "__init__" L st ps f
theorem Qo(l:K.lookup f=O (oc,od,.func (ki x L (dG st) (ci st) (aQ st) .none d g pm an cd ct),sl))(c:jJ K cd L=bm)(k:hw K (.ref f)=bm)(h:∀(d doc pm:b0)(an:b5 a_)(cdv ct:b0)(us:U b0),?lus=?lps->C_ (ki x L (dG st) (ci st) (aQ st) .none d doc pm an cdv ct) (us,[])=hl (ps.zip us)):FB K x L st ps f:=
 (_,lZ l c k,(lZ l c k).binds h)
theorem uZ{p:U b0->Prop}(h:p [])(us:U b0)(e:?lus=0):p us:=by
 cases us;exact h;cases e
theorem uC{p:U b0->Prop}(h:∀a us,?lus=n->p (a::us)):∀us:U b0,?lus=n+1->p us
 |a::us,e=>h a us (rs e)
def bA(x L:c3)(st:eo)(ps:U c3)(us:U b0):Prop:=∀(d doc pm:b0)(an:b5 a_)(cdv ct:b0),C_ (ki x L (dG st) (ci st) (aQ st) .none d doc pm an cdv ct) (us,[])=hl (ps.zip us)
theorem Iz(l:K.lookup f=O (oc,od,.func (ki x L (dG st) (ci st) (aQ st) .none d g pm an cd ct),sl))(c:jJ K cd L=bm)(k:hw K (.ref f)=bm)(h:∀us:U b0,?lus=?lps->bA x L st ps us):FB K x L st ps f:=
 Qo l c k λd doc pm an cdv ct us e=>h us e d doc pm an cdv ct
theorem ϫ(l:K.lookup f=O (oc,od,.func (ki x L (dG st) (ci st) (aQ st) .none d g pm an cd ct),sl))(c:jJ K cd L=bm)(k:hw K (.ref f)=bm)(h:bA x L st [] []):FB K x L st [] f:=
 Iz l c k (uZ (h))
theorem Ϧ(l:K.lookup f=O (oc,od,.func (ki x L (dG st) (ci st) (aQ st) .none d g pm an cd ct),sl))(c:jJ K cd L=bm)(k:hw K (.ref f)=bm)(h:∀a,bA x L st [p0] [a]):FB K x L st [p0] f:=
 Iz l c k (uC λa=>uZ (h a))
theorem fb2(l:K.lookup f=O (oc,od,.func (ki x L (dG st) (ci st) (aQ st) .none d g pm an cd ct),sl))(c:jJ K cd L=bm)(k:hw K (.ref f)=bm)(h:∀a b,bA x L st [p0,p1] [a,b]):FB K x L st [p0,p1] f:=
 Iz l c k (uC λa=>uC λb=>uZ (h a b))
theorem ϲ{p2:c3}(l:K.lookup f=O (oc,od,.func (ki x L (dG st) (ci st) (aQ st) .none d g pm an cd ct),sl))(c:jJ K cd L=bm)(k:hw K (.ref f)=bm)(h:∀a b e,bA x L st [p0,p1,p2] [a,b,e]):FB K x L st [p0,p1,p2] f:=
 Iz l c k (uC λa=>uC λb=>uC λe=>uZ (h a b e))
theorem fb4{p2 p3:c3}(l:K.lookup f=O (oc,od,.func (ki x L (dG st) (ci st) (aQ st) .none d g pm an cd ct),sl))(c:jJ K cd L=bm)(k:hw K (.ref f)=bm)(h:∀a b e j,bA x L st [p0,p1,p2,p3] [a,b,e,j]):FB K x L st [p0,p1,p2,p3] f:=
 Iz l c k (uC λa=>uC λb=>uC λe=>uC λj=>uZ (h a b e j))
theorem ϴ{p2 p3 p4:c3}(l:K.lookup f=O (oc,od,.func (ki x L (dG st) (ci st) (aQ st) .none d g pm an cd ct),sl))(c:jJ K cd L=bm)(k:hw K (.ref f)=bm)(h:∀a b e j m,bA x L st [p0,p1,p2,p3,p4] [a,b,e,j,m]):FB K x L st [p0,p1,p2,p3,p4] f:=
 Iz l c k (uC λa=>uC λb=>uC λe=>uC λj=>uC λm=>uZ (h a b e j m))
theorem DD.cal(D:DD K mg x st ps)(b:Bs Ab w base)(h:∀f fd,rS K x x st f fd->aN Ab w K mg base CX k f fd ps sp):Fg Ab w K mg base CX k x ps sp:=
 by let(f,m,fd,F,b):=D;exact(f,fd,h f fd F,m,F.2,b)
theorem MM.cal(D:MM K C x L st ps)(b:Bs Ab w base)(h:∀f fd,rS K x L st f fd->aN Ab w K mg base CX k f fd ps sp):gW Ab w K mg base CX k C x ps sp:=
 by let(f,m,fd,F,b):=D;exact(f,fd,h f fd F,m,b)
theorem II.cal(D:II K C L st ps)(b:Bs Ab w base)(h:∀f fd,rS K "__init__" L st f fd->aN Ab w K mg base CX k f fd ps sp):vL Ab w K mg base CX k C ps sp:=
 by let(f,m,fd,F,b):=D;exact(f,fd,h f fd F,m,b)
theorem DD.rec(D:DD K mg x st ps)(b:Bs Ab w base){sp:b8->Sp}(c:∀vs H Q on,¬ sp 0 vs H Q on)(h:∀m f fd,Fg Ab w K mg base CX (k+m) x ps (sp m)->rS K x x st f fd->aN Ab w K mg base CX (k+m+1) f fd ps (sp (m+1))):∀m,Fg Ab w K mg base CX (k+m) x ps (sp m)
 |0=>D.cal b λf fd F=>(λvs H Q on z=>(c vs H Q on z).elim,λAa o s H a us vs Q on _ _ _ _ z=>(c vs H Q on z).elim)
 |m+1=>D.cal b λf fd F=>h m f fd (DD.rec D b c h m) F
end
theorem aM{t u:TS}(h:∀Ae:St->Hp->Prop,(∀a N,u D a N->Ae a N)->t { D with nx:=Ae } A H):f9 t u D A H:=h _ λ_ _ x=>x
section
variable{a:U eo}{b u:TS}
end
theorem u1(B:U V){b:b8}(h:b<=?lB):dE B (O (b:cs)) bd=B.drop b:=by
 delta dE
 rw[HT.uy,HT.rR,hG h,hv ?s]
theorem PI.alt{a b:TI}(c:PI X tg e a)(d:PI X tg e b):PI X tg e (λA H R=>a A H R\/b A H R):=λg s A H R I h=>h.elim (c g s A H R I) (d g s A H R I)
def del(H:Hp)(c:a_):Hp:=λb=>if b=c then bd else H b
theorem jB   : del H c c=bd:=d6 Y
theorem cB(h:b≠c):del H c b=H b:=du h
def lS(o:hg)(c:a_):HO:=.frz o (.ext λh=>h.get? c=O o)
section
variable{a:hg}{f:U a_}
theorem oH.at(x:oH Ab w H h)(e:H c=O (lS a c)):h.get? c=O a:=(x c _ e).1
theorem oM(e:h.get? c=O a):bo Ab w H h c (lS a c):=(e,e,(a,e),λh1 h2 q k=>k _ q)
theorem oH.frO(x:oH Ab w H h)(n:H c=bd)(e:h.get? c=O a):oH Ab w (upd H c (lS a c)) h:=λb u q=>by
 by_cases f:b=c
 ·subst f;rw[ae]at q;cases q;exact oM e
 ·rw[af f]at q;exact (x b u q).stay (λ_ _ _ z=>z) (λd z=>by rw[af (aC z n)];exact z) λd _ z=>by exact (af (aC z n)) ▸ z
theorem oH.del(x:oH Ab w H h)(n:H c=O (lS a c)):oH Ab w (del H c) h:=λb u q=>by
 by_cases e:b=c
 ·subst e;rw[jB]at q;cases q
 ·rw[cB e]at q;exact (x b u q).stay (λ_ _ _ z=>z) (λd z=>by rw[cB (bL z n nofun)];exact z) λd _ z=>by rw[cB (bL z n nofun)];exact z
theorem Un.thaw(u:Un f [] (upd H c (lS a c)) N h h')(n:H c=bd)(e:h.get? c=O a)(s:h'.get? c=O a):Un f [] H (L2.del N c) h h':=by
 have j:∀{b:a_}{d:HO},H b=O d->b≠c:=λq z=>by grind
 refine(λb d q m p g=>?_,λb d q m p g=>?_,λb d q m g=>?_,λb d q g=>u.there b d q g,λb B q=>?_,λb d B q=>?_,λb ps q=>?_)
 ·by_cases z:b=c
  ·simp_all
  ·exact u.keep b d q (by rw[af z];exact m) p g
 ·by_cases z:b=c
  ·subst z;rw[e]at q;cases q;exact(a.4,s)
  ·exact u.slot b d q (by rw[af z];exact m) p g
 ·by_cases z:b=c
  ·subst z;exact jB
  ·exact (cB z) ▸ (u.free b d q ((af z) ▸ m) g)
 ·rw[cB (j q)];exact u.tups b B (by rw[af (j q)];exact q)
 ·rw[cB (j q)];exact u.frzs b d B (by rw[af (j q)];exact q)
 ·exact (cB (j q)) ▸ (u.tbls b ps (by exact (af (j q)) ▸ q))
theorem Un.refr(u:Un f [] (L2.del H c) N h h')(n:H c=O (lS a c)):Un f [] H (upd N c (lS a c)) h h':=by
 have j:∀{b:a_},H b=bd->b≠c:=λq z=>by grind
 refine(λb d q e m g=>u.keep b d q (by rw[cB (j e)];exact e) m g,λb d q e m g=>u.slot b d q (by rw[cB (j e)];exact e) m g,
  λb d q e g=>by rw[af (j e)];exact u.free b d q (by rw[cB (j e)];exact e) g,λb d q g=>u.there b d q g,λb B q=>?_,λb d B q=>?_,λb ps q=>?_)
 ·have z:=bL q n nofun;rw[af z];exact u.tups b B (by rw[cB z];exact q)
 ·by_cases z:b=c
  ·subst z;rw[n]at q;rw[ae];exact q
  ·rw[af z];exact u.frzs b d B (by rw[cB z];exact q)
 ·have z:=bL q n nofun;exact (af z) ▸ (u.tbls b ps ((cB z) ▸ q))
end
def iQ(base:fy)(mg:c3->b5 b0):Prop:=∃b a,mg "__builtins__" =O (.ref b)/\b≠qV/\base.get? b=O a/\a.1 = .type "module" /\ a.2=O qV/\a.3 = .plain
def x0(H:Hp)(c:a_)(L:c3):Prop:=∃oc vs t,H c=O (lS oc c)/\oc.3 = .fields vs/\vs[1]?=O (.str L t)
def dW(H:Hp)(T:a_)(pos:FF)(L:c3):Prop:=∃ps,H T=O (.tbl ps)/\qS ps.1/\(mm pos ps.1=bd\/∃c,mm pos ps.1=O (.ref c)/\x0 H c L)
def nK(H:Hp)(l:a_)(L:c3)(ar:q9)(body:f3)(sc:oI)(cl:U (c3×a_)):Prop:=
 ∃pm c ctv,H l=O (lS (vg "<lambda>" L ar body sc cl pm c ctv) l)/\x0 H c L
def qH(T:a_)(H N:Hp):Prop:=∀b o,b≠T->H b=O o->N b=O o
def Te(T:a_)(L:c3)(ar:q9)(body:f3)(sc:oI)(pos:FF)(cl:U (c3×a_)):TE:=λA H Q=>dW H T pos L/\
 ∀N l,qH T H N->H l=bd->(∀p,dW H T p L->dW N T p L)->nK N l L ar body sc cl->Q (.ref l) N
theorem Th{l:U b0}{a b:cs}{c:b0}(h:qS l):qS (l++[mi a,mi b,c]):=by
 fun_induction qS l with
 |case1=>trivial
 |case2 _ _ _ _ _ _ d=>exact d h
 |case3=>exact h.elim
theorem ν(p pos:FF)(c:b0)(l:U b0)(h:qS l):mm p (l++[mi pos.1,mi pos.2,c])=mm p l\/(mm p l=bd/\mm p (l++[mi pos.1,mi pos.2,c])=O c):=by
 fun_induction qS l with
 |case1=>
  show (if _ then O c else bd)=_\/_/\(if _ then O c else bd)=_
  split
  ·exact .inr (Y,Y)
  ·exact .inl Y
 |case2 a _ b _ d r e=>
  show (if _ then O d else mm p (r++_))=(if _ then O d else mm p r)\/(if _ then O d else mm p r)=_/\(if _ then O d else mm p (r++_))=_
  split
  ·exact .inl Y
  ·exact e h
 |case3=>exact h.elim
theorem x0.mono{q:c3}(x:x0 H c q)(h:∀o,H c=O o->N c=O o):x0 N c q:=by let(oc,vs,t,e,r):=x;exact(oc,vs,t,h _ e,r)
theorem nK.mono{l:a_}{body:f3}(x:nK H l L ar body sc cl)(h:∀b o,H b=O o->N b=O o\/∃ps,o = .tbl ps):nK N l L ar body sc cl:=by
 let(pm,c,ctv,e,oc,vs,t,a,r):=x;have Ac:∀{b:a_}{o:hg},H b=O (lS o b)->N b=O (lS o b):=λq=>(h _ _ q).elim id λz=>nomatch z;exact(pm,c,ctv,Ac e,oc,vs,t,Ac a,r)
section
variable{body:f3}{j T:a_}
theorem kU(K:Hm sc X.10=hl cl)(L:X.env.7 = .ref j)(C:kL X.K j T=bm)(Ah:iQ X.5 X.4)(M:zzp (defaultsOf ar X.10=(zzq [] [])) zz0):
  PE X (.Lambda ar body sc pos) (Te T (X.env.5 ++ "<lambda>") ar body sc pos cl):=by
 rintro g s A H Q I ⟨⟨ps,y,A4,AO⟩,h⟩;refine W.kla_eval M ?_;have A9:=I.ok.mod.glob.keeps I.bk;have A5:=I.hok T _ y;have AI:=IY I.kIn C;have AA:h7≠T:=λz=>by
  let(o,es,ep,e,hd,_):=A9;rw[z,A5]at e;cases e;cases hd
 let(AB,AQ,AR,AS,A6,AJ,AT,AC):=Ah;have AU:AB≠T:=λz=>by
  have:=I.bk _ _ A6;rw[z,A5]at this;cases this;cases AJ
 have AV:AB≠h7:=λz=>by
  let(o,es,ep,e,hd,_):=I.ok.mod.2;simp only[z,e]at A6;cases A6;rw[hd]at AC;cases AC
 have AK:s.heap.BuiltinsAt X.4 T:=(AB,AQ,AR,AS,AV,AU,I.bk _ _ A6,AJ,AT,AC)
 rcases AO with M |⟨c,AW,P⟩
 ·refine W.kla_makeFunction K I.ok.3 A9 L AI A5 A4 M AA AK λc' ctv h' tk AX E G M R=>?_;let(A6,oc,vs,t,AY,AD,hd,AZ):=M;cases AY;have nT:∀{b:a_},H b=bd->b≠T:=λq z=>by subst z;rw[y]at q;cases q
  have M:=I.hok.fresh E;have w:=I.hok.fresh (ce E (dn G));have A6:=cb G;let D:hg:=vg "<lambda>" (X.env.5 ++ "<lambda>") ar body sc cl ((X.mg "__name__").getD .none) c' ctv;let m:=ps ++ #[mi pos.1,mi pos.2,.ref c'];let N:Hp:=upd (upd (upd H T (.tbl m)) c' (lS oc c')) ?zh' (lS D ?zh');have a:∀b o,b≠T->H b=O o->N b=O o:=λb o n q=>by
   show upd _ _ _ _=_;rw[af (aC q w),af (aC q M),af n];exact q
  have J:N T=O (.tbl m):=by
   show upd _ _ _ _=_;rw[af (aC y w),af (aC y M),ae]
  have S:N c'=O (lS oc c'):=by
   show upd _ _ _ _=_;rw[af A6,ae]
  have Z:N ?zh'=O (lS D ?zh'):=ae;have A7:∀b o,b≠T->s.heap.get? b=O o->(h'.push D).get? b=O o:=λb o n q=>aw _ (AX b o n q);have Ba:(h'.push D).get? ?zh'=O D:=b_ _ Y;have fr:∀b o,s.heap.get? b=O o->H b=bd->N b=bd:=λb o q n=>by
   show upd _ _ _ _=_;have:=b6 q;rw[af (cb (hy (c2 this E) G)),af (cb (c2 this E)),af (nT n)];exact n
  have un:Un X.fs [] H N s.1 (h'.push D):=by
   refine(λb o q n _ _=>A7 b o (nT n) q,λb o q n _ _=>(o.4,A7 b o (nT n) q),λb o q n _=>fr b o q n,λb o q _=>?_,λb B q=>a b _ (bL q y nofun) q,λb o u q=>a b _ (bL q y nofun) q,λb M q=>?_)
   ·by_cases z:b=T
    ·subst z;exact(_,aw _ R)
    ·exact(o,A7 b o z q)
   ·by_cases z:b=T
    ·subst z;simp only[y]at q;cases q;exact(_,J)
    ·exact(#[],by rw[a b _ z q];simp)
  have AE:oH X.1 X.w N (h'.push D):=λb u q=>by
   by_cases AL:b=?zh'
   ·subst AL;rw[Z]at q;cases q;exact oM Ba
   by_cases AM:b=c'
   ·subst AM;rw[S]at q;cases q;exact oM (aw _ AD)
   by_cases AF:b=T
   ·subst AF;rw[J]at q;cases q;exact aw _ R
   ·have M:H b=O u:=by rw[<-q];show _=upd _ _ _ _;rw[af AL,af AM,af AF]
    refine (I.hok b u M).stay (λd v hd r=>A7 d v (λAN=>?_) r) (λd r=>a d _ (bL r y nofun) r) λd B r=>a d _ (bL r y nofun) r;rcases hd with rfl |hd
    ·exact AF AN
    ·subst AN;rw[y]at hd;cases hd
  have cd:x0 N c' (X.env.5 ++ "<lambda>"):=(oc,vs,t,S,hd,AZ)
  have AG:Inv X g A N { s with heap:=h'.push D,toks:=tk }:=I.un un AE;have Bb:qS m.1:=by
   have:=Th (a:=pos.1) (b:=pos.2) (c:=.ref c') A4;simpa[m]using this
  have kt:∀p,dW H T p (X.env.5 ++ "<lambda>")->dW N T p (X.env.5 ++ "<lambda>"):=λp ⟨A3,A8,_,AH⟩=>by
   rw[y]at A8;cases A8;refine(m,J,Bb,?_);rw[show m.1=ps.1++[mi pos.1,mi pos.2,.ref c'] by simp[m]];rcases ν p pos (.ref c') ps.1 A4 with e |⟨_,e⟩
   ·rw[e];exact AH.imp id λ⟨d,f,M,m,G,E,r⟩=>(d,f,M,m,G,a _ _ (bL E y nofun) E,r)
   ·exact .inr (c',e,cd)
  exact(.ref ?zh',N,AG,Y,h N _ a w kt (_,c',ctv,Z,cd))
 ·refine W.kla_makeFunctionHit K I.ok.3 A9 L AI A5 A4 AW AK λctv h' tk m M=>?_;let D:hg:=vg "<lambda>" (X.env.5 ++ "<lambda>") ar body sc cl ((X.mg "__name__").getD .none) c ctv;have w:=I.hok.fresh M;have a:∀b o,H b=O o->upd H ?zh' (lS D ?zh') b=O o:=λb o q=>by rw[af (aC q w)];exact q
  have AG:Inv X g A (upd H ?zh' (lS D ?zh')) { s with heap:=h'.push D,toks:=tk }:=
   I.laid (λb u q=>aw _ (m b u q)) M (oM (b_ _ Y))
  exact(.ref ?zh',_,AG,Y,h _ _ (λb o _ q=>a b o q) w (λp ⟨A3,A8,M,AH⟩=>(A3,a _ _ A8,M,AH.imp id λ⟨d,f,x⟩=>(d,f,x.mono λo q=>a d o q))) (_,c,ctv,ae,(P.mono λo q=>a c o q)))
end
def gX(sc:oI)(x y:c3):Prop:=sc.1 = .function/\sc.4=b1/\sc.3=b1/\x≠y/\sc.names.lookup y=O .free/\(∀p∈sc.2,(p.2 = .cell\/p.2 = .free)->p.1=x\/p.1=y)/\
 ((sc.names.lookup x=O .local/\∀n c,lq n sc.2 [(zzq y c)]=[(zzq y c)])\/(sc.names.lookup x=O .cell/\∀n c,lq n sc.2 [(zzq y c)]=[(zzq x n),(zzq y c)]))
noncomputable def ij(sc:oI)(Af:a_)(y:c3)(c:a_):U (c3×a_):=lq (Af+1) sc.2 [(zzq y c)]
theorem gX.cells{y:c3}(S:gX sc x y)(Af c:a_){z:c3}(h:(ij sc Af y c).lookup z=O d):(z=y/\d=c)\/(z=x/\d=Af+1/\sc.names.lookup x=O .cell):=by
 obtain⟨_,_,_,a,_,_,⟨h1,h2⟩ |⟨h1,h2⟩⟩:=S
 ·delta ij at h
  rw[h2]at h;have:=fo h;simp at this;exact .inl this
 ·delta ij at h
  rw[h2]at h;have:=fo h;simp at this;rcases this with q |q
  ·exact .inr (q.1,q.2,h1)
  ·exact .inl q
theorem gX.celly{y:c3}(S:gX sc x y)(Af c:a_):(ij sc Af y c).lookup y=O c:=by
 obtain⟨_,_,_,a,_,_,⟨h1,h2⟩ |⟨h1,h2⟩⟩:=S
 ·delta ij
  simp_all
 ·delta ij
  rw[h2,kz,ha.mpr (fU a)];simp
theorem gX.cellx{y:c3}(S:gX sc x y)(Af c:a_)(h:sc.names.lookup x=O .cell):(ij sc Af y c).lookup x=O (Af+1):=by
 obtain⟨_,_,_,a,_,_,⟨h1,h2⟩ |⟨h1,h2⟩⟩:=S
 ·grind
 ·delta ij
  simp_all
theorem Op{y:c3}{Ac:a_}{f:b5 a_}{Q:u2->b'->Prop}(S:gX sc x y)(h:∀h' tk m,(∀b o,s.heap.get? b=O o->h'.get? b=O o)->h'.Ns ?ss m->(sc.names.lookup x=O .local->m x=O u)->(sc.names.lookup x=O .cell->h'.IsCell (?ss+1) (O u))->
   Q (newEnv sc ?ss Ac (ij sc ?ss y c) L f cd bd b) { s with heap:=h',toks:=tk }):
  dy M Aa (En sc Ac [(zzq y c)] [(zzq x u)] L f cd bd b) Q on s:=by
 have g:=S.1;simp only[En,Option.isSome_none,EY,J5];refine al (wpAny_alloc ?_);refine al (wpAny_layCells _ (λname kind cells=>by grind) _ _ _ _ ?_);rw[show ({ s with heap:=s.heap.push { cls:=.type "frame",data:=.dict #[] } }:b').heap.objs.size=?ss+1 from fN ..];have j:∀b o,s.heap.get? b=O o->(pushCells (s.heap.push { cls:=.type "frame",data:=.dict #[] }) sc.2).get? b=O o:=λb o q=>IZ _ _ _ _ (aw _ q);have v:(pushCells (s.heap.push { cls:=.type "frame",data:=.dict #[] }) sc.2).Ns ?ss λ_=>bd:=(Ϙ s.1 (.type "frame")).keeps (IZ _ _);refine al ?_;simp only[ls];refine al (al ?_);rcases S.2.2.2.2.2.2 with⟨e,w⟩ |⟨e,w⟩
 ·refine FH e v (λh' f d=>b4 ?_) (by rw[g];rfl);refine b4 (b4 (h _ _ _ (λb o q=>d.extBut b o (cb (b6 q)) (j b o q)) f (λ_=>?s) λz=>?_));rw[z]at e;cases e
 ·have ok:=cellsFrom_ok sc.2 (s.heap.push { cls:=.type "frame",data:=.dict #[] }) (?ss+1) [] (λ_ _ f=>(nomatch f),qs) ?x;rw[fN]at ok;have A:(lq (?ss+1) sc.2 []).lookup x=O (?ss+1):=by
   have app:∀(ns:U (c3×n0)) (n) (a b:U (c3×a_)),lq n ns (a++b)=lq n ns a++b:=by
    intro ns;induction ns with
    |nil=>exact λ_ _ _=>rfl
    |cons p r f=>
     intro n a b;unfold lq
     split
     ·exact f (n+1) ((zzq p.1 n)::a) b
     ·exact f n a b
   have q:=w (?ss+1) c;rw[show [(zzq y c)]=[]++[(zzq y c)] from Y,app]at q;have f:lq (?ss+1) sc.2 []=[(zzq x (?ss+1))]:=List.append_cancel_right q;rw[f];simp
  refine Ge g e (S.cellx _ _ e) ((ok.empty _ _ (fo A)).1) λh' f d=>b4 ?_;refine b4 (b4 (h _ _ _ (λb o q=>d.extBut b o (cb (eA (b6 q))) (j b o q)) (v.sameBut d (cb (f_ _))) (λz=>?_) λ_=>f));rw[z]at e;cases e
noncomputable def jC(L:c3)(sc:oI)(Af l:a_)(cd:b0)(y:c3)(c:a_):u2:=newEnv sc Af h7 (ij sc Af y c) (L ++ ".<locals>.") (O l) cd bd qV
noncomputable def jA(CX:zH)(Ab:f0)(w:gl)(K:bI)(mg:c3->b5 b0)(base:fy)(x y:c3)(L:c3)(sc:oI)(l:a_)(cd:b0)(c:a_)(Aa:hB)(outer:U u2)(s:b')(H:Hp)(on:XK):Cx where
 prog:=Ab
 w:=w
 K:=K
 mg:=mg
 base:=base
 A:=Aa.deeper (jC L sc ?ss l cd y c)
 N:=[x,y]
 s₀:=s
 H₀:=H
 env:=jC L sc ?ss l cd y c
 outer:=outer
 stack:=jC L sc ?ss l cd y c::outer
 ex:=[]
 calm:=bm
 fn:=λz=>decide (z=x)
 pn:=[]
 xe:=λe s'=>dy (ds Ab w) (Aa.deeper (jC L sc ?ss l cd y c)) (leaving (jC L sc ?ss l cd y c) e) (λ_ a=>CX outer H s on e a) (λb a=>CX outer H s on b a) s'
section
variable{y:c3}{l:a_}{E:XK}
theorem zn:c8 (tu Ab w) (jA (tu Ab w) Ab w K mg base x y L sc l cd c Aa outer s H E) E:=by
 rintro g A H1 s1 e s' I ⟨a,cls,p,N,Ah,rfl,os,d,h,v,u,j,rd,B⟩;refine Ik I.ok.10 Y h λh2 m f=>?_;have C:=u.fly m.1 f rd λb f=>by
  let(_,o,D,G):=h.2.2.1.mem f;exact(o,D,G)
 have h:=I.call' (s':={ s' with heap:=h2 }) os C (j.kept m.1) d λb f=>cx f ?s;refine(a,cls,p,N,Ah,Y,h.2,d,m,v,h.4,j,λb o e f=>?_,B);have d:b∉r8 (jA (tu Ab w) Ab w K mg base x y L sc l cd c Aa outer s H E).stack:=λh=>by
  rcases bG.mp (I.stkSub b h) with z |z
  ·have:=b6 e;exact cx (c2 this I.ok.5) ?x
  ·exact f z
 let(h,e1):=I.base.there b o e (by intro z;exact cx (show b∈([]) from z) ?s);let(j,m,q):=rd b h e1 d;refine(j,m,λn=>?_);have k:=I.base.keep b o e n f (by intro z;exact cx (show b∈([]) from z) ?s);rw[e1]at k;rw[q (I.base.free b o e n (by intro z;exact cx (show b∈([]) from z) ?s))];exact c_ k
theorem SY{B:b0}{v z:V}{oc:hg}(S:gX sc x y)(hd:Aa.1=bd)(g:eR Ab w K mg base Aa outer s H)(A:s.heap.get? c=O oc)(D:oc.3 = .cell (O B))(J:H c=bd)(M:aB z B)(N:aB v u)(j:∀b o,s.heap.get? b=O o->h1.get? b=O o)(P:h1.Ns ?ss m)(Q:sc.names.lookup x=O .local->m x=O u)(n:sc.names.lookup x=O .cell->h1.IsCell (?ss+1) (O u)):
  Inv (jA CX Ab w K mg base x y L sc l cd c Aa outer s H E) [] [O v,O z] H { s with heap:=h1,toks:=tk }:=by
 have e:∀b:a_,b∉(jA CX Ab w K mg base x y L sc l cd c Aa outer s H E).ex:=λb z=>cx (show b∈([]) from z) ?s;have G:=b6 A;have f:h1.IsCell c (O B):=(oc,j _ _ A,D)
 refine((g.2,S.1,Y,Y,b2 _,λa b d h1 h2=>?_,λa R=>?_,λa d C h=>?_,λ_=>hd,A_ g.1,.inr (Y,Y),λb z=>cx z (e b),g.3,g.4,λb _ _=>e b,λb z=>cx z (e b),g.5,g.6),
  rfl,g.8,Un.kept j,(m,P,λi a t h1 h2 I=>?_),λa d h=>?_,g.hok.fresh (b2 _),λa d h=>?_,λp A=>cx (show p∈([]:U (a_×hg)) from A) ?s,g.hok.kept j,Y)
 ·rcases S.cells _ _ h1 with⟨j,e⟩ |⟨j,e,_⟩ <;> rcases S.cells _ _ h2 with⟨A,D⟩ |⟨A,D,_⟩
  ·simp only[j,A]
  ·exact cx (e.symm.trans D) (cb (eA G))
  ·exact cx (D.symm.trans e) (cb (eA G))
  ·simp only[j,A]
 ·have A:sc.names.lookup a=O .cell\/sc.names.lookup a=O .free:=R;have D:a=x\/a=y:=by
   rcases A with q |q
   ·exact S.2.2.2.2.2.1 _ (fo q) (.inl Y)
   ·exact S.2.2.2.2.2.1 _ (fo q) (.inr Y)
  rcases D with D |G
  ·rw[D]at A ⊢;rcases S.2.2.2.2.2.2 with⟨q,_⟩ |⟨q,_⟩
   ·simp_all
   ·exact(_,S.cellx _ _ q)
  ·rw[G];exact(c,S.celly _ _)
 ·have C:=C;rcases S.cells _ _ h with⟨j,e⟩ |⟨j,e,_⟩
  ·exact cx ((eh C).symm.trans j) S.2.2.2.1
  ·exact e ▸ (h0 _)
 ·have I:=I
  match i,h1,h2 with
  |0,h1,h2=>
   cases h1;cases h2;refine(u,N,?_);rcases S.2.2.2.2.2.2 with⟨q,_⟩ |⟨q,_⟩
   ·exact .inl (q,Q q)
   ·exact .inr (.inl q,_,S.cellx _ _ q,n q)
  |1,h1,h2=>
   cases h1;cases h2;exact(B,M,.inr (.inr S.2.2.2.2.1,c,S.celly _ _,f))
 ·rcases S.cells _ _ h with⟨j,e⟩ |⟨j,e,q⟩
  ·exact e ▸ ((_,f))
  ·exact e ▸ ((_,n q))
 ·rcases S.cells _ _ h with⟨j,e⟩ |⟨j,e,q⟩
  ·exact e ▸ J
  ·exact e ▸ (g.hok.fresh (h0 _))
end
def nP(CX:zH):Prop:=∀{outer:U u2}{H:Hp}{s:b'}{on:XK}{e:b0}{s':b'}{c:a_}{oc:hg},H c=O (lS oc c)->s.heap.get? c=O oc->c∉r8 outer->
 CX outer (del H c) s (λa b H2=>H2 c=bd->on a b (upd H2 c (lS oc c))) e s'->CX outer H s on e s'
def qK(CX:zH):Prop:=∀{outer:U u2}{H:Hp}{s:b'}{on:XK}{e:b0}{s':b'}{c:a_}{oc:hg},H c=bd->s.heap.get? c=O oc->
 CX outer (upd H c (lS oc c)) s (λa b H2=>on a b (del H2 c)) e s'->CX outer H s on e s'
theorem uq:nP r_:=λ_ _ _ h=>h.elim
theorem L':qK r_:=λ_ _ h=>h.elim
theorem zZ   : nP (tu Ab w):=by
 rintro outer H s on e s' c oc v j p ⟨a,cls,x,N,Ah,rfl,os,d,f,y,u,g,rd,A⟩;have B:Ah.get? c=O oc:=by
  let(m,h,q):=rd c oc j p;exact (q jB) ▸ h
 have p:=u.free c oc j jB ?s;have j:a≠c:=λz=>by
  have:=f.2.1
  grind
 refine(a,cls,x,upd N c (lS oc c),Ah,Y,os,d,f,by rw[af j];exact y,u.refr v,g.frO p B,λb o q C=>?_,A p);let(m,h,j):=rd b o q C;refine(m,h,λn=>j ?_);rw[cB λz=>by grind];exact n
theorem LV   : qK (tu Ab w):=by
 rintro outer H s on e s' c oc h j ⟨a,cls,m,N,Ah,rfl,os,d,f,v,u,g,rd,p⟩;have e1:=u.frzs c _ _ ae;have v:=g.at e1;refine(a,cls,m,del N c,Ah,Y,os,d,f,?_,u.thaw h j (f.1 _ _ v),g.del e1,λb o q x=>?_,p)
 ·delta del
  simp_all
 ·let(d,f,g):=rd b o q x;refine(d,f,λn=>?_);by_cases z:b=c
  ·grind
  ·exact g ((af z) ▸ n)
def YH(H:Hp)(l:a_)(L:c3)(ar:q9)(body:f3)(sc:oI)(cl:U (c3×a_))(pm:b0)(c:a_)(ctv:b0):Prop:=
 H l=O (lS (vg "<lambda>" L ar body sc cl pm c ctv) l)/\x0 H c L
def K'(L:c3)(ar:q9)(body:f3)(sc:oI)(l:a_)(y:c3)(c:a_)(pm:b0)(c':a_)(ctv:b0)(d:V->V->Hp->VK->XK->Prop):Sp:=λvs H Q on=>
 ∃v z oc u,vs=[v]/\YH H l L ar body sc [(zzq y c)] pm c' ctv/\H c=O (lS oc c)/\oc.3 = .cell (O u)/\aB z u/\
  d v z (del H c) (λr H2=>H2 c=bd->Q r (upd H2 c (lS oc c))) (λa b H2=>H2 c=bd->on a b (upd H2 c (lS oc c)))
theorem WY{k:b8}{l:a_}{y:c3}{body:f3}{f:V->V->Hp->VK->XK->Prop}(S:gX sc x y)(R:nP CX)(g:∀(Aa:hB)(outer:U u2)(s:b')(H:Hp)(v z:V)(Q:VK)(on:XK),aZ k (Aa.deeper (jC L sc ?ss l (.ref c') y c))->f v z H Q on->
   ∃t,PE (jA CX Ab w K mg base x y L sc l (.ref c') c Aa outer s H on) body t/\t [O v,O z] H Q):
  aN Ab w K mg base CX (k+1) l (F2 "<lambda>" L ar body sc [(zzq y c)] pm (.ref c') ctv) [x] (K' L ar body sc l y c pm c' ctv f):=by
 refine(by rintro vs H Q on ⟨_,_,_,_,e,_⟩;rw[e];rfl,λAa outer s H n us vs Q on j d B r f=>?_);let(v,z,oc,u,Y,(C,A,fs,t,n,hd,D),h,E,G,p):=f;let(f,Y,J):=cA r;have f:=d.hok.at h;have A:c∉r8 outer:=λq=>by rw[d.frf c q]at h;cases h
 refine W.kla_callFunE j.depth (d.hok.at C) Y S.2.1 S.2.2.1 Y (c',_,fs,t,Y,d.hok.at n,hd,D) (B _ _ _ _ ?_);refine Op S λh1 tk m B D M n=>((d.mod.nolimit.keeps λb o e=>(d.bs b o e).1).keeps B,W.kla_codeExpr ?_)
 have C:∀{b:a_},H b=bd->del H c b=bd:=λq=>by
  delta del
  simp_all
 have e1:eR Ab w K mg base Aa outer s (del H c):=(d.1,d.2,λb o q=>((d.bs b o q).1,C (d.bs b o q).2),d.4,d.5,λb q=>C (d.frf b q),d.hok.del h,d.8)
 let(t,C,d):=g Aa outer s (del H c) v z _ _ (j.deeper _) p;have I:Inv (jA CX Ab w K mg base x y L sc l (.ref c') c Aa outer s (del H c) (λa b H2=>H2 c=bd->on a b (upd H2 c (lS oc c)))) [] [O v,O z] (del H c) { s with heap:=h1,toks:=tk }:=
  SY S j.1 e1 f E jB G J B D M n
 refine ew (C [] _ _ _ _ I d) (λn s' ⟨r,H2,Ag,C,q⟩=>?_) λe s' n=>ew n (λ_ s2 q=>R h f A q) λn s2 q=>R h f A q;have n:=Ag.base.free c oc f jB nofun;exact(r,upd H2 c (lS oc c),Ag.2,Ag.3,Ag.base.refr h,Ag.hok.frO n (Ag.base.keep c oc f jB A nofun),C,q n)
section
variable{k i:b8}{y:c3}{E:XK}{d:TA}
inductive W1(i:b8)(c:a_)(sp:Sp)(E:XK)(A:St)(Q:VK)(vs:U V)(H1:Hp):Prop
 |i(v:_)(_:A[i]?=O (O v))(_:∀oc u,H1 c=bd->oc.3 = .cell (O u)->aB v u->sp vs (upd H1 c (lS oc c)) (λr H2=>Q r (del H2 c)) λa b H2=>E a b (del H2 c))
def PD(i:b8)(c:a_)(sp:Sp)(E:XK)(d:TA):TE:=λA H Q=>d A H λvs H1=>W1 i c sp E A Q vs H1
theorem Fg.peZ(C:Fg X.1 X.w X.K X.4 X.5 CX k x ps sp)(N:aZ j X.A)(P:c8 CX X E)(R:qK CX)(a:PA X (e::es) d)(J:X.N[i]?=O y)(L:X.env.scope.names.lookup y=O .cell)(D:X.env.cells.lookup y=O c)(K:X.fn y=bm)(S:zzp (k<=j) zz1)(M:zzp (Gl X x) zz0)(w:zzp ((x ==("__debug__" : c3))=b1) zz1)(T:zzp (cH (e::es) X.10=(zzq b1 (eval e X.10))::cH es X.10) zz0)(G:zzp ((gx pos (cH es X.10)).any (·.1)=b1) zz0):
  PE X (.Call (.Name x p) (e::es) [] pos) (PD i c sp E d):=by
 let(f,fd,F,Z,A3,B):=C;intro g s A H Q I h;refine fq (gC I M Z ?_ w);refine qC I.ok.mod.1 A3 (gv (a pos g s A H _ I h) λus s1 ⟨vs,H1,a,r,v,w,q⟩=>(a.kIn,?_)) T G;have G:=a.freeC y c D;let(m,T,M):=a.5;let(u,T,lk):=M i y v J w (.inr (.inl L));have w:s1.heap.IsCell c (O u):=by
  rcases lk with⟨M,_⟩ |⟨_,A3,J,Z⟩
  ·exact cx (L.symm.trans M) ?s
  ·rw[D]at J;cases J;exact Z
 let(oc,L,ed):=w;have q:=q oc u G ed T;have M:∀{b:a_},b<?sX.s₀->H1 b=bd->upd H1 c (lS oc c) b=bd:=λB n=>by
  rw[af (cb (c2 B (a.ok.cab y c K D)))];exact n
 have w:=a.env0;have e1:eR X.1 X.w X.K X.4 X.5 X.A X.12 s1 (upd H1 c (lS oc c)):=by
  refine(w.1,w.2,λb o q=>((w.bs b o q).1,M (c2 (b6 q) a.ok.14) (w.bs b o q).2),w.4,w.5,λb B=>?_,w.hok.frO G L,w.8);rcases bG.mp (a.stkSub b B) with z |z
  ·rw[af (z ▸ (a.cne y c D).symm)];exact w.frf b B
  ·let(_,o,D,_):=a.ok.funs.mem z;exact M (b6 D) (w.frf b B)
 have w:?lus=?lps:=?lr ▸ (F.len _ _ _ _ q);have D:=B s1 us a.kIn (by rw[f2];exact w);rw[f2]at D;refine na (h6 (F.run X.A X.12 s1 _ (us,[]) us vs _ _ (N.mono S) e1 D r q) λD s' w=>?_);cases D with
 |error e=>exact P g A H1 s1 e s' a (R G L w)
 |ok D=>
  cases D with
  |ret D=>
   let(M,H2,os,B,un,D,T,J):=w;have K:=un.frzs c _ _ ae;exact a.after (M,del H2 c,os,B,un.thaw G L (D.at K),D.del K,T,J)
  |next=>exact fb w
  |brk=>exact fb w
  |cont=>exact fb w
def Gb(K:bI)(H:Hp)(l:a_):Prop:=(∃oc od fd sl,K.lookup l=O (oc,od,.func fd,sl))\/∃oc od fd sl,H l=O (lS (oc,od,.func fd,sl) l)
theorem Gb.at{g:U (a_×hg)}{A:St}{H:Hp}{s:b'}{l:a_}(I:Inv X g A H s)(h:Gb X.K H l):W.FnAt l s.1:=by
 rcases h with⟨oc,od,fd,sl,e⟩ |⟨oc,od,fd,sl,e⟩
 ·exact(oc,od,fd,sl,I.kIn _ _ e)
 ·exact(oc,od,fd,sl,I.hok.at e)
inductive SV(Ab:f0)(w:gl)(K:bI)(mg:c3->b5 b0)(base:fy)(CX:zH)(k:b8)(i:b8)(E:XK)(d:TA)(A:St)(H:Hp)(Q:VK):Prop
 |i(l fd ps sp:_)(_:A[i]?=O (O (.ref l)))(_:Gb K H l)(_:aN Ab w K mg base CX k l fd ps sp)(_:cp K fd ps [])(_:d A H λvs H1=>Gb K H1 l/\sp vs H1 Q E)
theorem ua(Ab:f0)(w:gl)(K:bI)(mg:c3->b5 b0)(base:fy)(k:b8)(c:aZ j X.A)(f:c8 CX X E)(m:PA X (e::es) d)(b:PE X (.Name x p) (cn i))(n:k<=j)(h1:zzp (X.1=Ab) zz0)(h2:zzp (X.w=w) zz0)(y:zzp (X.K=K) zz0)(z:zzp (X.4=mg) zz0)(B:zzp (X.5=base) zz0)(C:zzp (cH (e::es) X.10=(zzq b1 (eval e X.10))::cH es X.10) zz0)(a:zzp ((gx pos (cH es X.10)).any (·.1)=b1) zz0):
  PE X (.Call (.Name x p) (e::es) [] pos) (SV Ab w K mg base CX k i E d):=by
 subst h1 h2 y z B;rintro g s A H Q I ⟨l,fd,ps,sp,e1,y,F,z,h⟩;refine fq (gv (b g s A H (λv N=>v = .ref l/\N=H) I (_,e1,Y,Y)) λu s1 ⟨v,N,b,B,D,G⟩=>?_);subst D;subst G;obtain rfl:u=eM l:=B;refine W.callWith_F (y.at b) (gv (m pos g s1 A _ _ b h) λus s2 ⟨vs,H2,b,r,y,q⟩=>(y.at b,?_)) C a;exact m7 F (c.mono n) z .nil f b r ?x
end
def qJ(H:Hp)(ts:U a_):Prop:=∀p∈ts,H p=O (.tbl #[])
section
variable{g:c3->b5 b0}{k:b8}{f:b'}
theorem UR(I:K.In f.1)(D:f.heap.Ns h7 mg)(J:f.heap.Ns qV g)(L:∀x:c3,x ≠ "__name__" -> g x=ln x)(E:f.heap.NoLimit)(Z:f.2 = #[])(M:iQ f.1 mg)(B:f.heap.get? a=O { cls:=.type "list",data:=.seq ?avs })(hi:sC vs ns)(R:?lns<=bT)(A3:aZ k B1)(C:∀p∈ts,f.heap.get? p=O (Ip #[])/\K.lookup p=bd/\∃c,kL K c p=bm)(F:∀base:fy,K.In base->base.Ns h7 mg->iQ base mg->aN Ab w K mg base CX k fa fd [x] sp)(y:∀(s:b')(u:b0),zJ s fd ([u],[]) [(zzq x u)])(P:∀H:Hp,qJ H ts->eb K H a (ns.map V.int)->sp [.ref a] H (λv _=>v = .bl bm) λ_ _ _=>fP)(Q:∀H e s',CX [] H f (λ_ _ _=>fP) e s'->fP):
  lp (ds Ab w) B1 (.call (.ref fa) ([.ref a],[])) (λr s'=>r = .ok (.ret (.bool bm))/\OldK f.1 s'.1/\s'.5=f.5/\qW s'.2) f:=by
 have S:=Lb hi;let j:HO:=.frz { cls:=.type "list",data:=.seq ?avs } (.lst (ns.map V.int));let H:Hp:=λb=>if b∈ts then O (.tbl #[]) else if b=a/\K.lookup a=bd then O j else bd
 have A4:a∉ts:=λm=>by
  have:=(C a m).1;rw[B]at this;cases this
 have T:∀{b},b∈ts->H b=O (.tbl #[]):=λm=>d6 m;have G:∀{b u},H b=O u->(b∈ts/\u = .tbl #[])\/(b=a/\K.lookup a=bd/\u=j):=λ{b u} e=>by
  by_cases m:b∈ts
  ·rw[T m]at e;cases e;exact .inl (m,Y)
  ·by_cases z:b=a/\K.lookup a=bd
   ·have e:(if b∈ts then O (HO.tbl #[]) else if b=a/\K.lookup a=bd then O j else bd)=O u:=e;rw[du m,d6 z]at e;cases e;exact .inr (z.1,z.2,Y)
   ·have e:(if b∈ts then O (HO.tbl #[]) else if b=a/\K.lookup a=bd then O j else bd)=O u:=e;rw[du m,du z]at e;cases e
 have free:∀{b o},f.heap.get? b=O o->o.1≠.none->o.1≠.type "list" -> H b=bd:=λ{b o} e j A=>by
  cases q:H b with
  |none=>rfl
  |some u=>
   rcases G q with⟨m,_⟩ |⟨z,_⟩
   ·have:=(C b m).1;rw[e]at this;cases this;exact cx Y j
   ·rw[z,B]at e;cases e;exact cx Y A
 have A:∀{b o es ep},f.heap.get? b=O o->o.3 = .dict es ep->H b=bd:=λ{b o es ep} e d=>by
  cases q:H b with
  |none=>rfl
  |some u=>
   rcases G q with⟨m,_⟩ |⟨z,_⟩
   ·have:=(C b m).1;rw[e]at this;cases this;cases d
   ·rw[z,B]at e;cases e;cases d
 have j:∀{b m},f.heap.Ns b m->(iG f.1 H).Ns b m:=λ{b m} ⟨o,es,ep,e,d,r⟩=>(o,es,ep,sK e (A e d),d,r)
 have X:K.In (iG f.1 H):=λb o e=>sK (I b o e) (by
  cases q:H b with
  |none=>rfl
  |some u=>
   rcases G q with⟨m,_⟩ |⟨z,n,_⟩
   ·rw[(C b m).2.1]at e;cases e
   ·rw[z,n]at e;cases e)
 have A:oH Ab w H f.1:=λb u e=>by
  rcases G e with⟨m,rfl⟩ |⟨rfl,_,rfl⟩
  ·exact (C b m).1
  ·exact(B,by rw[ai];exact R,vs,_,S,B)
 have A5:Mod K mg (iG f.1 H):=(X,j D,(g,j J,L),by let(A6,h1,h2):=E;exact(A6,j h1,h2))
 have A6:iQ (iG f.1 H) mg:=by let(A7,A8,A9,AA,L,E,r):=M;exact(A7,A8,A9,AA,sK L (free L (by rw[E];nofun) (by rw[E];exact λz=>cx (Kk z) ?a)),E,r)
 have L:eR Ab w K mg (iG f.1 H) B1 [] f H:=(Y,A5,λb o e=>UU e,g3 (Ny _ _),trivial,λb J=>cx (show b∈([]) from J) ?s,A,.of_eq Z)
 have J:eb K H a (ns.map V.int):=by
  cases E:K.lookup a with
  |none=>exact .inl (.inr (_,by show (if a∈ts then _ else if a=a/\K.lookup a=bd then _ else _)=_;rw[du A4,d6 (Y,E)]))
  |some o=>
   have e:=I a o E;rw[B]at e;cases e;exact .inr (_,?avs,_,E,Y,Y,Y,by rw[b7,?lhi];exact R,by simpa using S)
 refine h6 ((F _ X (j D) A6).run B1 [] f H ([.ref a],[]) [.ref a] [.ref a] _ _ A3 L (y f (.ref a)) (.cons Y .nil) (P H (λp m=>T m) J)) λr s' h=>?_;cases r with
 |error e=>exact (Q H e s' h).elim
 |ok j=>
  cases j with
  |next=>exact fb h
  |brk=>exact fb h
  |cont=>exact fb h
  |ret u=>
   let(v,N,os,y,un,j,r',q):=h;have E:=q;subst E;obtain rfl:u=ke bm:=r';refine(Y,(λb o e=>?_,λb o e=>un.there b o e ?s),os,y);cases q:H b with
   |none=>exact .inl (un.keep b o e q (by intro z;exact cx (show b∈([]) from z) ?s) ?s)
   |some u=>
    rcases G q with⟨m,rfl⟩ |⟨z,_,rfl⟩
    ·let(y,E):=un.tbls b _ q;let(B,_,c,L):=C b m;have J:=(IY I L).tab B;rw[e]at B;cases B;exact .inr (.inl (J.isCodeTable,Y,#[],y,Y,j b _ E))
    ·have E:=un.frzs b _ _ q;have y:=(A b _ q).1;rw[e]at y;cases y;exact .inl ((j b _ E).1)
end
theorem Z3{l:Ht}{k:b8}{d:ϊ}{K:Jz->bI}{sp:bI->U a_->Sp}(D:l.5=O n)(z:n<=bT)(b:d.params.7=[])(I:aZ k B1)(J:∀(w:gl)(h:fy),YP w h->(K w.2).In h)(L:∀(w:gl)(h:fy),YP w h->∀p∈ts,h.get? p=O (Ip #[]))(F:∀(w:gl)(mg:c3->b5 b0)(fa:a_)(h:fy),(K w.2).In h->h.Ns h7 mg->mg d.1=O (.ref fa)->
   (∀p∈ts,(K w.2).lookup p=bd/\∃c,kL (K w.2) c p=bm)/\∃fd:i3,(∀(s:b')(u:b0),zJ s fd ([u],[]) [(zzq x u)])/\
    ∀base:fy,(K w.2).In base->base.Ns h7 mg->iQ base mg->aN l.1 w (K w.2) mg base CX k fa fd [x] (sp (K w.2) ts))(A:∀(K:bI)(H:Hp)(a:a_)(ns:U cs),?lns<=n->qJ H ts->eb K H a (ns.map V.int)->sp K ts [.ref a] H (λv _=>v = .bl bm) λ_ _ _=>fP)(B:∀(H:Hp)(s:b')(e:b0)(s':b'),CX [] H s (λ_ _ _=>fP) e s'->fP):
  W.WalkO q loose XP YP l.row.1 d [] (λf vs=>EJ f vs):=by
 refine Att.B' D b λw D j mg P fa o pm cd doc a vs ns G E Q hd M C y g b N=>?_;have D:=J w _ E;let(J,fd,M,P):=F w mg fa _ D G.T.g C;exact UR D G.T.g G.T.b G.T.9 G.T.3 N G.T.11 y g (ce b z) I (λp m=>(L w _ E p m,J p m)) P M (λH D J=>A _ H a ns b D J) λH e s'=>B H j e s'
structure ir(K:bI)(x qual:c3)(st:eo)(f:a_)(fd:i3)(c T:a_):Prop where
 ex:∃(oc:b0)(od:b5 a_)(kV doc pm:b0)(an:b5 a_)(ct:b0)(osl:fK (b5 b0)),
  fd=ki x qual (dG st) (ci st) (aQ st) .none kV doc pm an (.ref c) ct/\K.lookup f=O (oc,od,.func fd,osl)/\jJ K (.ref c) qual=bm
 hd:kL K c T=bm
section
variable{f T:a_}{k:b8}
theorem ir.ok(F:ir K x L st f fd c T)(S:b9 Ae ps (aQ st))(len:∀vs H Q on,sp vs H Q on->?lvs=?lps)(a:∀(Aa:hB)(outer:U u2)(s:b')(H:Hp)(vs:U V)(Q:VK)(on:XK),aZ k (Aa.deeper (nI L (aQ st) ?ss f (.ref c)))->sp vs H Q on->
   ∃t,t2 (c6 CX Ab w K mg base Ae L (aQ st) f (.ref c) Aa outer s H on) (ci st) t/\t { nx:=λ_ N=>Q .non N,rt:=Q } (fC Ae vs) H):aN Ab w K mg base CX (k+1) f fd ps sp:=by
 let(oc,od,kV,doc,pm,an,ct,osl,Y,lk,b):=F.1;exact rT lk b S len λAa outer s H vs Q on d b=>a Aa outer s H vs Q on d b
theorem ir.o(F:ir K x L st f fd c T)(Ae:U c3)(a:Ae.Nodup->∀(Aa:hB)(outer:U u2)(s:b')(H:Hp)(vs:U V)(Q:VK)(on:XK),aZ k (Aa.deeper (nI L (aQ st) ?ss f (.ref c)))->sp vs H Q on->
   ∃t,t2 (c6 CX Ab w K mg base Ae L (aQ st) f (.ref c) Aa outer s H on) (ci st) t/\t { nx:=λ_ N=>Q .non N,rt:=Q } (fC Ae vs) H)(S:zzp (b9 Ae ps (aQ st)) zz5)(len:zzp (∀vs H Q on,sp vs H Q on->?lvs=?lps) zz6):aN Ab w K mg base CX (k+1) f fd ps sp:=F.ok S len (a S.4)
end
inductive Fb(w:gl)(K:bI)(mg:c3->b5 b0)(x:c3)(Af:U (c3×V)):Prop
 |i(a:a_)(es:fK o7)(n:b8)(_:mg x=O (.ref a))(_:(a ==hC)=b1)(_:K.lookup a=O (.type "dict",bd,.dict es n,#[]))(_:q1 w.2 es.1)(_:∀y,cZ (Af.lookup y) (He ht es y))
def qx:U o7->U (c3×V)->Prop
 |[],[]=>sI
 |e::r,(x,v)::l=>(∃t,e.2 = .str x t)/\aB v e.3/\qx r l
 |_,_=>fP
theorem xp:∀{es:U o7}{Af:U (c3×V)},qx es Af->∀y,cZ (Af.lookup y) ((es.find? λe=>ht y e.2).map (·.val))
 |[],[],_,_=>trivial
 |e::r,(x,v)::l,⟨⟨t,a⟩,b,c⟩,y=>by
  rw[kz,List.find?_cons,a];by_cases h:y=x
  ·subst h;simp only[show (y ==y)=bm by simp,show ht y (.str y t)=bm by simp[ht]];exact b
  ·simp only[show (y ==x)=b1 by simpa using h,show ht y (.str x t)=b1 by simp[ht];exact λz=>h ?yz];exact xp c y
 |[],_::_,h,_=>h.elim
theorem rO{es:U o7}(b:mg x=O (.ref a))(c:(a ==hC)=b1)(l:K.lookup a=O (.type "dict",bd,.dict ⟨es⟩ n,#[]))(k:q1 w.2 es)(h:qx es Af):Fb w K mg x Af:=
 (a,⟨es⟩,n,b,c,l,k,λy=>by
  delta He
  rw[List.find?_toArray];exact xp h y)
section
variable{i:f3}
inductive W6(Af:U (c3×V))(Q:VK)(y:V)(H1:Hp):Prop
 |i(z:_)(_:y = .str z)(_:Q (.bl (Af.lookup z).isSome) H1)
def X9(Af:U (c3×V))(ti:TE):TE:=λA H Q=>ti A H λy H1=>W6 Af Q y H1
inductive N4(Af:U (c3×V))(Q:VK)(y:V)(H1:Hp):Prop
 |i(z:_)(_:y = .str z)(_:Q (.bl (!(Af.lookup z).isSome)) H1)
def Zk(Af:U (c3×V))(ti:TE):TE:=λA H Q=>ti A H λy H1=>N4 Af Q y H1
inductive Ur(Af:U (c3×V))(Q:VK)(y:V)(H1:Hp):Prop
 |i(z v:_)(_:y = .str z)(_:Af.lookup z=O v)(_:Q v H1)
def QW(Af:U (c3×V))(ti:TE):TE:=λA H Q=>ti A H λy H1=>Ur Af Q y H1
theorem Fb.pin(C:Fb X.w X.K X.4 x Af)(hi:PE X i ti)(d:zzp (Gl X x) zz0)(b:zzp ((x ==("__debug__" : c3))=b1) zz1):PC X .In i (.Name x p) (X9 Af ti):=by
 let(a,es,n,e,f,j,m,u):=C;intro g s A H Q I h;refine gv (hi g s A H _ I h) λB s1 ⟨y,H1,c,v,z,w,q⟩=>gC c d e ?_ b;subst w;let(tk,Y):=v;refine wpAny_in_of (t8 X.1 X.w z tk) f (E3 (prog:=X.1) c.kIn j m) ?_;rw[<-(u z).isSome_eq];exact(.bl _,H1,c.tok _,Y,q)
theorem Fb.pnin(C:Fb X.w X.K X.4 x Af)(hi:PE X i ti)(d:zzp (Gl X x) zz0)(b:zzp ((x ==("__debug__" : c3))=b1) zz1):PC X .NotIn i (.Name x p) (Zk Af ti):=by
 let(a,es,n,e,f,j,m,u):=C;intro g s A H Q I h;refine gv (hi g s A H _ I h) λB s1 ⟨y,H1,c,v,z,w,q⟩=>gC c d e ?_ b;subst w;let(tk,Y):=v;refine Jy (t8 X.1 X.w z tk) f (E3 (prog:=X.1) c.kIn j m) ?_;rw[<-(u z).isSome_eq];exact(.bl _,H1,c.tok _,Y,q)
theorem Fb.pix(C:Fb X.w X.K X.4 x Af)(hi:PE X i ti)(c:zzp (Gl X x) zz0)(d:nL i:=by (intro _ _;rfl))(b:zzp ((x ==("__debug__" : c3))=b1) zz1):PE X (.Subscript (.Name x p) i pos) (QW Af ti):=by
 let(a,es,n,f,_,j,m,w):=C;intro g s A H Q I h;refine uM so.1 d (gC I c f (gv (hi g s A H _ I h) λD s1 ⟨y,H1,c,d,z,v,f,B,q⟩=>?_) b);subst f;let(tk,Y):=d;have b:=E3 (prog:=X.1) c.kIn j m;have e:=w z;rw[B]at e;obtain⟨u,f,j⟩:∃u,He ht es z=O u/\aB v u:=by
  cases d:He ht es z with
  |none=>rw[d]at e;exact e.elim
  |some u=>rw[d]at e;exact(u,Y,e)
 exact(b.typeIs,w4 (t8 X.1 X.w z tk) b f (v,H1,c.tok _,j,q))
end
theorem NH:mj (.type "list") "keys" =hl bd:=Y
theorem Wu:mj (.type "zip") "keys" =hl bd:=Y
theorem QE:mj (.type "zip") "__getattr__" =hl bd:=Y
theorem ZR{B:fK b0}{k:b8}{Q:b5 b0->b'->Prop}(g:s.heap.get? a=O { cls:=.type "list",dict:=bd,data:=.seq B k,slots:=sl })(j:Aa.1=bd)(h:∀h' tk,(∀b c,s.heap.get? b=O c->h'.get? b=O c)->Q bd { s with heap:=h',toks:=tk }):dy (ds prog w) Aa (va (.ref a) "keys") Q on s:=by
 let(m,Ac,d,tk,os):=s;have f:∀c,((m,Ac,d,c,os):b').TypeIs (.ref a) "list" :=λ_=>(_,g,Y)
 have m:=Hu;have m:=p8.1;have m:=p8.bind (.ref a);have m:=am_list_getattr_none;unfold va ϙ getAttrBy
 repeat (any_goals (first |assumption |exact f _ | ((with_reducible show dy _ _ (qB (GO "list.__getattribute__") _ _) _ _ _);refine h_ p8 (f _) am_entry_list_getattribute (F.args_list_getattribute_2 _ _) (meets_getattribute_miss_list a B k sl "keys" _ NH ?a ?a) (g,j,λh' c e f=>?_)) |wp_step))
 let(t',m,c):=f.3;show dy _ _ (o_ _ _ _ _ _ _ _) _ _ _
 delta o_
 repeat (any_goals (first |assumption |wp_step))
 exact h _ _ f.1
theorem xo:oL Ep "dict.update.loop" =O hX.«dict.update.loop»:=entryFor_of_tree ?r
theorem uf:sD "dict.update.loop" =bm:=?k
structure jZ(prog:f0)(w:gl)(A:hB)(I d:a_)(wr:U a_)(n:b8)(kv:b8->b0×b0)(St:b8->fy->Prop)(fr:Prop):Prop where
 nw:d∉wr
 frame:∀i h h',St i h->(∀b o,b≠d->h.get? b=O o->h'.get? b=O o)->h.objs.size<=h'.objs.size->St i h'
 item:∀i (s:b') (Q:b5 b0->b'->Prop) (E:b0->b'->Prop),i<n->St i s.1->
  (∀p h' tk,qA h' p #[(kv i).1,(kv i).2]->St (i+1) h'->(∀b o,b∉wr->s.heap.get? b=O o->h'.get? b=O o)->(fr->s.heap.objs.size<=p)->Q (O (.ref p)) { s with heap:=h',toks:=tk })->dy (ds prog w) A (sk (.ref I)) Q E s
 done:∀(s:b')(Q:b5 b0->b'->Prop)(E:b0->b'->Prop),St n s.1->
  (∀h' tk,(∀b o,b∉wr->s.heap.get? b=O o->h'.get? b=O o)->Q bd { s with heap:=h',toks:=tk })->dy (ds prog w) A (sk (.ref I)) Q E s
section
variable [hQ κ] {a:KeyKind prog w κ} {c:b8->fy->Prop} {f:Prop}
noncomputable def iV(kk:b8->κ)(kv:b8->b0×b0):b8->U (κ×b0)
 |0=>[]
 |i+1=>Jx (iV kk kv i) (kk i) (kv i).2
theorem P0(W:jZ prog w Aa.in1 I d wr n kv c f)(kk:b8->κ)(x:∀i<n,a.is (kk i) (kv i).1=bm)(hz:∀i,i<=n->(iV kk kv i).length<=bT):
  ∀(m i:b8)(s:b')(j:cs)(h:GZ),n - i=m->i<=n->c i s.1->s.heap.DictOf a d (iV kk kv i)->
   (∀h' tk,h'.DictOf a d (iV kk kv n)->(∀b o,b∉d::wr->s.heap.get? b=O o->h'.get? b=O o)->R (.ok (.ret .none)) { s with heap:=h',toks:=tk })->
   lp (ds prog w) Aa (.builtin "dict.update.loop" { pos:=[.ref d,.ref I,.int j h,.none] }) R s:=by
 have v:=W.1;intro m;induction m with
 |zero=>
  intro i s j h u hi st hd q;have e:i=n:=?l
  subst e;refine f7 xo ?_;refine al (W.done s _ _ st λh' tk k=>?_);refine al (b4 (b4 (q h' tk ?_ λb o g e=>k b o (λz=>g (dz _ z)) e)));let(o,es,ep,e,r):=hd;exact(o,es,ep,k d o v e,r)
 |succ m B=>
  intro i s j h u hi st hd q;have lt:i<n:=?l
  refine f7 xo ?_;rw[hA uf _];refine al (W.item i s _ _ lt st λp h1 tk y h A _=>?_);have u:h1.DictOf a d (iV kk kv i):=by
   let(o,es,ep,e,r):=hd;exact(o,es,ep,A d o v e,r)
  let(C,v,ct,nt,dt):=y;have y:v4 { s with heap:=h1,toks:=tk } (.ref p) "tuple" := (_,v,ct)
  refine al (e6 (al (mv ?_)));refine al (ra y ?_);refine al (fA v dt (b4 ?_));refine e6 (wpAny_dictSet_pairs (hsz:=hz i hi) (x i lt) u λh2 u v=>b4 (hm uf _,B (i+1) _ _ _ ?l lt (W.frame _ _ _ h (λb o g e=>?_) (g3 v.1.symm)) u λh' x y C=>?_))
  ·exact (v.2 b g) ▸ e
  ·refine q h' x y λb o g e=>C b o g ?_;have u:b≠d:=λz=>g (z ▸ ea);rw[v.2 b u];exact A b o (λz=>g (dz _ z)) e
end
section
variable [hQ κ] {d:KeyKind prog w κ} {f:b8->κ}
theorem xk{T:gV}{ok:a_->Prop}(ty:s.TypeIs (.ref a) T)(j:(hk T != .type "dict")=bm)(m:∀(s':b')(h:b0->b'->Prop)(g:b5 b0->b'->Prop),(∀b o,s.heap.get? b=O o->s'.heap.get? b=O o)->(∀h' tk,(∀b o,s'.heap.get? b=O o->h'.get? b=O o)->g bd { s' with heap:=h',toks:=tk })->
   dy (ds prog w) Aa.in1.in1 (va (.ref a) "keys") g h s')(it:∀(s':b')(h:b0->b'->Prop)(g:b0->b'->Prop),(∀b o,s.heap.get? b=O o->s'.heap.get? b=O o)->?ss<?ss'->
   (∀I h' wr St fr,jZ prog w Aa.in1.in1 I ?ss wr n kv St fr->St 0 h'->(∀b o,s'.heap.get? b=O o->h'.get? b=O o)->(∀b∈wr,¬ ok b\/?ss'<=b)->g (.ref I) { s' with heap:=h' })->
   dy (ds prog w) Aa.in1.in1 (Fk (.ref a)) g h s')(u:∀i<n,d.is (f i) (kv i).1=bm)(hz:∀i,i<=n->(iV f kv i).length<=bT)(q:∀h' tk,h'.DictOf d ?ss (iV f kv n)->(∀b o,ok b->s.heap.get? b=O o->h'.get? b=O o)->Q (.ref ?ss) { s with heap:=h',toks:=tk }):dy (ds prog w) Aa (qB (.type "dict") [.ref a]) Q on s:=by
 refine Eo (Q₁:=λobj g=>obj = .ref ?ss/\g={ s with heap:=s.heap.push { cls:=.type "dict",data:=.dict #[] } }) F.kt_called_dict (F.kt_typeCall_dict_1 _) F.entry_dict_init (kt_code_dict_new _ (Y,Y)) ?_;rintro obj g ⟨rfl,rfl⟩;have g:(s.heap.push { cls:=.type "dict",data:=.dict #[] }).DictOf d ?ss []:=Bc s.1;refine(g.typeIs,F.args_dict_init_2 _ _,?_);refine al ?_;refine al (wpAny_notOrdered_dict g.typeIs ?_);refine b4 ?_;have h:v4 { s with heap:=s.heap.push { cls:=.type "dict",data:=.dict #[] } } (.ref a) T:=by
  let(o,e,c):=ty;exact(o,aw _ e,c)
 refine al (ra h ?_);rw[d6 j];refine al (m _ _ _ (λb o e=>aw _ e) λh1 GV j=>?_);have h:h1.DictOf d ?ss []:=by
  let(o,es,ep,e,r):=g;exact(o,es,ep,j _ _ e,r)
 have g:=let⟨o,es,ep,e,r⟩:=h;b6 e;have ks:=λb o e=>j b o (aw _ e);refine al (oT ?_);refine al (it _ _ _ ks g λI h2 wr St fr W st p v=>b4 (hm uf _,?_));refine P0 W f u hz (n - 0) 0 _ 0 _ (Nat.succ_sub_one _) (ej _) st ?_ λu j m x=>(Y,q u j m λb o A e=>x b o ?_ (p b o (ks b o e)))
 ·let(o,es,ep,e,r):=h;exact(o,es,ep,p _ _ e,r)
 ·intro z;have h:=b6 e;rcases bG.mp z with z |z
  ·exact cx h (z ▸ (fS _))
  ·rcases v b z with y |y
   ·exact y A
   ·exact cx (c2 (hy h g) y) (fS _)
end
theorem Pn(m:Aa.1=bd)(I l d:a_)(a:l≠I)(f:I≠d)(g:l≠d)(J:fK b0)(c:b8->a_)(kv:b8->b0×b0)(n:∀(i:b8)(v:b0),J[i]?=O v->v = .ref (c i))(nt:∀i<?eJ,c i≠I/\c i≠d):
  jZ prog w Aa I d [I] ?eJ kv (λi h=>(h.IsListIter I l i/\h.IsList l J)/\∀j<?eJ,qA h (c j) #[(kv j).1,(kv j).2]) fP where
 nw:=λg=>f (d4.mp g).symm
 frame:=λi h h' st k _=>((n2 (prog:=prog) (w:=w) m I l a J).frame i h h' st.1 λb g o e=>k b o (by simp at g;rcases g with z |z <;> rw[z] <;> assumption) e,λj f=>by
  let(o,e,r):=st.2 j f;exact(o,k (c j) o (nt j f).2 e,r))
 item:=λi s Q on hi st g=>(n2 m I l a J).item i s Q on hi st.1 λv h' tk q p k=>by
  obtain rfl:=n i v q;have n:∀j<?eJ,qA h' (c j) #[(kv j).1,(kv j).2]:=λj f=>by
   let(o,e,r):=st.2 j f;exact(o,k (c j) o (by simp;exact (nt j f).1) e,r)
  exact g _ _ _ (n i hi) (p,n) k nofun
 done:=λs Q on st g=>(n2 m I l a J).done s Q on st.1 g
def dR(ps:U (Key×V)):U (Key×V):=ps.foldl (λa p=>bQ a p.1 p.2) []
theorem NI(ps:U (Key×V))(p:Key×V):dR (ps++[p])=bQ (dR ps) p.1 p.2:=by
 delta dR
 simp_all
theorem xC:∀(ps acc:U (Key×V)),(ps.foldl (λa p=>bQ a p.1 p.2) acc).length<=?lacc+?lps
 |[],acc=>b2 _
 |p::r,acc=>by
  have h1:=xC r (bQ acc p.1 p.2);have h2:=pf acc p.1 p.2
  grind
theorem mV(ps:U (Key×V)):(dR ps).length<=?lps:=by
 have:=xC ps [];simp only[List.length_nil,kR]at this;exact this
theorem rg{ps:U (Key×V)}{kv:b8->b0×b0}{kk:b8->Key}(a:∀(i:b8) p,ps[i]?=O p->kk i=p.1/\aB p.2 (kv i).2):∀i,i<=?lps->KV (dR (ps.take i)) (iV kk kv i)
 |0,_=>.nil
 |i+1,h=>by
  have lt:i<?lps:=h;rw[ei,ag lt];show KV (dR (ps.take i++[ps[i]])) (Jx _ _ _);rw[NI];let(e1,b):=a i _ (ag lt);simp only[e1];exact (rg a i (dn lt)).put _ b
theorem VD(N:X.15=bm):bx X (.type "dict") (λB H Q=>∃(l:a_)(c:U a_)(ps:U (Key×V)),B=[.ref l]/\H l=O (.lst (c.map V.ref))/\?lc=?lps/\
  (∀(i:b8) a p,c[i]?=O a->ps[i]?=O p->H a=O (.tup [kV p.1,p.2]))/\∀d,H d=bd->Q (.ref d) (upd H d (.dK (dR ps)))):=by
 intro g s A H B us Q I r h;let(l,c,ps,Y,x,f,D,q):=h;let(u,Y,m):=cA r;cases m;let(hz,J,n,z,w):=(show bo X.1 X.w H s.1 l (.lst (c.map V.ref)) from I.hok l _ x)
 have K:?lJ=?lc:=by simp only[<-?lz,ai]
 have y:∀(i:b8) v,J[i]?=O v->∃a p,c[i]?=O a/\ps[i]?=O p/\v = .ref a:=λi v e=>by
  have hi:i<?lc:=K ▸ (bg.mp e).1;let(u,x,m):=z.get (by rw[a',ag hi];rfl);rw[e]at x;cases x;exact(c[i],ps[i],ag hi,ag ?l,m)
 have tup:∀(i:b8),∃kv:b0×b0,∀a p,c[i]?=O a->ps[i]?=O p->qA s.1 a #[kv.1,kv.2]/\aB (kV p.1) kv.1/\aB p.2 kv.2:=λi=>by
  by_cases hi:i<?lc
  ·have e1:=D i _ _ (ag hi) (ag ?x);let(_,vs,z,x):=(show bo X.1 X.w H s.1 _ (.tup _) from I.hok _ _ e1)
   let(D,C,Y,E,G):=lD z;refine((zzq D C),λa p m ep=>?_);rw[ag hi]at m;cases m;rw[ag ?l]at ep;cases ep;exact(x,E,G)
  ·exact((zzq .none .none),λa p m _=>cx (bg.mp m).1 hi)
 let(kv,z):=KG tup;let G:b8->a_:=λi=>c.getD i 0;let kk:b8->Key:=λi=>(ps.getD i (zzq (.inl bd) .non)).1;have C:∀{i:b8}{a:a_},c[i]?=O a->G i=a:=λ{i a} e=>by show c.getD i 0=a;rw[bb,e];rfl
 have D:∀{i:b8}{p:Key×V},ps[i]?=O p->kk i=p.1:=λ{i p} e=>by show (ps.getD i _).1=_;rw[bb,e];rfl
 have x:∀i,i<?lJ->∃a p,c[i]?=O a/\ps[i]?=O p/\G i=a/\kk i=p.1/\qA s.1 a #[(kv i).1,(kv i).2]/\aB (kV p.1) (kv i).1/\aB p.2 (kv i).2:=λi hi=>by
  let(a,p,m,ep,_):=y i _ (ag hi);let(h1,h2,E):=z i a p m ep;exact(a,p,m,ep,C m,D ep,h1,h2,E)
 have E:=b6 w;have L:∀i,i<?lJ->G i<?ss:=λi hi=>by
  let(a,p,_,_,e,_,(o,w,_),_):=x i hi;exact e ▸ (b6 w)
 have bk:=λi hi=>rg (kk:=kk) (λj p ep=>(D ep,by
  have M:j<?lc:=f ▸ (bg.mp ep).1;exact (z j _ p (ag M) ep).2.2)) i hi
 have c:?lps<=bT:=by rw[<-f];simpa using hz
 have D:=I.ok.hd N;refine xk (d:=cy X.1 X.w) (n:=?wJ) (kv:=kv) (f:=kk) (ok:=λ_=>sI) (_,w,Y) ?a (λs' N P k z=>ZR (k _ _ w) (by simp[D]) z) (λs' N P k lt z=>?_) (λi hi=>?_) (λi hi=>?_) λh' tk hd k=>?_
 ·refine ky (_,k _ _ w,Y,n,Y) ?_;refine z _ _ _ _ _ (Pn (by simp[D]) ?ss' l ?ss (cb (hy E lt)) (e8 lt) (cb E) ?aJ G kv (λi v e=>?_) λi hi=>?_) (((_,b_ _ Y,Y,Y),(_,aw _ (k _ _ w),Y,n,Y)),λj M=>?_) (λb o e=>aw _ e) λb z=>?_
  ·let(a,p,m,_,e):=y i v (by simpa using e);exact (C m) ▸ e
  ·have:=L i (by simpa using hi);exact(cb (hy this lt),cb this)
  ·let(a,p,_,_,e,_,(o,w,r),_):=x j (by simpa using M);rw[e];exact(o,aw _ (k _ _ w),r)
  ·simp only[d4]at z;exact .inr (z ▸ (b2 _))
 ·let(a,p,_,_,_,e,_,z,_):=x i (by simpa using hi);exact e ▸ (iH z)
 ·have m:i<=?lps:=by simp only[<-f,<-K];simpa using hi
  have:=(bk i m).length;rw[<-this];refine ce (mV _) (ce ?_ c);rw[d8];exact Nat.min_le_right _ _
 ·have e1:?wJ=?lps:=by simp only[b7,K,f]
  rw[e1]at hd;have z:=bk ?lps (b2 _);rw[dw]at z;refine(.ref ?ss,_,I.laid (λb o e=>k b o trivial e) (b2 _) (km (ce (mV _) c) ?_ z hd),Y,q _ (I.hok.fresh (b2 _)));have:=I.big;simp;exact e8 this
def iy(h:fy)(z TI TO T:a_):Prop:=∃b,h.get? z=O { cls:=.type "zip",dict:=bd,data:=.fields #[mi T,.bool b,.bool b1,.ref TI,.ref TO],slots:=#[] }
theorem VW{Q:b5 hg->b'->Prop}(h:Q (s.heap.get? a) s):dy M Aa (loadIfAlive a) Q on s:=λ_ _ _=>h
theorem zk{TI TO T:a_}{Q:eg->b'->Prop}(hz:iy s.1 z TI TO T)(a:∃o,s.heap.get? T=O o)(q:∀h',iy h' z TI TO T->gS z s.1 h'->Q b1 { s with heap:=h' }):
  dy (ds prog w) Aa (iv (.ref z)) Q on s:=by
 let(b,hz):=hz;let(o,c):=a;refine al (gc hz Y Y ?_);refine al (VW ?_);rw[e4,c];refine al (gc hz Y (x:=.bool b) Y ?_);cases b with
 |true=>
  exact b4 (q s.1 (bm,hz) (I_ _ _))
 |false=>
  refine al (hE hz ?s λh' a c=>b4 (q h' (bm,a) c))
theorem V1{TI TO T:a_}{k:b8}{B ys:fK b0}(D:vb z TI TO i1 i2 l1 l2)(hz:iy s.1 z TI TO T)(g:∃o,s.heap.get? T=O o)(d:hN s.1 TI (.ref i1) (.ref i2))(h1:s.heap.IsListIter i1 l1 k)(h2:s.heap.IsListIter i2 l2 k)(f:s.heap.IsList l1 B)(h:s.heap.IsList l2 ys){x y:b0}(j:B[k]?=O x)(m:ys[k]?=O y)(n:∀h',iy h' z TI TO T->h'.IsListIter i1 l1 (k+1)->h'.IsListIter i2 l2 (k+1)->hN h' ?ss x y->(∀c o,c≠z->c≠i1->c≠i2->s.heap.get? c=O o->h'.get? c=O o)->Q (.ref ?ss) { s with heap:=h' }):
  dy (ds prog w) Aa (hX.«zip.__next__» ([.ref z],[])) (λfin s'=>∃v,fin = .done (.ret v)/\Q v s') on s:=by
 let(b,a):=id hz;show dy _ _ (MT (.ref z) 2 >>=_) _ _ _;refine al (gc a Y (x:=.bool b1) Y ?_);refine al (gc a Y Y ?_);refine al (fA d Y ?_);refine al (zk hz g λd g a=>?_);refine al ?_;rw[EZ,ls];refine al (al (e6 ?_));refine al (rk (h1.extBut a.extBut D.3) (f.extBut a.extBut D.11) j λf j d=>b4 (b4 ?_));dsimp only;rw[ls];refine al (al (e6 ?_));refine al (rk ((h2.extBut a.extBut D.4).extBut d.extBut ?yD.i12) ((h.extBut a.extBut D.15).extBut d.extBut D.17) m λh m f=>b4 (b4 ?_));refine b4 (al (s6 (hsz:=by show 2<=bT;decide) (b4 (1,?_))));have hsz:?zh=?ss:=by simp only[f.1,d.1,a.1]
 let(p,g):=g;have e:=n (h.push { cls:=.type "tuple",data:=.seq #[x,y] }) (p,aw _ (f.extBut _ _ ?yD.i2z (d.extBut _ _ ?yD.i1z g)))
  ((j.extBut f.extBut D.10).at λo e=>aw _ e) (m.at λo e=>aw _ e) (hsz ▸ (b_ _ Y)) λc o c1 g h q=>aw _ (f.extBut _ _ h (d.extBut _ _ g (a.extBut _ _ c1 q)))
 exact hsz ▸ e
theorem ZS{TI TO T:a_}{k:b8}{B:fK b0}{Q:Fin->b'->Prop}(h:Aa.1=bd)(D:vb z TI TO i1 i2 l1 l2)(hz:iy s.1 z TI TO T)(g:∃o,s.heap.get? T=O o)(d:hN s.1 TI (.ref i1) (.ref i2))(h1:s.heap.IsListIter i1 l1 k)(f:s.heap.IsList l1 B)(j:B[k]?=bd)(m:∀h' e,(∀c o,c≠z->c≠i1->s.heap.get? c=O o->h'.get? c=O o)->(∃o,h'.get? e=O o/\o.1 = .type "StopIteration")->on (.ref e) { s with heap:=h' }):
  dy (ds prog w) Aa (hX.«zip.__next__» ([.ref z],[])) Q on s:=by
 let(b,a):=id hz;show dy _ _ (MT (.ref z) 2 >>=_) _ _ _;refine al (gc a Y (x:=.bool b1) Y ?_);refine al (gc a Y Y ?_);refine al (fA d Y ?_);refine al (zk hz g λg d a=>?_);refine al ?_;refine al (al (e6 ?_));exact al (FU h (h1.extBut a.extBut D.3) (f.extBut a.extBut D.11) j λf e d g=>m f e (λc o c1 f q=>d _ _ f (a.extBut _ _ c1 q)) g)
theorem ZG{TI TO T:a_}{k:b8}{B ys:fK b0}{Q:b5 b0->b'->Prop}(D:vb z TI TO i1 i2 l1 l2)(hz:iy s.1 z TI TO T)(g:∃o,s.heap.get? T=O o)(b:hN s.1 TI (.ref i1) (.ref i2))(h1:s.heap.IsListIter i1 l1 k)(h2:s.heap.IsListIter i2 l2 k)(d:s.heap.IsList l1 B)(f:s.heap.IsList l2 ys){x y:b0}(h:B[k]?=O x)(j:ys[k]?=O y)(m:∀h',iy h' z TI TO T->h'.IsListIter i1 l1 (k+1)->h'.IsListIter i2 l2 (k+1)->hN h' ?ss x y->(∀c o,c≠z->c≠i1->c≠i2->s.heap.get? c=O o->h'.get? c=O o)->Q (O (.ref ?ss)) { s with heap:=h' }):
  dy (ds prog w) Aa (sk (.ref z)) Q on s:=by
 have a:s.TypeIs (.ref z) "zip" :=by let(_,e):=hz;exact(_,e,Y)
 exact al (l7 (gD a hK
  (g8 hK a q2 (V1 D hz g b h1 h2 d f h j λh' a b d f g=>b4 (m h' a b d f g)) (pb _))))
theorem V5{TI TO T:a_}{k:b8}{B:fK b0}{Q:b5 b0->b'->Prop}(f:Aa.1=bd)(D:vb z TI TO i1 i2 l1 l2)(hz:iy s.1 z TI TO T)(g:∃o,s.heap.get? T=O o)(b:hN s.1 TI (.ref i1) (.ref i2))(h1:s.heap.IsListIter i1 l1 k)(d:s.heap.IsList l1 B)(h:B[k]?=bd)(j:∀h',(∀c o,c≠z->c≠i1->s.heap.get? c=O o->h'.get? c=O o)->Q bd { s with heap:=h' }):dy (ds prog w) Aa (sk (.ref z)) Q on s:=by
 have a:s.TypeIs (.ref z) "zip" :=by let(_,e):=hz;exact(_,e,Y)
 refine al (l7 (gD a hK
  (g8 hK a q2 (ZS f D hz g b h1 d h λh' e a b=>?_) (pb _))))
 let(o,d,f):=b;refine al (w7 (o,d,f) JA ?_);exact b4 (j _ a)
theorem zl(M:Aa.1=bd)(z TI TO i1 i2 l1 l2 d:a_)(D:vb z TI TO i1 i2 l1 l2)(f:∀b∈[z,TI,TO,i1,i2,l1,l2],b≠d)(B ys:fK b0)(H:?eB=?eys)(kv:b8->b0×b0)(g:∀i<?eB,B[i]?=O (kv i).1/\ys[i]?=O (kv i).2):
  jZ prog w Aa z d [z,TO,i1,i2] ?eB kv (λi h=>d<?zh/\hN h TI (.ref i1) (.ref i2)/\h.IsListIter i1 l1 i/\h.IsListIter i2 l2 i/\h.IsList l1 B/\h.IsList l2 ys/\
   ((tz h z TI TO .none/\∃a b,hN h TO a b)\/∃T,T≠d/\T∉[z,TO,i1,i2]/\iy h z TI TO T/\∃o,h.get? T=O o)) sI where
 nw:=λH=>by
  simp only[bG,dH,f8]at H;rcases H with e |e |e |e
  ·exact f z ?s ?ye
  ·exact f TO ?s ?ye
  ·exact f i1 ?s ?ye
  ·exact f i2 ?s ?ye
 frame:=λi h h' st k sz=>by
  let(u,s1,s2,q,j,n,y):=st;refine(c2 u sz,k TI _ (f TI ?s) s1,s2.at λo e=>k i1 o (f i1 ?s) e,q.at λo e=>k i2 o (f i2 ?s) e,j.at λo e=>k l1 o (f l1 ?s) e,n.at λo e=>k l2 o (f l2 ?s) e,?_);rcases y with⟨e1,a,b,v⟩ |⟨T,A,C,⟨b,e1⟩,o,v⟩
  ·exact .inl (k z _ (f z ?s) e1,a,b,k TO _ (f TO ?s) v)
  ·exact .inr (T,A,C,(b,k z _ (f z ?s) e1),o,k T o A v)
 item:=λi s Q on hi st E=>by
  let(u,s1,s2,q,j,n,y):=st;let(e1,v):=g i hi;have lt:∀{c o},s.heap.get? c=O o->?ss≠c:=λe=>e8 (b6 e);have H:=let⟨_,e,_⟩:=s2;lt e;have I:=let⟨_,e,_⟩:=q;lt e;rcases y with⟨p,a,b,m⟩ |⟨T,A,C,p,o,m⟩
  ·refine wpAny_pyNext_zip_item D p s1 m s2 q j n e1 v λh' J N K L G f g=>?_;refine E _ h' s.4 (_,G,Y,1) (by rw[f];exact eA u,g _ _ D.1 D.5 D.6 D.7 s1,K,L,j.at λo e=>g _ o D.11 D.12 D.13 D.14 e,n.at λo e=>g _ o D.15 D.16 D.17 D.18 e,.inr (?ss,?_,?_,(b1,J),_,G))
    (λc o f e=>g c o (λx=>f (by simp[x])) (λx=>f (by simp[x])) (λx=>f (by simp[x])) (λx=>f (by simp[x])) e) λ_=>b2 _
   ·exact e8 u
   ·simp only[bG,dH,f8,Es];exact(lt p,lt m,H,I)
  ·have H:T≠z/\T≠TO/\T≠i1/\T≠i2:=by simpa using C
   refine ZG D p (o,m) s1 s2 q j n e1 v λh' J K L G g=>?_;exact E _ h' s.4 (_,G,Y,1) (hy u (b6 G),g _ _ D.1 D.6 D.7 s1,K,L,j.at λo e=>g _ o D.11 D.13 D.14 e,n.at λo e=>g _ o D.15 D.17 D.18 e,.inr (T,A,C,J,o,g T o H.1 H.2.2.1 H.2.2.2 m))
    (λc o f e=>g c o (λx=>f (by simp[x])) (λx=>f (by simp[x])) (λx=>f (by simp[x])) e) λ_=>b2 _
 done:=λs Q on st E=>by
  let(u,s1,s2,q,j,n,y):=st;have e1:B[?eB]?=bd:=?s
  rcases y with⟨p,a,b,m⟩ |⟨T,A,C,p,o,m⟩
  ·exact Gq M D p s1 m s2 q j n (.inl e1) λh' g=>E h' s.4 λc o f e=>g c o (λx=>f (by simp[x])) (λx=>f (by simp[x])) (λx=>f (by simp[x])) (λx=>f (by simp[x])) e
  ·exact V5 M D p (o,m) s1 s2 j e1 λh' g=>E h' s.4 λc o f e=>g c o (λx=>f (by simp[x])) (λx=>f (by simp[x])) e
theorem Xp:oL Ep "zip.__getattribute__" =O hX.«object.__getattribute__»:=
 entryFor_alias (id' := "object.__getattribute__") (by kernel_rfl) ?k ?k (by kernel_rfl)
theorem XE(a:a_)(fs:fK b0)(u:GZ):
  Meets (hX.«object.__getattribute__» ([.ref a,.str "keys" u],[])) (λAa R s=>s.heap.get? a=O { cls:=.type "zip",dict:=bd,data:=.fields fs,slots:=#[] }/\raisesAttr (.ref a) "keys" Aa R s):=
 Meets.of_wp λprog w Aa R s b=>by
  let(c,Ac,d,tk,os):=s;let(e,b):=b;have f:((c,Ac,d,tk,os):b').TypeIs (.ref a) "zip" := (_,e,Y)
  have c:=Wu;unfold hX.«object.__getattribute__»
  repeat (any_goals (first |assumption |wp_step))
  exact wpAny_raiseAttrError b.1 b.2 (attrMsg_fits ?k ?a)
theorem S0{fs:fK b0}{Q:b5 b0->b'->Prop}(g:s.heap.get? a=O { cls:=.type "zip",dict:=bd,data:=.fields fs,slots:=#[] })(j:Aa.1=bd)(h:∀h' tk,(∀b c,s.heap.get? b=O c->h'.get? b=O c)->Q bd { s with heap:=h',toks:=tk }):dy (ds prog w) Aa (va (.ref a) "keys") Q on s:=by
 let(m,Ac,d,tk,os):=s;have f:∀c,((m,Ac,d,c,os):b').TypeIs (.ref a) "zip" :=λ_=>(_,g,Y)
 have m:=Hu;have m:=q3.1;have m:=q3.bind (.ref a);have m:=QE;unfold va ϙ getAttrBy
 repeat (any_goals (first |assumption |exact f _ | ((with_reducible show dy _ _ (qB (GO "zip.__getattribute__") _ _) _ _ _);refine h_ q3 (f _) Xp (F.args_zip_getattribute_2 _ _) (XE a fs _) (g,j,λh' c e f=>?_)) |wp_step))
 let(t',m,c):=f.3;show dy _ _ (o_ _ _ _ _ _ _ _) _ _ _
 delta o_
 repeat (any_goals (first |assumption |wp_step))
 exact h _ _ f.1
theorem ne5{c a b:b8}(d:a<n)(lb:b<n)(h:c=n+4\/c=n+2\/c=n+3\/c=n\/c=n+1\/c=a\/c=b):c≠n+5:=?l
theorem Vv{c:b8}(h:c=n+4\/c=n+3\/c=n\/c=n+1):¬ c<n:=?l
inductive Qy(K:bI)(Q:VK)(vs:U V)(H1:Hp):Prop
 |i(l1 l2:a_)(ks:U Key)(ys:U V)(_:vs=[.ref l1,.ref l2])(_:eb K H1 l1 (ks.map kV))(_:eb K H1 l2 ys)(_:?lks=?lys)(_:∀d,H1 d=bd->Q (.ref d) (upd H1 d (.dK (dR (ks.zip ys)))))
def TX(K:bI)(t:TA):TE:=λA H Q=>t A H λvs H1=>Qy K Q vs H1
theorem Sj(K:bI){a b:f3}{ta:TA}(f:X.15=bm)(m:Gl X "dict")(n:X.mg "dict" =bd)(L:Gl X "zip")(w:X.mg "zip" =bd)(C:PA X [a,b] ta)(M:zzp (X.K=K) zz0)(N:zzp (cH [a,b] X.10=[(zzq b1 (eval a X.10)),(zzq b1 (eval b X.10))]) zz0)(d:zzp (cH [b] X.10=[(zzq b1 (eval b X.10))]) zz0)(v:zzp (cH [.Call (.Name "zip" p2) [a,b] [] pos2] X.10=[(zzq b1 (eval (.Call (.Name "zip" p2) [a,b] [] pos2) X.10))]) zz0):
  PE X (.Call (.Name "dict" p) [.Call (.Name "zip" p2) [a,b] [] pos2] [] pos) (TX K ta):=by
 subst M;intro g s A H Q I h;refine uB (df I m n z0 (ec ?_ v Y));refine hc ?_;refine uB (df I L w qq (ec (gv (C pos2 g s A H _ I h) λus s1 ⟨vs,H1,v,B,m⟩=>?_) (by simp only[N,d]) (by rw[d];rfl)));let(a,b,ks,ys,e,w,M,d,q):=m;subst e;let(L,C,Y,m,n):=lD B;cases m;cases n;let(m,L,D,N):=v.list w;let(x,w,E,n):=v.list M;have P:a<?ss1:=by let(o,_,e,_):=D;exact b6 e
 have lb:b<?ss1:=by let(o,_,e,_):=E;exact b6 e
 have lia:?lm=?lks:=by rw[<-?lL,ai]
 have M:?lx=?lks:=by simp only[<-?lw,d]
 refine Hq D.isList E.isList λh' z S T Z A3 G J=>?_;refine hj ?_;let kv:b8->b0×b0:=λi=>(zzq (m.getD i .none) (x.getD i .none))
 let kk:b8->Key:=λi=>ks.getD i (.inl bd);have n:∀i,i<?lks->∃k y,ks[i]?=O k/\ys[i]?=O y/\kk i=k/\m[i]?=O (kv i).1/\x[i]?=O (kv i).2/\aB (kV k) (kv i).1/\aB y (kv i).2:=λi hi=>by
  have M:i<?lys:=?l
  let(u,R,A4):=L.get (by rw[a',ag hi];rfl);let(C,d,L):=w.get (ag M);have e1:(kv i).1=u:=by show m.getD i .none=u;rw[bb,R];rfl
  have w:(kv i).2=C:=by show x.getD i .none=C;rw[bb,d];rfl
  refine(ks[i],ys[i],ag hi,ag M,?_,by exact e1 ▸ R,by exact w ▸ d,by exact e1 ▸ A4,by exact w ▸ L);show ks.getD i _=_;rw[bb,ag hi];rfl
 have bk:=λi hi=>rg (ps:=ks.zip ys) (λj p ep=>by
  have d:j<?lks:=by have:=(bg.mp ep).1;rw[hF]at this;lia
  let(k,y,e1,w,C,_,_,_,r):=n j d;have:p=(zzq k y):=by
   rw[gp]at ep;rw[e1,w]at ep;exact JX (c_ ep.1).symm (c_ ep.2).symm
  rw[this];exact(C,r)) i hi
 have L:(ks.zip ys).length=?lks:=by rw[hF];lia
 have M:?lks<=bT:=by rw[ai]at N;exact N
 have R:=v.ok.hd f;have d:?wm=?lks:=by simp only[b7,lia]
 refine xk (d:=cy X.1 X.w) (n:=?wm) (kv:=kv) (f:=kk) (ok:=λb=>b<?ss1) (_,z,Y) ?a (λs' A4 A5 k N=>S0 (k _ _ z) (by simp[R]) N) (λs' A4 A5 k lt N=>?_) (λi hi=>?_) (λi hi=>?_) λA4 tk hd k=>?_
 ·refine lz (k _ _ z) ?_;refine N _ s'.1 _ _ _ (zl (by simp[R]) (?ss1+4) (?ss1+2) (?ss1+3) ?ss1 (?ss1+1) a b _ (Fy P lb) (λc f=>?_) ?am ?ax (by simp;lia) kv λi hi=>?_)
   (lt,k _ _ S,Z.at λo e=>k _ _ e,A3.at λo e=>k _ _ e,D.isList.at λo e=>k _ _ (J _ _ e),E.isList.at λo e=>k _ _ (J _ _ e),.inl (k _ _ z,_,_,k _ _ T)) (λb o e=>e) λc f=>?_
  ·have e:=G;simp only[e];simp only[bG,dH,f8]at f;exact ne5 P lb f
  ·let(_,_,_,_,_,e1,w,_):=n i (d ▸ hi);exact(by simpa using e1,by simpa using w)
  ·simp only[bG,dH,f8]at f;refine .inl ?_;exact Vv f
 ·let(_,_,_,_,C,_,_,B,_):=n i (d ▸ hi);exact C ▸ (iH B)
 ·have m:i<=(ks.zip ys).length:=by simp only[L,<-d];exact hi
  rw[<-(bk i m).length];refine ce (mV _) ?_;rw[d8];lia
 ·rw[d,<-L]at hd;have m:=bk _ (b2 _);rw[dw]at m;have d:?ss1<=({ s1 with heap:=h' }).heap.objs.size:=by show _<=?zh';lia
  refine(.ref _,_,v.laid (λb o e=>k b o (b6 e) (J _ _ e)) d (km (ce (mV _) (L ▸ M)) ?_ m hd),Y,q _ (v.hok.fresh d));have:=v.big;simp;exact e8 (c2 this d)
def Lu(K:bI)(a:a_):It:=
 (λi H=>∃B x,eb K H a B/\B[i]?=O x,λi H v N=>∃T,H T=bd/\v = .ref T/\∀B,eb K H a B->∃x,B[i]?=O x/\N=upd H T (.tup [.int i,x]),λi H=>∃B,eb K H a B/\?lB<=i)
theorem XS{k:b8}(a e it:a_)(AC:e≠it)(AD:a≠e)(AE:a≠it):
  fM Ab w K (.Tuple elts k pos) (Lu K a) [e,it] e (λi h=>(∃d,IsEnum h e it i d)/\h.IsListIter it a i) where
 mem:=?s
 obj:=λi h st c j=>by
  let((d,h1),A6,E,AG,R):=st;simp only[bG,dH,f8]at j;rcases j with rfl |rfl
  ·exact(_,h1,λv z=>by cases z)
  ·exact(A6,E,λv z=>by rw[R]at z;cases z)
 keep:=λi h h' st kk=>by
  let((d,h1),h2):=st;exact((d,kk e ?s _ h1),h2.at λo x=>kk it ?s o x)
 item:=by
  intro X m G J j i g s A H on I D st L;subst m G J;let(B,x,f,A7):=L;let(M,N,P,_):=I.list f;let(A8,n,Q):=N.get A7;have R:=(bg.mp n).1;have W:=WalksT.enumerate (prog:=X.1) (w:=X.w) (I.ok.hd j) e it a AC AD AE ?aM;let((d,h1),h2):=id st;refine W.item i s _ _ (b7 ▸ R) ((d,h1),h2,P.isList) λT R h' tk m S p A9 Z=>?_;refine(.ref T,Y,W.go elts k pos i T { s with heap:=h',toks:=tk } _ _ A9 λA3 u y=>?_);let(AA,AB,ex,Y):=m;have A4:A8=AB:=by
   have:M[i]?=O AB:=by simpa using ex
   rw[n]at this;exact c_ this
  subst A4;have R:Inv X g A H { s with heap:=A3,toks:=tk }:=I.turnedL (λc o b q=>y c o b (Z c o b q)) D;have A5:=I.hok.fresh S;have C:∀{c:a_}{o:hg},s.heap.get? c=O o->c≠T:=λq=>cb (c2 (b6 q) S);have AF:=I.trackN (o:=.tup [.int i,x]) S R (by show 2<=bT;decide,[.int i AA,A8],.cons (AA,Y) (.cons Q .nil),(p.at λo q=>y T o (W.apart i T _ A9) q));refine(.ref T,_,AF,Y,(T,A5,Y,λR n=>?_),(u.1,u.2.1),λc b=>?_)
  ·rw[I.list_inj n f];exact(x,A7,Y)
  ·have:c≠T:=by
    simp only[bG,dH,f8]at b;let(A6,E,_):=h2;rcases b with rfl |rfl
    ·exact C h1
    ·exact C E
   rw[af this];exact (D c b).1
 done:=by
  intro X m G J j i g s A H on I D st L;subst m G J;let(B,f,R):=L;let(M,N,P,_):=I.list f;let((d,h1),h2):=id st;have l1:=?lN;refine wpAny_pyNext_enum_end (I.ok.hd j) h1 h2 P.isList (by simp;simp_all) λh' Z=>(Y,I.turnedL (t':=s.4) (λc o b q=>Z c o (λz=>b (by simp[z])) q) D)
 self:=λ_ _ _ _ _ st h=>by let((_,q),_):=st;exact HI q h
inductive UG(K:bI)(R:It->Hp->Prop)(vs:U V)(H1:Hp):Prop
 |i(a B:_)(_:vs=[.ref a])(_:eb K H1 a B)(_:R (Lu K a) H1)
def T0(K:bI)(ta:TA):TI:=λA H R=>ta A H λvs H1=>UG K R vs H1
theorem zx(K:bI){k:b8}{a:f3}{ta:TA}(d:Gl X "enumerate")(b:X.mg "enumerate" =bd)(f:PA X [a] ta)(j:zzp (X.K=K) zz0)(m:zzp (cH [a] X.10=[(zzq b1 (eval a X.10))]) zz0):
  PI X (.Tuple elts k tpos) (.Call (.Name "enumerate" p) [a] [] pos) (T0 K ta):=by
 subst j;intro g s A H R I h;refine uB (df I d b z1 (ec (gv (f pos g s A H _ I h) λus s1 ⟨vs,H1,b,d,f⟩=>?_) m Y));let(a,B,e,j,q):=f;subst e;let(u,Y,f):=cA d;cases f;let(f,m,d,_):=b.list j;have f:a<?ss1:=by let(o,_,e,_):=d;exact b6 e
 refine call_enumerate_list d.isList λh' d m j n=>?_;refine HI d ?_;refine(?ss1+1,[?ss1+1,?ss1],_,_,H1,Y,b.kept (t':=s1.4) n,XS a _ _ (e8 (f_ _)) (cb (eA f)) (cb f),((_,d),m),λc j=>?_,q);have:?ss1<=c:=by
  simp only[bG,dH,f8]at j;rcases j with rfl |rfl
  ·simp_all
  ·simp_all
 exact b.fpOk this (b.hok.fresh this)
theorem lY{l:a_}{y:c3}{body:f3}(_:H0 l=O (lS (vg "<lambda>" L ar body sc [(zzq y c)] pm c' ctv) l))(x:c3)(k:b8)(b:V->V->Hp->VK->XK->Prop)(S:gX sc x y)(R:nP CX)(a:∀(Aa:hB)(outer:U u2)(s:b')(H:Hp)(v z:V)(Q:VK)(on:XK),aZ k (Aa.deeper (jC L sc ?ss l (.ref c') y c))->b v z H Q on->
   ∃t,PE (jA CX Ab w K mg base x y L sc l (.ref c') c Aa outer s H on) body t/\t [O v,O z] H Q)(d:∀us:U b0,?lus=[x].length->C_ (F2 "<lambda>" L ar body sc [(zzq y c)] pm (.ref c') ctv) (us,[])=hl ([x].zip us)):
  aN Ab w K mg base CX (k+1) l (F2 "<lambda>" L ar body sc [(zzq y c)] pm (.ref c') ctv) [x] (K' L ar body sc l y c pm c' ctv b)/\cp K (F2 "<lambda>" L ar body sc [(zzq y c)] pm (.ref c') ctv) [x] []:=
 (WY S R a,cp.all d)
section
variable(K:bI)
theorem ζ(h:zzp (X.K=K) zz0):l6 X (i' .Add) (zR K):=h ▸ Zq
inductive ξ(B:U V)(H:Hp)(Q:VK):Prop
 |i(p ys:_)(_:B=[.ref p])(_:((eb K H p ys/\∀l,H l=bd->Q (.ref l) (upd H l (.tup ys)))\/(fx K H p ys/\Q (.ref p) H)))
theorem wH(h:zzp (X.K=K) zz0):bx X (.type "tuple") (ξ K):=by subst h;exact Xe.ex λ_ _ _ ⟨a,b,c,d⟩=>(a,b,c,d)
end
section
variable{k:b8}{f T:a_}{d g:b0}
def FC(K:bI)(x L:c3)(st:eo)(ps:U c3)(f c T:a_):Prop:=hw K (.ref f)=bm/\∃fd,ir K x L st f fd c T/\cp K fd ps []
def DC(K:bI)(mg:c3->b5 b0)(x:c3)(st:eo)(ps:U c3)(c T:a_):Prop:=∃f,mg x=O (.ref f)/\FC K x x st ps f c T
theorem DC.cal(D:DC K mg x st ps c T)(b:Bs Ab w base)(h:∀f fd,ir K x x st f fd c T->aN Ab w K mg base CX k f fd ps sp):Fg Ab w K mg base CX k x ps sp:=
 by let(f,m,a,fd,F,b):=D;exact(f,fd,h f fd F,m,a,b)
theorem DC.hd(D:DC K mg x st ps c T):kL K c T=bm:=by let(_,_,_,_,F,_):=D;exact F.2
def MC(K:bI)(C:a_)(x L:c3)(st:eo)(ps:U c3)(c T:a_):Prop:=∃f,jp K C x f/\FC K x L st ps f c T
theorem MC.cal(D:MC K C x L st ps c T)(b:Bs Ab w base)(h:∀f fd,ir K x L st f fd c T->aN Ab w K mg base CX k f fd ps sp):gW Ab w K mg base CX k C x ps sp:=
 by let(f,m,_,fd,F,b):=D;exact(f,fd,h f fd F,m,b)
theorem MC.hd(D:MC K C x L st ps c T):kL K c T=bm:=by let(_,_,_,_,F,_):=D;exact F.2
theorem MM.rec(D:MM K C x L st ps)(b:Bs Ab w base){sp:b8->Sp}(c:∀vs H Q on,¬ sp 0 vs H Q on)(h:∀m f fd,gW Ab w K mg base CX (k+m) C x ps (sp m)->rS K x L st f fd->aN Ab w K mg base CX (k+m+1) f fd ps (sp (m+1))):∀m,gW Ab w K mg base CX (k+m) C x ps (sp m)
 |0=>D.cal b λf fd F=>(λvs H Q on z=>(c vs H Q on z).elim,λAa o s H a us vs Q on _ _ _ _ z=>(c vs H Q on z).elim)
 |m+1=>D.cal b λf fd F=>h m f fd (MM.rec D b c h m) F
theorem Ϫ(l:K.lookup f=O (oc,od,.func (ki x L (dG st) (ci st) (aQ st) .none d g pm an (.ref c) ct),sl))(cd:jJ K (.ref c) L=bm)(hd:kL K c T=bm)(k:hw K (.ref f)=bm)(h:∀a b,bA x L st [p0,p1] [a,b]):FC K x L st [p0,p1] f c T:=
 (k,_,((oc,od,d,g,pm,an,ct,sl,Y,l,cd),hd),(lZ l cd k).binds λd doc pm an cdv ct us e=>uC (p:=λt=>bA x L st [p0,p1] t) (λa=>uC (p:=λt=>bA x L st [p0,p1] (a::t)) λb=>uZ (p:=λt=>bA x L st [p0,p1] (a::b::t)) (h a b)) us e d doc pm an cdv ct)
theorem fc3{p2:c3}(l:K.lookup f=O (oc,od,.func (ki x L (dG st) (ci st) (aQ st) .none d g pm an (.ref c) ct),sl))(cd:jJ K (.ref c) L=bm)(hd:kL K c T=bm)(k:hw K (.ref f)=bm)(h:∀a b j,bA x L st [p0,p1,p2] [a,b,j]):FC K x L st [p0,p1,p2] f c T:=
 (k,_,((oc,od,d,g,pm,an,ct,sl,Y,l,cd),hd),(lZ l cd k).binds λd doc pm an cdv ct us e=>uC (p:=λt=>bA x L st [p0,p1,p2] t) (λa=>uC (p:=λt=>bA x L st [p0,p1,p2] (a::t)) λb=>uC (p:=λt=>bA x L st [p0,p1,p2] (a::b::t)) λj=>uZ (p:=λt=>bA x L st [p0,p1,p2] (a::b::j::t)) (h a b j)) us e d doc pm an cdv ct)
end
theorem Inv.thaw{o:hg}(I:Inv X g A H s)(e:H d=O (.frz o (.dK E)))(n:∀o u,X.H₀ d≠O (.frz o u)):Inv X g A (upd H d (.dK E)) s:=by
 have a:∀{b:a_},H b=bd->upd H d (.dK E) b=bd:=λq=>by rw[af (aC e q).symm];exact q
 refine(I.1,I.2,I.3,(I.base.1,I.base.2,λb f h1 h2 j=>a (I.base.free b f h1 h2 j),I.base.4,λb B h=>?_,λb f u h=>?_,λb ps h=>?_),I.5,I.6,a I.7,λx c h=>a (I.freeC x c h),λp h=>?_,λb u h=>?_,I.11)
 ·have q:=I.base.tups b B h;exact (af (bL q e nofun)) ▸ q
 ·have q:=I.base.frzs b f u h;exact (af (show b≠d from λz=>n f u (z ▸ h))) ▸ q
 ·let(m,q):=I.base.tbls b ps h;exact(m,by exact (af (bL q e nofun)) ▸ q)
 ·let(f,j,v):=I.pin p h;exact(f,a j,v)
 ·have st:∀{b:a_}{u:HO},bo X.1 X.w H s.1 b u->bo X.1 X.w (upd H d (.dK E)) s.1 b u:=λx=>x.stay (λ_ _ _ z=>z) (λc z=>by exact (af (bL z e nofun)) ▸ z) λc _ z=>by exact (af (bL z e nofun)) ▸ z
  by_cases a:b=d
  ·subst a;rw[ae]at h;cases h;exact st (I.hok b _ e).2
  ·rw[af a]at h;exact st (I.hok b u h)
inductive X5(te:TE)(A:St)(H:Hp)(Q:VK):Prop
 |i(d:a_)(E:U (Key×V))(_:H d=O (.dK E))(_:∀o,te A (upd H d (.frz o (.dK E))) λx H1=>H1 d=O (.frz o (.dK E))/\Q x (upd H1 d (.dK E)))
theorem Q'(h:PE X e te):PE X e (X5 te):=by
 rintro g s A H Q I ⟨d,E,hd,q⟩;let(o,a):=I.frz hd;refine gv (h g s A _ _ a (q o)) λv s1 ⟨x,H1,a,r,e,q⟩=>(x,_,a.thaw e λo u z=>?_,r,q)
 have:=I.base.frzs d o u z
 grind
def j5(p d:a_):HO:=.ext λh=>h.IsItemsView p d
inductive Oe(Q:VK)(x:V)(H1:Hp):Prop
 |i(d E:_)(_:x = .ref d)(_:Rd H1 d (.dK E))(_:∀p,H1 p=bd->Q (.ref p) (upd H1 p (j5 p d)))
def Q0(to:TE):TE:=λA H Q=>to A H λx H1=>Oe Q x H1
theorem Sz{o:f3}(m:PE X o to)(f:zzp (h9 o "items" X.10 (eval o X.10)=eval o X.10) zz0)(j:zzp ((apos.3 ==cpos.1)=bm) zz0):PE X (.Call (.Attribute o "items" apos) [] [] cpos) (Q0 to):=by
 intro g s A H Q I h;refine qD f j (gv (m g s A H _ I h) λv s1 ⟨x,H1,j,f,d,E,ex,hd,q⟩=>?_);subst ex;cases f;let(z,n,vs,m,f):=i4 j.10 hd;refine("dict","dict.items",t7,GP,F.type_dict_items,f.typeIs,λa e=>?_,ia Y (rb ?_))
 ·cases e;let(o,es,ep,m,c,_):=f;exact(o,m,c.2.1)
 ·refine rc GP f.typeIs F.entry_dict_items (F.args_dict_items_1 _) (meets_dict_items (cy X.1 X.w) d n) ((vs,f),?_);exact(.ref ?ss1,_,j.laid (o:=j5 ?ss1 d) (t':=s1.4) (λb u q=>aw _ q) (b2 _) ((_,b_ _ Y,Y,Y),(_,b_ _ Y),by rintro h1 h2 ⟨o,m,r⟩ k;exact(o,k o m,r)),Y,q _ (j.hok.fresh (b2 _)))
def Mv(o:hg)(d:a_)(E:U (Key×V)):It:=(λi H=>H d=O (.frz o (.dK E))/\i<?lE,λi H v N=>∃p k x,H p=bd/\v = .ref p/\E[i]?=O (zzq k x)/\N=upd H p (.tup [kV k,x]),λi H=>H d=O (.frz o (.dK E))/\?lE<=i)
theorem Xd{o:hg}{es:fK o7}(hd:o.3 = .dict es ep)(J:n=?lE):
  fM Ab w K (.Tuple elts kk pos) (Mv o d E) [it] it (λi h=>∃a b,IsItemIter h it d i n ep a b) where
 mem:=.head _
 obj:=by rintro i h ⟨_,_,e⟩ b p;cases d4.mp p;exact(_,e,nofun)
 keep:=by rintro i h h' ⟨a,b,e⟩ k;exact(a,b,k it (.head _) _ e)
 item:=by
  intro X q v x L i g s A H on I m st j;subst q v x J;let(j,hi):=j;let(vs,y,B,r,dt,at'):=I.dictAt j;rw[hd]at dt;cases dt;let(P,Q,st):=st;have ex:=ag hi;let(u,f,R):=sW r ex;rw[?lr]at st ⊢;refine wpAny_pyNext_items_item st at' f λC h' S f T sz Z=>(1,wpAny_letOwnedTupleGo_items f λG D M=>?_)
  have lt:∀{c:a_}{G:hg},s.heap.get? c=O G->c≠?ss:=λe=>cb (b6 e);have A3:=I.turnedL (t':=s.4) (λc G f e=>by
   have N:c≠it:=λz=>f (z ▸ .head _);exact (M.2 c N) ▸ (Z c G N e)) m
  have G:=I.hok.fresh (b2 _);have N:=I.trackN (o:=.tup [kV E[i].1,E[i].2]) (b2 _) A3 (by show 2<=bT;decide,[C,u],.cons (ur S) (.cons R .nil),(_,by rw[M.2 _ (lt st).symm];exact T,Y,1));refine(.ref ?ss,_,N,Y,(_,_,_,G,Y,ex,Y),(_,_,D),λc f=>?_);cases d4.mp f;rw[af (lt st)];exact (m _ f).1
 done:=by
  intro X q v x L i g s A H on I m st j;subst q v x J;let(j,hi):=j;let(vs,y,B,r,dt,at'):=I.dictAt j;rw[hd]at dt;cases dt;let(P,Q,st):=st;rw[?lr]at st hi;exact wpAny_pyNext_items_end (I.ok.hd L) st at' (hb hi) λh' f=>(Y,I.turnedL (t':=s.4) (λb o p e=>f b o (λz=>p (z ▸ .head _)) e) m)
 self:=by rintro _ _ _ _ _ ⟨_,_,st⟩ h;exact W.kcp_self st h
inductive Qz(R:It->Hp->Prop)(x:V)(H1:Hp):Prop
 |i(p d o E:_)(_:x = .ref p)(_:H1 p=O (j5 p d))(_:H1 d=O (.frz o (.dK E)))(_:R (Mv o d E) H1)
def XC(tl:TE):TI:=λA H R=>tl A H λx H1=>Qz R x H1
theorem Z0{k:b8}{l:f3}(a:PE X l tl):PI X (.Tuple elts k tpos) l (XC tl):=by
 intro g s A H R I h;refine gv (a g s A H _ I h) λv s1 ⟨x,H1,a,c,f⟩=>?_;let(p,d,o,E,Y,j,hd,q):=f;cases c;let(vs,es,ep,r,dt,at'):=a.dictAt hd;refine wpAny_pyIter_items (a.hok p _ j).1 at' ?_;refine(?ss1,[?ss1],_,_,H1,Y,a.kept (t':=s1.4) λb o e=>aw _ e,Xd dt ?yr.length,(_,_,b_ _ Y),λb c=>?_,q);cases d4.mp c;exact a.fpOk (b2 _) (a.hok.fresh (b2 _))
noncomputable def ltV:V->V->eg
 |.int a,.int b=>decide (a<b)
 |.str a,.str b=>decide (a.cps.1<b.cps.1)
 |_,_=>b1
def fG(x y:V):Prop:=(∃a b,x = .int a/\y = .int b)\/∃a b,x = .str a/\y = .str b
theorem fG.y1{x:V}(h:fG x y):y1 x y=bm:=by rcases h with⟨_,_,rfl,rfl⟩ |⟨_,_,rfl,rfl⟩ <;> rfl
theorem zf  : l6 X (eT .Lt) (λx y H Q=>fG x y/\Q (.bl (ltV x y)) H):=by
 rintro g s A H x y v u Q I a b ⟨⟨i,j,rfl,rfl⟩ |⟨i,j,rfl,rfl⟩,q⟩
 ·exact pH g s A H _ _ v u Q I a b (i,j,Y,Y,q)
 ·exact PP g s A H _ _ v u Q I a b (i,j,Y,Y,q)
theorem zd  : l6 X (eT .Gt) (λx y H Q=>fG x y/\Q (.bl (ltV y x)) H):=by
 rintro g s A H x y v u Q I a b ⟨⟨i,j,rfl,rfl⟩ |⟨i,j,rfl,rfl⟩,q⟩
 ·exact fv g s A H _ _ v u Q I a b (i,j,Y,Y,q)
 ·let(t,Y):=a;let(t',Y):=b;exact P.gt_str (bE I q Y)
section
open PySem.W
abbrev Fa:=b8×b8×eg
noncomputable def Kw(F:U Fa)(i j:b8)(s:eg):U Fa:=
 (((zzq i (zzq i b1))::F).filter (λf=>FV f.2.1 i)).flatMap (λa=>(((zzq j (zzq j b1))::F).filter (λf=>FV f.1 j)).map λb=>(zzq a.1 (zzq b.2.1 (s || a.2.2 || b.2.2))))++F
noncomputable def JO(F:U Fa)(i j:b8)(s:eg):eg:=F.any λf=>FV f.1 i && FV f.2.1 j && (f.2.2 || !s)
noncomputable def JH(F:U Fa):U b8->eg
 |i::j::l=>JO F i j (Nat.ble j i) && JH F (j::l)
 |_=>bm
noncomputable def Iv(n:b8):KasT (fK b8)->U Fa->eg
 |.ret a,F=>a.toList.isPerm (da n) && JH F a.1
 |.ask i j k,F=>MU i n && MU j n && (JO F j i b1 || Iv n (k bm) (Kw F i j bm)) && (JO F i j bm || Iv n (k b1) (Kw F j i b1))
def C3(lt:b8->b8->eg)(i j:b8):Prop:=lt j i=b1/\(lt i j=bm\/i<j)
structure G8(lt:b8->b8->eg):Prop where
 as:∀{x y},lt x y=bm->lt y x=b1
 tr:∀{x y z},lt y x=b1->lt z y=b1->lt z x=b1
def HR(lt:b8->b8->eg)(f:Fa):Prop:=lt f.2.1 f.1=b1/\(f.2.2=bm->lt f.1 f.2.1=bm)
variable{c:b8->b8->eg}
theorem G8.l(S:G8 c){x y z:b8}(h:c x y=bm)(k:c z y=b1):c x z=bm:=by
 cases e:c x z with
 |true=>rfl
 |false=>exact cx (S.tr k e) (by simp[h])
theorem G8.r(S:G8 c){x y z:b8}(k:c y x=b1)(h:c y z=bm):c x z=bm:=by
 cases e:c x z with
 |true=>rfl
 |false=>exact cx (S.tr e k) (by simp[h])
theorem G8.i(S:G8 c)(x:b8):c x x=b1:=by
 cases e:c x x with
 |false=>rfl
 |true=>exact cx (S.as e) (by simp[e])
theorem wM(S:G8 c){F:U Fa}{i:b8}{s:eg}(h:∀f∈F,HR c f)(k:HR c (zzq i (zzq j s))):∀f∈Kw F i j s,HR c f:=by
 intro f hf;have hi:∀x,∀f∈(zzq x (zzq x b1))::F,HR c f:=λx f hf=>by
  rcases bG.mp hf with rfl |hf
  ·exact(S.i x,nofun)
  ·exact h f hf
 rcases ek.mp hf with hf |hf
 ·let(a,d,hf):=FW.mp hf;let(b,g,Y):=cv.mp hf;let(d,m):=en.mp d;let(g,n):=en.mp g;let(x,y,u):=a;let(z,v,q):=b;obtain rfl:y=i:=by simpa using m
  obtain rfl:z=j:=by simpa using n
  have Aa:=hi _ _ d;have Ah:=hi _ _ g;refine(S.tr Aa.1 (S.tr k.1 Ah.1),λe=>?_);simp only[m6]at e;rcases e with (e |e) |e
  ·exact S.l (S.r Aa.1 (k.2 e)) Ah.1
  ·exact S.l (Aa.2 e) (S.tr k.1 Ah.1)
  ·exact S.r (S.tr Aa.1 k.1) (Ah.2 e)
 ·exact h f hf
theorem sV{F:U Fa}{i:b8}{s:eg}(h:∀f∈F,HR c f)(k:JO F i j s=bm):c j i=b1/\(s=bm->c i j=bm):=by
 let((x,y,u),a,e):=hZ.mp k;have:=h _ a;simp only[eB,Nat.beq_eq,m6,Fw]at e;let((Y,Y),e):=e;exact(this.1,λz=>this.2 (by simpa[z]using e))
theorem wK(S:G8 c){F:U Fa}(h:∀f∈F,HR c f):∀{l:U b8},JH F l=bm->l.Pairwise (C3 c)
 |[],_=>.nil
 |[_],_=>l4 _ _
 |i::j::l,e=>by
  simp only[JH,eB]at e;have k:=sV h e.1;have k:C3 c i j:=(k.1,by
   by_cases z:i<j
   ·exact .inr z
   ·exact .inl (k.2 (Nat.ble_eq_true_of_le (mx z))))
  have r:=wK S h e.2;refine h4.mpr (λx d=>?_,r);rcases bG.mp d with rfl |d
  ·exact k
  ·have q:=(h4.mp r).1 x d;refine(S.tr k.1 q.1,?_);rcases k.2 with a |a
   ·exact .inl (S.l a q.1)
   ·rcases q.2 with b |b
    ·exact .inl (S.r k.1 b)
    ·exact .inr (hy a b)
theorem nY(S:G8 c){n:b8}{b:b8->b8->(eg->b'->Prop)->b'->Prop}{I:b'->Prop}{Q:fK b8->b'->Prop}(d:∀i j C s,i<n->j<n->I s->(∀s',I s'->C (c i j) s')->b i j C s)(g:∀p s',p.toList.Perm (da n)->p.toList.Pairwise (C3 c)->I s'->Q p s'):∀(t:KasT (fK b8))(F:U Fa),(∀f∈F,HR c f)->Iv n t F=bm->∀s,I s->t.kasWp b Q s
 |.ret a,F,h,e,s,b=>by
  simp only[Iv,eB]at e;exact g a s (List.isPerm_iff.mp e.1) (wK S h e.2) b
 |.ask i j k,F,h,e,s,b=>by
  simp only[Iv,eB,m6]at e;let(((e1,m),u),v):=e;refine d i j _ s (JB.mp e1) (JB.mp m) b λs' b=>?_;cases z:c i j with
  |true=>
   refine nY S d g (k bm) _ (wM S h (S.as z,λ_=>z)) (u.resolve_left λq=>?_) s' b;exact cx (sV h q).1 (by simp[z])
  |false=>
   refine nY S d g (k b1) _ (wM (s:=b1) S h (z,nofun)) (v.resolve_left λq=>?_) s' b;exact cx ((sV h q).2 Y) (by simp[z])
theorem Le:∀n,n<=6->Iv n (kas_sort n) []=bm:=?k
end
section
open PySem.W
noncomputable def c0:V->cs
 |.non=>0
 |_=>1
def c1:V->V
 |.non=>.int 0
 |v=>v
def G5(v:V):U V:=[.int (c0 v),c1 v]
noncomputable def o3(x y:V):eg:=decide (c0 x<c0 y) || (decide (c0 x=c0 y) && ltV (c1 x) (c1 y))
def ro(x y:V):Prop:=x = .non\/y = .non\/fG x y
theorem Xv{c d:V}{Q:eg->b'->Prop}(I:Inv X g A H s)(f:H a=O (.tup (G5 c)))(m:H b=O (.tup (G5 d)))(B:ro c d)(q:Q (o3 c d) s):
  dy ?m Aa (keyLt' (tuples' bm) (.ref a) (.ref b)) Q on s:=by
 let(J,r,(o,e,_,n,C),_):=I.tuple (fx.of f);let(its',r',(f,D,_,p,d'),_):=I.tuple (fx.of m);let(u,p,Y,f,m):=r.two;let(v,E,Y,w,p):=r'.two;refine kat_lt e C D d' (kat_cons (jD f w Y Y _ _ _ _ ?_));let(t,Y):=f;let(t',Y):=w;by_cases f:c0 c=c0 d
 ·have h:fG (c1 c) (c1 d):=by
   rcases B with rfl |rfl |⟨i,j,rfl,rfl⟩ |⟨i,j,rfl,rfl⟩
   ·cases d <;> first |exact .inl ((0),(0),Y,Y) |cases f
   ·cases c <;> first |exact .inl ((0),(0),Y,Y) |cases f
   ·exact .inl (i,j,Y,Y)
   ·exact .inr (i,j,Y,Y)
  have q:Q (ltV (c1 c) (c1 d)) s:=by simpa[o3,f]using q
  rw[show m3 (.int (c0 c)) (.int (c0 d))=bm by simp[m3,f]];generalize c1 c=x at *;generalize c1 d=y at *;rcases h with⟨i,j,rfl,rfl⟩ |⟨i,j,rfl,rfl⟩ <;> let(_,Y):=m <;> let(_,Y):=p
  ·refine kat_yes (kat_cons (jD (y:=.int i) (x:=.int j) ⟨_,Y⟩ ⟨_,Y⟩ Y Y _ _ _ _ (kat_go (λz=>kat_yes (kat_nil ?_)) λz=>kat_no (kat_one _ _ (I' q)))));simpa[ltV,show i=j by simpa[m3]using z]using q
  ·refine kat_yes (kat_cons (jD (y:=.str i) (x:=.str j) ⟨_,Y⟩ ⟨_,Y⟩ Y Y _ _ _ _ (kat_go (λz=>kat_yes (kat_nil ?_)) λz=>kat_no (kat_one _ _ (Ja q)))));obtain rfl:i=j:=by simpa[m3]using z
   rw[ltV,c4 (List.lt_irrefl _)]at q;exact q
 ·rw[show m3 (.int (c0 c)) (.int (c0 d))=b1 by simp[m3,f]];exact kat_no (oneLt_int (by simpa[o3,f]using q))
inductive KP(X:Cx)(g:U (a_×hg))(A:St)(H:Hp)(Ae:b8)(v:V)(s:b')(r:b0)(s':b'):Prop
 |i(a:a_)(N:Hp)(_:Inv X g A N s')(_:aa H N)(_:r = .ref a)(_:N a=O (.tup (G5 v)))(_:∀b o,Ae<=b->s.heap.get? b=O o->H b=bd->s'.heap.get? b=O o/\N b=bd)
def lH(X:Cx)(g:U (a_×hg))(A:St)(H:Hp)(Ae:b8)(f:b0)(w:V->V)(B:U V):Prop:=
 ∀(s:b')(N:Hp)(x:V)(u:b0),Inv X g A N s->aa H N->x∈B->aB x u->dy ?m X.A.in1.in1 (qB f [u]) (KP X g A N Ae (w x) s) (λ_ _=>fP) s
inductive SG(X:Cx)(g:U (a_×hg))(A:St)(H:Hp)(w:V->V)(B:U V)(D b:a_)(oD:hg)(n:b8)(s:b'):Prop
 |i(N:Hp)(ks:U b0)(c:b8)(_:Inv X g A N s)(_:aa H N)(_:s.heap.get? D=O oD)(_:N D=bd)(_:s.heap.get? b=O (g4 "list" ?aks c))(_:N b=bd)(_:?lks=n)
  (_:∀(j:b8) x,j<n->B[j]?=O x->∃a,ks[j]?=O (.ref a)/\N a=O (.tup (G5 (w x))))
theorem tm{x:V}:o3 x .non=b1:=by cases x <;> rfl
theorem mE{x:V}(h:o3 .non x=b1):x = .non:=by cases x <;> first |rfl |cases h
theorem ro.two{x:V}(h:ro x y)(a:x≠.non)(b:y≠.non):fG x y:=(h.resolve_left a).resolve_left b
theorem jI{x:V}(h:fG x y):o3 x y=ltV x y:=by rcases h with⟨i,j,rfl,rfl⟩ |⟨i,j,rfl,rfl⟩ <;> simp[o3,c0,c1]
theorem mw{x:V}(c:ro x y)(h:o3 x y=bm):o3 y x=b1:=by
 rcases c with rfl |rfl |c
 ·exact tm
 ·rw[tm]at h;cases h
 ·rw[jI c]at h;rcases c with⟨i,j,rfl,rfl⟩ |⟨i,j,rfl,rfl⟩
  ·rw[jI (.inl (_,1,Y))];simp only[ltV,g1,jl]at *;omega
  ·rw[jI (.inr (_,1,Y))];simp only[ltV,g1,jl]at *;exact List.lt_asymm h
theorem Xm{x z:V}(a:ro x y)(b:ro y z)(c:ro x z)(h:o3 y x=b1)(k:o3 z y=b1):o3 z x=b1:=by
 by_cases ex:x = .non
 ·rw[ex];exact tm
 have d:y≠.non:=λe=>ex (mE (e ▸ h));have f:z≠.non:=λe=>d (mE (e ▸ k));have a:=a.two ex d;have b:=b.two d f;rcases a with⟨i,j,rfl,rfl⟩ |⟨i,j,rfl,rfl⟩ <;> rcases b with⟨_,l,e,rfl⟩ |⟨_,l,e,rfl⟩ <;> cases e
 ·simp[o3,c0,c1,ltV]at *;exact Int.le_trans ‹_› ‹_›
 ·rw[jI (.inr (_,1,Y))]at *;simp only[ltV,jl]at *;exact (List.le_trans (show i.cps.1<=j.cps.1 from h) k)
theorem L6{a:U V}(b:∀x∈a,∀y∈a,ro x y):G8 λi j=>o3 (a.getD i .non) (a.getD j .non):=by
 have Ac:∀i,a.getD i .non = .non\/a.getD i .non∈a:=λi=>by
  rw[bb];cases e:a[i]? with
  |none=>exact .inl Y
  |some x=>exact .inr (a0 e)
 have b:∀i j,ro (a.getD i .non) (a.getD j .non):=λi j=>by
  rcases Ac i with e |e
  ·exact .inl e
  ·rcases Ac j with a |a
   ·exact .inr (.inl a)
   ·exact b _ e _ a
 exact(λh=>mw (b _ _) h,λh k=>Xm (b _ _) (b _ _) (b _ _) h k)
section
variable{p D E:a_}{f:b0}{b:eg}{w:V->V}{Q:VK}{K:Inv X g A H s}
theorem ZZ{st:Ϛ}{a:U b0}(I:Inv X g A H s)(Ac:SG X g A H w B D E (g4 "list" #[] e1) n s')(p:?ss<=D)(x:?ss<=E)(ne:D≠E)(d:n<=6)(d:(HJ st).map (·.2)=e' a)(y:vi st=bd)(v:az ys (katRev b a))(C:?lys<=6)(h:∀N,aa H N->H D=bd->N D=O (.lst ys)->Q (.ref D) N):
  dy ?m Aa (JC D b e1 (.ref E) st) (λr s2=>r = .done (.ret .none)/\EP X g A Q (.ref D) s2) on s':=by
 let(N,ks,c,G,u,f,j,J,K,L,_):=Ac;unfold JC;dsimp only;rw[d,kat_outs];have z:(e' (katRev b a)).size<=6:=by rw[b7,<-?lv];exact C
 have d:=gg s'.1 E (et λ_=>(#[]));have f:=(d.2 D ne).trans f;have C:=G.turnedL (t':=s'.4) (ch:=[E]) (λb o m e=>(d.2 b λz=>m (by simp[z])).trans e) λb m=>I.fpOk (by simp at m;exact m ▸ x) (by simp at m;exact m ▸ K);have d:=gg (s'.heap.update E (et λ_=>(#[]))) D (et λ_=>e' (katRev b a));have x:=C.turnedL (t':=s'.4) (ch:=[D]) (λb o m e=>(d.2 b λz=>m (by simp[z])).trans e) λb m=>I.fpOk (by simp at m;exact m ▸ p) (by simp at m;exact m ▸ j);have q:=nS f λ_=>e' (katRev b a);let(_,d,_,_,C,a):=I.fpOk (N:=N) p j;refine al (nr J Y ?_ (by rw[b7,e2];omega) (ej _));refine al (ml (al (x' f Y ?_)));refine al (nr f Y ?_ (ej _) (by rw[e2];omega));rw[y];simp only[HK];refine b4 (Y,.ref D,upd N D (.lst ys),x.track j (kl (ce I.sz p)) d C a (by rw[e2];omega,_,_,v,q),Y,h _ (λb o e=>?_) (u.free j) ae);rw[af (aC (u b o e) j)];exact u b o e
theorem ya{b:eg}{l:U α}{Ab:α->Prop}(h:∀x∈l,Ab x):∀x∈katRev b l,Ab x:=by
 cases b with
 |false=>exact h
 |true=>exact λx m=>h x (t0.mp m)
theorem KW{b:eg}(r:az B vs):az (katRev b B) (katRev b vs):=by
 cases b with
 |false=>exact r
 |true=>exact r.reverse
theorem uS(r:az B vs):∀{a:U b8},(∀i∈a,i<?lB)->az (a.map λi=>B.getD i .non) (a.map λi=>vs.getD i g2)
 |[],_=>.nil
 |i::a,h=>by
  have e:=ag (h i (.head _));let(u,a,q):=r.get e;refine .cons ?_ (uS r λj m=>h j (.tail _ m));show aB (B.getD i .non) (vs.getD i g2);rw[bb,e,bb,a];exact q
theorem yb{w:V->V}(I:Inv X g A H s):∀{ks:U b0},(∀k∈ks,∃a x,k = .ref a/\H a=O (.tup (G5 x)))->∃fs,KatTups s.1 ks fs/\?lfs=?lks/\∀v∈fs,∃c t,v = .int c t
 |[],_=>([],.nil,Y,nofun)
 |k::ks,h=>by
  let(fs,b,f,j):=yb (w:=w) I λk m=>h k (.tail _ m);let(a,x,Y,p):=h k (.head _);let(J,r,(o,e,c,n,d),_):=I.tuple (fx.of p);let(u,q,Y,p,_):=r.two;exact(u::fs,.cons e c d Y b,eG (· + 1) f,λv m=>(bG.mp m).elim (λz=>(_,z ▸ p)) (j v))
inductive F8(b:eg)(w:V->V)(B ys:U V):Prop
 |i(a:U b8)(_:ys=katRev b (a.map λi=>(katRev b B).getD i .non))(_:a.Perm (da ?lB))(_:a.Pairwise (C3 λi j=>o3 (((katRev b B).map w).getD i .non) (((katRev b B).map w).getD j .non)))
theorem Qb(I:Inv X g A H s)(r:az B vs)(Ac:SG X g A H w B D E (g4 "list" #[] e1) ?lB s')(R:?ss<=D)(Z:?ss<=E)(ne:D≠E)(K:?lB<=6)(L:∀x∈B,∀y∈B,ro (w x) (w y))(h:∀N ys,aa H N->H D=bd->N D=O (.lst ys)->F8 b w B ys->Q (.ref D) N):
  dy ?m Aa (do let keys <-Jb (.ref E);ksk_end D b ?avs e1 (.ref E) keys) (λr s2=>r = .done (.ret .none)/\EP X g A Q (.ref D) s2) on s':=by
 let(N,ks,c,M,AB,AC,AD,A3,AE,G,d):=id Ac;refine al (F3 A3 Y ?_);have P:=?lr;have fin:∀{st:Ϛ}{p:fK b8},HJ st=p.map (kas_item ((e' (katRev b ks)).zip (e' (katRev b vs))))->vi st=bd->p.toList.Perm (da ?lB)->p.toList.Pairwise (C3 λi j=>o3 (((katRev b B).map w).getD i .non) (((katRev b B).map w).getD j .non))->dy ?m Aa (JC D b e1 (.ref E) st) (λr s2=>r = .done (.ret .none)/\EP X g A Q (.ref D) s2) on s':=λ{st p} f n pm q=>by
  have z:?lp.toList=?lB:=by rw[pm.length_eq,dV]
  have e:=kat_snds (by rw[kat_len,kat_len];simp_all) f;refine ZZ I Ac R Z ne K e n (KW (uS (KW r) λi m=>?_)) (by rw[kat_len,ai];simp_all) λN a b c=>h N _ a b c (p.1,Y,pm,q);rw[kat_len];exact el.mp (pm.mem_iff.mp m)
 have step:∀t:HS PySem.Fin,dy ?m Aa t (λr s2=>r = .done (.ret .none)/\EP X g A Q (.ref D) s2) on s'->dy ?m Aa (if b=bm then (do let _ <-Fn "list.sort.reverse"; t) else t) (λr s2=>r = .done (.ret .none)/\EP X g A Q (.ref D) s2) on s':=by
  intro t R
  split
  ·exact al (oT R)
  ·exact R
 unfold ksk_end;dsimp only;refine step _ ?_;rw[kat_pairs b ?x,b7];have S:=kas_range ((e' (katRev b ks)).zip (e' (katRev b vs)));rw[show ((e' (katRev b ks)).zip (e' (katRev b vs))).size=?lB by simp[kat_len];simp_all]at S;by_cases h2:?lvs<2
 ·rw[d6 h2,d6 h2];refine al (b4 (al (b4 (fin ?yS Y (.refl _) ?_))));rw[<-P]at h2;rcases s_.mp (oF h2) with z |z <;> rw[z]
  ·exact .nil
  ·exact l4 _ _
 ·rw[du h2,du h2];have T:∀i,i<?lB->∃x a,(katRev b B)[i]?=O x/\x∈B/\(katRev b ks).getD i g2 = .ref a/\N a=O (.tup (G5 (w x))):=λi hi=>by
   have gt:∀{α:Type}{l:U α},?ll=?lB->(katRev b l)[i]?=l[if b=bm then ?lB - 1 - i else i]?:=λ{α l} e=>by
    cases b with
    |false=>rfl
    |true=>exact e ▸ Eu ?x
   have lt:(if b=bm then ?lB - 1 - i else i)<?lB:=by split <;> omega
   let(a,e1,u):=d _ _ lt (ag lt);exact(_,a,(gt Y).trans (ag lt),d1 _,by rw[bb,gt G,e1];rfl,u)
  let(fs,kt,R,J):=yb (w:=w) M λk m=>by
   let(j,lt,Y):=g6.mp m;let(a,e1,u):=d j _ (G ▸ lt) (ag (G ▸ lt));exact(a,_,c_ ((ag lt).symm.trans e1),u)
  refine al (kat_kind (T:=.type "int") kt ?o (λv m=>?_) Y ?_)
  ·let(c,t,Y):=J v m;exact .now
  refine al (ew (kat_run (Q:=λst s2=>s2=s'/\∃p:fK b8,HJ st=p.map (kas_item ((e' (katRev b ks)).zip (e' (katRev b vs))))/\vi st=bd/\p.toList.Perm (da ?lB)/\p.toList.Pairwise (C3 λi j=>o3 (((katRev b B).map w).getD i .non) (((katRev b B).map w).getD j .non)))
   (by rw[kat_len,kat_len];simp_all) (by rw[kat_len];exact mx ‹_›) (by rw[kat_len];omega) (G:=λp s2=>s2=s'/\p.toList.Perm (da ?lB)/\p.toList.Pairwise (C3 λi j=>o3 (((katRev b B).map w).getD i .non) (((katRev b B).map w).getD j .non))) (λp st s2 _ f n Ac=>(Ac.1,p,f,n,Ac.2)) ?_) ?_ λ_ _ x=>x)
  case refine_2=>
   rintro⟨⟨⟩,st⟩ s2 ⟨rfl,p,f,n,pm,q⟩;exact fin f n pm q
  rw[kat_len,<-P];refine nY (L6 ?_) (I:=λs2=>s2=s') (λi j C s2 hi A4 e A5=>?_) (λp s2 pm q e=>(e,pm,q)) _ [] nofun (Le _ K) _ Y
  ·intro _ A6 _ A7;let(x,A8,Y):=cv.mp A6;let(y,A9,Y):=cv.mp A7;exact L x (ya (λ_=>id) x A8) y (ya (λ_=>id) y A9)
  ·subst e;let(x,a,e1,R,u,d):=T i hi;let(y,G,AA,f,n,q):=T j A4;unfold kas_ask;rw[u,n];refine Xv M d q (L x R y f) ?_;have:=A5 _ Y;simpa only[bb,a',e1,AA,pw,oG]using this
theorem Nz(I:Inv X g A H s)(r:az B vs)(M:lH X g A H ?ss f w B)(L:Aa=X.A.in1.in1)(Ac:SG X g A H w B D E (g4 "list" #[] e1) 0 s')(R:?ss<=D)(v:?ss<=E)(ne:D≠E)(n:?lB<=6)(p:∀x∈B,∀y∈B,ro (w x) (w y))(h:∀N ys,aa H N->H D=bd->N D=O (.lst ys)->F8 b w B ys->Q (.ref D) N):
  dy ?m Aa (ksk_rest D f b ?avs e1 (.ref E)) (λr s2=>r = .done (.ret .none)/\EP X g A Q (.ref D) s2) on s':=by
 subst L;refine al (oT ?_);rw[EZ];refine al (ksk_fold (SG X g A H w B D E (g4 "list" #[] e1)) vs 0 s' Ac (λj x s1 d Ac=>?_) λs1 Ac=>Qb I r (by rw[kR,<-?lr]at Ac;exact Ac) R v ne n p h);rw[kR]at Ac ⊢;let(N,ks,c,P,S,C,G,n,p,T,J):=Ac;have L:=(bg.mp d).1;rw[<-?lr]at L;have K:=ag L;let(u,L,Z):=r.get K;rw[d]at L;cases L;refine al (l7 (ew (M s1 N _ x P S (a0 K) Z) (λk s2 L=>?_) λ_ _ d=>d.elim));let(a,M,P,d,Y,A3,Z):=L;let(C,G):=Z D _ R C G;let(n,p):=Z E _ v n p;have L:=gg s2.1 E (et (·.push (.ref a)));have q:=nS n (·.push (.ref a));refine al (nr n Y ?_ (by rw[b7,e2];omega) (by rw[tD,b7,e2];omega));refine b4 (Y,M,ks++[.ref a],_,P.turnedL (t':=s2.4) (ch:=[E]) (λb o m e=>(L.2 b λz=>m (by simp[z])).trans e) λb m=>I.fpOk (by simp at m;exact m ▸ v) (by simp at m;exact m ▸ p),S.trans d,(L.2 D ne).trans C,G,by simpa using q,p,by simp[T],λi y hi n=>?_);by_cases z:i<j
 ·let(L,e1,p):=J i y z n;exact(L,by rw[f1 ?x];exact e1,d _ _ p)
 ·obtain rfl:i=j:=?o
  rw[K]at n;cases n;exact(a,by rw[ge (g3 ‹_›),T,q4];rfl,A3)
theorem LX(I:Inv X g A H s)(c:s.heap.IsList p ?avs)(r:az B vs)(e:?lB<=6)(j:∀x∈B,∀y∈B,ro (w x) (w y))(m:lH X g A H ?ss f w B)(a:Hk "sorted" ([.ref p],kw))(d:∀x,Hk "list.sort" ([.ref x],kw))(n:∀x,hX.«list.sort» ([.ref x],kw)=ksk_tree x f b)(h:∀q N ys,aa H N->H q=bd->N q=O (.lst ys)->F8 b w B ys->Q (.ref q) N):dy ?m X.A (qB (.builtin "sorted") [.ref p] kw) (EP X g A Q) X.xe s:=by
 have u:=?lr;refine call_function_entry_kw Gy F0 F1 a ?_;refine al (b4 ?_);refine al (KH c ?_ (by rw[e2];omega));refine al (nn ?_ (by rw[e2];omega));have c:((s.heap.push (g4 "list" #[] 0)).update ?ss (et (· ++ ?avs))).objs.size=?ss+1:=by
  rw[k4,tE]
 have keep:∀b o,s.heap.get? b=O o->(((s.heap.push (g4 "list" #[] 0)).update ?ss (et (· ++ ?avs))).push (g4 "list" ?avs 0)).get? b=O o:=λb o q=>by
  have a:=b6 q;rw[ow _ _ _ (by rw[c];exact cb (eA a)),EM _ _ _ _ (cb a),ow _ _ _ (cb a)];exact q
 have a:=b_ ((s.heap.push (g4 "list" #[] 0)).update ?ss (et (· ++ ?avs))) (o:=g4 "list" ?avs 0) Y;generalize (s.heap.push (g4 "list" #[] 0)).update ?ss (et (· ++ ?avs))=h1 at *;refine al (e6 (wpAny_call_entry_kw Et (_,a,Y) zB ?body (d _)))
 case body=>
  rw[n];have n:=gg (h1.push (g4 "list" ?avs 0)) ?zh1 (et λ_=>(#[]));have d:=nS a λ_=>(#[])
  have u:=λb o q=>(n.2 b (cb (c ▸ eA (b6 q)))).trans (keep b o q);have n:((h1.push (g4 "list" ?avs 0)).update ?zh1 (et λ_=>(#[]))).objs.size=?ss+2:=by rw[k4,tE,c]
  refine al (F3 a Y ?_);refine al (nr a Y ?_ (by rw[b7,e2];omega) (ej _));refine al (x' d Y ?_);refine al (s6 ?_ (by show ?lvs<=_;rw[e2];omega));refine al (nn ?_ (ej _));dsimp only at *;generalize (h1.push (g4 "list" ?avs 0)).update ?zh1 (et λ_=>(#[]))=h2 at *;have a:(h2.push (g4 "tuple" ?avs 0)).objs.size=?ss+3:=by rw[tE,n]
  refine e6 (ew (Nz (E:=(h2.push (g4 "tuple" ?avs 0)).objs.size) I r m Y (H,[],(0),I.kept (t':=s.4) λb o q=>aw _ (aw _ (u b o q)),aa.refl _,aw _ (aw _ d),I.hok.fresh ?x,b_ _ Y,I.hok.fresh ?o,Y,nofun) ?x ?o (cb ?x) e j (h _)) (λr s2 q=>?_) λ_ _ x=>x);let(Y,q):=q;exact(1,b4 (1,q))
end
end
section
open PySem.W
section
variable{k i:b8}{w:V->V}{v:V}{y:c3}
def KQ(w:V->V)(x:V)(H:Hp)(Q:VK):Prop:=∀a N,aa H N->N a=O (.tup (G5 (w x)))->Q (.ref a) N
theorem P6(F:aN X.1 X.w X.K X.4 X.5 r_ k fa fd ps sp)(h:cp X.K fd ps [])(j:aZ (k+2) X.A)(I:Inv X g A H s)(d:∀x∈B,∀N Q on,KQ w x N Q->sp [x] N Q on):lH X g A H ?ss (.ref fa) w B:=λs1 H1 x u f c m r=>by
 have c:=f.env0;have q:=d x m H1 (λv H2=>∃a,v = .ref a/\aa H1 H2/\H2 a=O (.tup (G5 (w x)))) (λ_ _ _=>fP) λa N h1 h2=>(a,Y,h1,h2)
 have d:=h s1 [u] f.kIn (by rw[f2];exact F.len _ _ _ _ q);refine na (h6 (F.run X.A.in1.in1 X.12 s1 H1 ([u],[]) [u] [x] _ _ j.in1.in1 (c.1,c.2,c.3,c.4,c.5,c.6,c.7,c.8) d (.cons r .nil) q) λd s2 c=>?_);cases d with
 |error e=>exact c.elim
 |ok d=>
  cases d with
  |ret d=>
   let(_,H2,os,d,un,h,p,a,Y,j,y):=c;refine(a,H2,f.call' os un h d (λb z=>cx z ?s),j,p,y,λb o C e n=>(un.keep b o e n (λz=>?_) ?s,un.free b o e n ?s));let(_,d,h,_):=I.fpOk (N:=H1) C n;exact (bG.mp (f.stkSub b z)).elim d h
  |next=>exact fb c
  |brk=>exact fb c
  |cont=>exact fb c
theorem U_(F:aN X.1 X.w X.K X.4 X.5 r_ k fa fd ps sp)(h:cp X.K fd ps [])(L:aZ (k+2) X.A)(I:Inv X g A H s)(D:X.N[i]?=O y)(G:X.env.scope.names.lookup y=O .cell)(j:X.env.cells.lookup y=O c)(p:X.fn y=bm)(f:A[i]?=O (O v))(E:∀x∈B,∀N oc u Q on,aa H N->N c=bd->oc.3 = .cell (O u)->aB v u->KQ w x (upd N c (lS oc c)) Q->sp [x] (upd N c (lS oc c)) Q on):lH X g A H ?ss (.ref fa) w B:=λs1 H1 x u d M m r=>by
 have C:=d.freeC y c j;let(J,P,K):=d.5;let(J,P,lk):=K i y v D f (.inr (.inl G));have f:s1.heap.IsCell c (O J):=by
  rcases lk with⟨R,_⟩ |⟨_,T,K,S⟩
  ·exact cx (G.symm.trans R) ?s
  ·rw[j]at K;cases K;exact S
 let(oc,K,ed):=f;have q:=E x m H1 oc J (λv H2=>∃a,v = .ref a/\aa (upd H1 c (lS oc c)) H2/\H2 a=O (.tup (G5 (w x)))) (λ_ _ _=>fP) M C ed P λa N h1 h2=>(a,Y,h1,h2)
 have E:∀{b:a_},b<?sX.s₀->H1 b=bd->upd H1 c (lS oc c) b=bd:=λh n=>by
  rw[af (cb (c2 h (d.ok.cab y c p j)))];exact n
 have f:=d.env0;have e1:eR X.1 X.w X.K X.4 X.5 X.A.in1.in1 X.12 s1 (upd H1 c (lS oc c)):=by
  refine(f.1,f.2,λb o q=>((f.bs b o q).1,E (c2 (b6 q) d.ok.14) (f.bs b o q).2),f.4,f.5,λb h=>?_,f.hok.frO C K,f.8);rcases bG.mp (d.stkSub b h) with z |z
  ·rw[af (z ▸ (d.cne y c j).symm)];exact f.frf b h
  ·let(_,o,j,_):=d.ok.funs.mem z;exact E (b6 j) (f.frf b h)
 have f:=h s1 [u] d.kIn (by rw[f2];exact F.len _ _ _ _ q);refine na (h6 (F.run X.A.in1.in1 X.12 s1 _ ([u],[]) [u] [x] _ _ L.in1.in1 e1 f (.cons r .nil) q) λf s2 h=>?_);cases f with
 |error e=>exact h.elim
 |ok f=>
  cases f with
  |ret f=>
   let(_,H2,os,j,un,p,L,a,Y,E,G):=h;have J:=un.frzs c _ _ ae;have f:=un.thaw C K (p.at J);refine(a,del H2 c,d.call' os f (p.del J) j (λb z=>cx z ?s),λb o e=>?_,L,?_,λb o D e n=>(f.keep b o e n (λz=>?_) ?s,f.free b o e n ?s))
   ·have z:=aC e C;rw[cB z];exact E b o (by rw[af z];exact e)
   ·rw[cB λz=>by rw[z,J]at G;cases G];exact G
   ·let(_,f,j,_):=I.fpOk (N:=H1) D n;exact (bG.mp (d.stkSub b z)).elim f j
  |next=>exact fb h
  |brk=>exact fb h
  |cont=>exact fb h
variable{C E:FF}{D:b8}{j:TA}
def KF(X:Cx)(A:St)(H:Hp)(f:b0)(w:V->V)(B:U V):Prop:=∀g s,Inv X g A H s->lH X g A H ?ss f w B
inductive OH(X:Cx)(b:eg)(A:St)(vs:U V)(d:V)(H:Hp)(Q:VK):Prop
 |i(p l:a_)(B:U V)(w:V->V)(_:vs=[.ref p])(_:d = .ref l)(_:eb X.K H p B)(_:?lB<=6)(_:∀x∈B,∀y∈B,ro (w x) (w y))(_:KF X A H (.ref l) w B)
  (_:∀q N ys,aa H N->H q=bd->N q=O (.lst ys)->F8 b w B ys->Q (.ref q) N)
def Lz(X:Cx)(b:eg)(j:TA)(td:TE):TE:=λA H Q=>j A H λvs H1=>td A H1 λd H2=>OH X b A vs d H2 Q
theorem zr(b:Gl X "sorted")(c:X.mg "sorted" =bd)(f:PA X [e] j)(hd:PE X ed td)(m:zzp (gx pos (cH [e] X.10)=(zzq b1 (eval e X.10))::gx pos (cH [] X.10)) zz0)(a:zzp ((gx pos (cH [e] X.10)).any (·.1)=b1) zz0):PE X (.Call (.Name "sorted" p) [e] [(O "key",ed,kpos)] pos) (Lz X b1 j td):=by
 intro g s A H Q I h;refine fq (df I b c ?r ?_ ?a ?a);refine mC (gv (f pos g s A H _ I h) λus s1 ⟨vs,H1,b,c,D⟩=>?_) m a Y Y;refine Gu (gv (hd g s1 A H1 _ b D) λm s2 ⟨d,H2,a,b,f⟩=>KC ?_);let(p,l,B,w,Y,Y,m,n,v,y,q):=f;let(u,Y,f):=cA c;cases f;cases b;let(J,r,pl,_):=a.list m;exact LX a pl.isList r n v (y g s2 a) (ksk_s1 _ _) (λ_=>ksk_l1 _ _) (λx=>ksk_t1 l x) q
theorem NO(b:Gl X "sorted")(c:X.mg "sorted" =bd)(f:PA X [e] j)(hd:PE X ed td)(m:zzp (gx pos (cH [e] X.10)=(zzq b1 (eval e X.10))::gx pos (cH [] X.10)) zz0)(a:zzp ((gx pos (cH [e] X.10)).any (·.1)=b1) zz0):PE X (.Call (.Name "sorted" p) [e] [(O "key",ed,kpos),(O "reverse", .Constant (.bool bm) D E,C)] pos) (Lz X bm j td):=by
 intro g s A H Q I h;refine fq (df I b c ?r ?_ ?a ?a);refine mC (gv (f pos g s A H _ I h) λus s1 ⟨vs,H1,b,c,D⟩=>?_) m a Y Y;refine Gu (gv (hd g s1 A H1 _ b D) λm s2 ⟨d,H2,a,b,f⟩=>Gu (b4 (KC ?_)));let(p,l,B,w,Y,Y,m,n,v,y,q):=f;let(u,Y,f):=cA c;cases f;cases b;let(J,r,pl,_):=a.list m;exact LX a pl.isList r n v (y g s2 a) (ksk_s2 _ _ _) (λ_=>ksk_l2 _ _ _) (λx=>ksk_t2 l x bm) q
end
end
theorem OF(K:bI)(a:PE X e te)(h:zzp (X.K=K) zz0):PI X tg e (xT K te):=by subst h;exact ba a
inductive U2(Q:VK)(x:V)(H:Hp):Prop
 |i(n:b8)(_:x = .int n)(_:n<=1000)(_:∀q N,aa H N->H q=bd->N q=O (.lst ((da n).map λi=>.int (i:b8)))->Q (.ref q) N)
def W_(te:TE):TE:=λA H Q=>te A H λx H1=>U2 Q x H1
theorem Uc(h:B2 (λi v=>∃t,v = .int (0+i * 1) t) acc n):az ((da n).map λi=>V.int (i:b8)) acc.1:=
 qj (by rw[ai,dV,ee,h.1]) λj x u e a=>by
  let(t,Y):=h.2 j u (by rw[<-j1];exact a);rw[a']at e;let(i,a,Y):=d3.mp e;let(_,Y):=bg.mp a;exact(t,?s)
theorem ZV(p:X.15=bm)(a:Gl X "list")(d:X.mg "list" =bd)(f:Gl X "range")(j:X.mg "range" =bd)(v:PE X e te)(m:zzp (cH [e] X.10=[(zzq b1 (eval e X.10))]) zz0):
  PE X (.Call (.Name "list" p2) [.Call (.Name "range" p3) [e] [] p4] [] pos) (W_ te):=by
 intro g s A H Q I h;refine fq (df I a d z5 ?_ ?a ?a);refine ec ?_ Y Y;refine hc ?_;refine fq (df I f j CH ?_ ?a ?a);refine ec ?_ (by rw[m];rfl) Y;simp only[m];refine hc (gv (v g s A H _ I h) λu s1 ⟨x,H1,a,d,n,e1,f,q⟩=>hj ?_);subst e1;let(t,Y):=d;refine K2 (hj ?_);refine call_list_range (n:=n) (I.ok.hd p) (y_ ..) (small_one ?a ?a ?o ?o) (by rw[JR];split <;> omega) ?o λh' tk acc c f Ac it=>?_;have sz:?ss1<=(s1.heap.push { cls:=.type "range",data:=.fields #[.int 0 s1.4,.int n t,.int 1 (s1.4+1)] }).objs.size:=by rw[fN];exact h0 _
 have d:=a.hok.fresh sz;refine(.ref _,_,a.laid (t':=tk) (o:=.lst _) (λb o e=>f b o (aw _ e)) sz (?_,acc.1,c,Uc it,by simpa using Ac),Y,q _ _ (aa.new d) d ae);rw[ai,dV,e2];omega
theorem Yv{c S h:b8}(e:S=n+5)(st:S<h)(m:c=S\/c=n+4\/c=n+3\/c=n\/c=n+1):c<h:=?o
theorem XD{c S:b8}(e:S=n+5)(l:c<n)(m:c=S\/c=n+4\/c=n+3\/c=n\/c=n+1):fP:=?o
theorem R3:mj (.type "zip") "__len__" =hl bd:=Y
theorem Y5:mj (.type "zip") "__length_hint__" =hl bd:=Y
section
variable{S:a_}{d:b8->fy->Prop}
def qG(kv:b8->b0×b0)(S:a_)(wr:U a_)(h:fy)(acc:fK b0)(i:b8):Prop:=?eacc=i/\acc.toList.Nodup/\∀j<i,∃p,acc[j]?=O (.ref p)/\qA h p #[(kv j).1,(kv j).2]/\S<p/\p∉wr
theorem Ι(W:jZ prog w Aa.in1 I S wr n kv d sI)(v:n<=bT)(v:b0)(L:∀i h,d i h->∀b∈S::wr,b<?zh):
  ∀(m i:b8)(s:b')(acc:fK b0)(c:b8),n - i=m->i<=n->d i s.1->s.heap.get? S=O { cls:=.type "list",data:=.seq acc c }->qG kv S wr s.1 acc i->
   (∀h' tk f c',h'.get? S=O { cls:=.type "list",data:=.seq f c' }->qG kv S wr h' f n->(∀b o,b∉S::wr->s.heap.get? b=O o->h'.get? b=O o)->R (.ok (.ret v)) { s with heap:=h',toks:=tk })->
   lp (ds prog w) Aa (.builtin "list.extend.loop" ([.ref S,.ref I,v],[])) R s:=by
 have K:=W.1;intro m;induction m with
 |zero=>
  intro i s acc c M hi st G g q;obtain rfl:i=n:=?o
  refine f7 FX ?_;refine al (W.done s _ _ st λh' tk k=>b4 (q h' tk acc c (k S _ K G) (g.1,g.2.1,λj x=>?_) λb o u e=>k b o (λz=>u (.tail _ z)) e));let(p,e1,(o,y,r),D,A):=g.2.2 j x;exact(p,e1,(o,k p o A y,r),D,A)
 |succ m N=>
  intro i s acc c M hi st G g q;have lt:i<n:=?o
  refine f7 FX ?_;refine al (W.item i s _ _ lt st λp h1 tk P H J fr=>?_);have np:=λb m=>e8 (c2 (L i _ st b m) (fr trivial));have B:=J S _ K G;have Q:(acc.push (.ref p)).toList.Nodup:=by
   rw[Array.toList_push];refine hn.mpr (g.2.1,?s,λa m b T z=>?_);obtain rfl:b = .ref p:=by simpa using T
   subst z;let(j,x,e):=g6.mp m;let(E,e1,(o,y,_),_):=g.2.2 j (by rw[<-g.1];simpa using x);rw[<-j1,ag x,e]at e1;cases e1;exact cx (b6 y) (Nat.not_lt.mpr (fr trivial))
  have C:=gg h1 S (et (·.push (.ref p)));refine al (hP B Y (b4 (hm s0 _,N (i+1) _ (acc.push (.ref p)) _ ?o lt (W.frame _ _ _ H (λb o u e=>(C.2 b u).trans e) (g3 C.1.symm)) (f5 _ B Y) (by rw[tD,g.1],Q,λj x=>?_) λh' v f c' G K M=>q h' v f c' G K λb o u e=>M b o u ((C.2 b λz=>u (z ▸ .head _)).trans (J b o (λz=>u (.tail _ z)) e))))
   (by rw[g.1];exact ce ‹_› ‹_›) (by rw[tD,g.1];omega))
  by_cases z:j=i
  ·subst z;let(o,e,r):=P;exact(p,by rw[<-g.1];simp,(o,(C.2 p (np S (.head _))).trans e,r),c2 (L _ _ st S (.head _)) (fr trivial),λm=>np p (.tail _ m) Y)
  ·let(E,e1,(o,y,r),D,A):=g.2.2 j ?o;exact(E,by rw[Array.getElem?_push,du (by rw[g.1];exact z)];exact e1,(o,(C.2 E (e8 D)).trans (J E o A y),r),D,A)
theorem Z9{TI TO:a_}{c:b8}(W:jZ prog w Aa.in1 I S wr n kv d sI)(v:n<=bT)(j:b0)(x:∀i h,d i h->∀b∈S::wr,b<?zh)(m:tz s.1 I TI TO .none)(ne:S≠I)(st:d 0 s.1)(p:s.heap.get? S=O { cls:=.type "list",data:=.seq #[] c })(q:∀h' tk a c',h'.get? S=O { cls:=.type "list",data:=.seq a c' }->qG kv S wr h' a n->(∀b o,b∉S::wr->s.heap.get? b=O o->h'.get? b=O o)->R (.ok (.ret j)) { s with heap:=h',toks:=tk }):
  dy (ds prog w) Aa.in1 (ry (.ref S) (.ref I) j)
   (λfin s'=>match fin with |.done f=>R (.ok f) s' |.again c'=>c'.quiet=bm/\lp (ds prog w) Aa c' R s') (λe s'=>R (.error e) s') s:=by
 have g:s.TypeIs (.ref I) "zip" := (_,m,Y)
 refine al (ra g ?_);have h1:kb (.ref S) (.ref I)=b1:=by simp[kb,ne]
 have h2:(hk "zip" ==hk "list")=b1:=?a
 have u:(hk "zip" ==hk "tuple")=b1:=?a
 simp only[h1];refine al (lz m ?_);refine al (e6 ?_);refine al (kc g R3 ?_);refine al (kc g Y5 ?_);refine b4 ?_;refine al (oT ?_);refine al ?_;refine al (hP p Y ?_);have g:=f5 (et (·.push g2)) p Y;refine hP g Y ?_;have m:=f5 (et (·.pop)) g Y;have g:∀b o,b≠S->s.heap.get? b=O o->((s.heap.update S (et (·.push g2))).update S (et (·.pop))).get? b=O o:=
  λb o p e=>(e7 _ _ (fU p)).trans ((e7 _ _ (fU p)).trans e)
 exact b4 (hm s0 _,Ι W v j x n 0 _ _ _ Y (ej _) (W.frame _ _ _ st g (by rw[k4,k4];exact b2 _)) m (Y,?s,nofun) λh' tk a c' u y k=>q h' tk a c' u y λb o p e=>k b o p (g b o (λz=>p (z ▸ .head _)) e))
end
theorem z6:∀{l:U b0},(∀v∈l,∃p,v = .ref p)->∃a:U a_,l=a.map .ref
 |[],_=>([],Y)
 |v::l,h=>by
  let(p,Y):=h v (.head _);let(a,Y):=z6 λv m=>h v (.tail _ m);exact(p::a,Y)
theorem W0(I:Inv X g A H s){c:U a_}{d:U (V×V)}(f:c.Nodup)(l:?lc=?ld)(h:∀a∈c,X.s₀.heap.get? a=bd/\eU X g H a)(p:∀(j:b8) a z,c[j]?=O a->d[j]?=O z->∃u v,qA s.1 a #[u,v]/\aB z.1 u/\aB z.2 v):
  ∃N,Inv X g A N s/\(∀b,b∉c->N b=H b)/\∀(j:b8) a z,c[j]?=O a->d[j]?=O z->N a=O (.tup [z.1,z.2]):=by
 induction c generalizing d with
 |nil=>exact(H,I,λ_ _=>rfl,nofun)
 |cons a c w=>
  cases d with
  |nil=>cases l
  |cons z d=>
   let(d,f):=hD.mp f;let(N,x,k,e):=w f (rs l) (λa m=>h a (.tail _ m)) λj a z e1 c=>p (j+1) a z e1 c;let(u,v,(o,e1,c,n,w),B,C):=p 0 a z Y Y;let(p,D,E,f,K,G,J):=h a (.head _);refine(upd N a (.tup [z.1,z.2]),x.track ((k a d).trans D) p E G J (av Y,[u,v],.cons B (.cons C .nil),o,e1,c,n,w),λb f=>?_,λj b y h1 h2=>?_)
   ·rw[af (show b≠a from λq=>f (q ▸ .head _))];exact k b λm=>f (.tail _ m)
   ·cases j with
    |zero=>cases h1;cases h2;exact ae
    |succ j=>rw[af (show b≠a from λq=>d (q ▸ a0 h1))];exact e j b y h1 h2
inductive Xu(K:bI)(Q:VK)(vs:U V)(H:Hp):Prop
 |i(l1 l2:a_)(B ys:U V)(_:vs=[.ref l1,.ref l2])(_:eb K H l1 B)(_:eb K H l2 ys)(_:?lB=?lys)(_:∀(q:a_)(b:U a_) N,aa H N->H q=bd->N q=O (.lst (b.map V.ref))->?lb=?lB->(∀(j:b8) a z,b[j]?=O a->(B.zip ys)[j]?=O z->N a=O (.tup [z.1,z.2]))->Q (.ref q) N)
def Xy(K:bI)(t:TA):TE:=λA H Q=>t A H λvs H1=>Xu K Q vs H1
theorem V8(K:bI){a b:f3}{ta:TA}(L:X.15=bm)(y:Gl X "list")(f:X.mg "list" =bd)(R:Gl X "zip")(S:X.mg "zip" =bd)(E:PA X [a,b] ta)(G:zzp (X.K=K) zz0)(M:zzp (cH [a,b] X.10=[(zzq b1 (eval a X.10)),(zzq b1 (eval b X.10))]) zz0)(d:zzp (cH [b] X.10=[(zzq b1 (eval b X.10))]) zz0)(D:zzp (cH [.Call (.Name "zip" p2) [a,b] [] pos2] X.10=[(zzq b1 (eval (.Call (.Name "zip" p2) [a,b] [] pos2) X.10))]) zz0):
  PE X (.Call (.Name "list" p) [.Call (.Name "zip" p2) [a,b] [] pos2] [] pos) (Xy K ta):=by
 subst G;intro g s A H Q I h;refine uB (df I y f z5 (ec ?_ D Y));refine hc ?_;refine uB (df I R S qq (ec (gv (E pos2 g s A H _ I h) λus s1 ⟨vs,H1,w,R,y⟩=>?_) (by simp only[M,d]) (by rw[d];rfl)));let(a,b,B,ys,e,f,M,d,q):=y;subst e;let(S,D,Y,d,y):=lD R;cases d;cases y;let(G,S,N,d):=w.list f;let(D,T,P,d):=w.list M;have M:a<?ss1:=by let(o,_,e,_):=N;exact b6 e
 have lb:b<?ss1:=by let(o,_,e,_):=P;exact b6 e
 have lia:=?lS;have d:=?lT;refine Hq N.isList P.isList λh' Z A3 A4 A5 A6 f R=>?_;refine hj ?_;have A7:=w.ok.hd L;refine Eo (Q₁:=λobj d=>obj = .ref ?zh'/\d={ s1 with heap:=h'.push { cls:=.type "list",data:=.seq #[] } }) IR (GG _) GH (Kh _ (Y,Y)) λobj d y=>?_;let(Y,Y):=y;have d:(h'.push { cls:=.type "list",data:=.seq #[] }).get? ?zh'=O { cls:=.type "list",data:=.seq #[] }:=b_ _ Y;refine((_,d,Y),Gs _ _,?_);refine al ?_;refine al (fA d Y (b4 ?_));refine al (hP d Y ?_);have y:=f5 (et (λ_=>(#[]))) d Y;have d:∀b o,h'.get? b=O o->((h'.push { cls:=.type "list",data:=.seq #[] }).update ?zh' (et (λ_=>(#[])))).get? b=O o:=
  λb o e=>(e7 _ _ (e8 (b6 e))).trans (aw _ e)
 have sz:((h'.push { cls:=.type "list",data:=.seq #[] }).update ?zh' (et (λ_=>(#[])))).objs.size=?zh'+1:=by rw[k4,tE]
 let kv:b8->b0×b0:=λi=>(zzq (G.getD i .none) (D.getD i .none))
 have J:∀i,i<?lG->G[i]?=O (kv i).1/\D[i]?=O (kv i).2:=λi hi=>by
  have e1:=ag hi;have C:=ag (l:=D) (i:=i) ?o;exact(by rw[e1];simp[kv,hi],by rw[C];simp[kv,show i<?lD by omega])
 refine Z9 (zl (by simp[A7]) (?ss1+4) (?ss1+2) (?ss1+3) ?ss1 (?ss1+1) a b ?zh' (Fy M lb) (λc L=>?_) ?aG ?aD (by simp;omega) kv λi hi=>?_) (by rw[b7];omega) .none (λi h st c m=>?_) (d _ _ Z) (e8 (f ▸ f_ _)) (sz ▸ f_ _,d _ _ A3,A5.at λo e=>d _ _ e,A6.at λo e=>d _ _ e,N.isList.at λo e=>d _ _ (R _ _ e),P.isList.at λo e=>d _ _ (R _ _ e),.inl (d _ _ Z,_,_,d _ _ A4)) y λh2 tk acc c N E k=>?_
 ·simp only[bG,dH,f8]at L;rw[f];exact ne5 M lb L
 ·let(e1,C):=J i (by simpa using hi);exact(by simpa using e1,by simpa using C)
 ·simp only[bG,dH,f8]at m;exact Yv f st.1 m
 ·let(y,L):=z6 (l:=acc.1) λv m=>by
   let(j,D,Y):=g6.mp m;let(p,e,_):=E.2.2 j (by rw[<-E.1];simpa using D);exact(p,by rw[<-j1,ag D]at e;exact c_ e)
  have M:?ly=?lG:=by
   have:=eG qT L;rw[ai,ee,E.1]at this;exact ?ythis
  have G:∀(j) p,y[j]?=O p->qA h2 p #[(kv j).1,(kv j).2]/\?zh'<p:=λj p e=>by
   let(Z,e1,C,P,_):=E.2.2 j (by rw[b7,<-M];exact (bg.mp e).1);rw[<-j1,L,a',e]at e1;cases e1;exact(C,P)
  have ks:=λb o e=>k b o (λm=>by
   simp only[bG,dH,f8]at m;exact XD f (b6 e) m) (d b o (R b o e))
  have Z:=w.kept (t':=tk) ks;have A3:∀a∈y,X.s₀.heap.get? a=bd/\eU X g H1 a:=λa m=>by
   let(j,D,Y):=g6.mp m;have l:=(G j _ (ag D)).2;have l:?ss1<=y[j]:=dn (hy (by rw[f];omega) l);exact(kl (ce w.sz l),w.fpOk l (w.hok.fresh l))
  have A4:∀(j:b8) a z,y[j]?=O a->(B.zip ys)[j]?=O z->∃u v,qA h2 a #[u,v]/\aB z.1 u/\aB z.2 v:=λj p z e1 C=>by
   let(A5,_):=G j p e1;let(R,A6):=gp.mp C;let(u,d,A7):=S.get R;let(v,A8,M):=T.get A6;let(R,S):=J j (bg.mp d).1;rw[d]at R;rw[A8]at S;exact(_,_,A5,c_ R ▸ A7,c_ S ▸ M)
  let(H2,J,R,P):=W0 Z (by have:=E.2.1;rw[L]at this;exact Iq _ (λa b n z=>n (z ▸ Y)) this) (by rw[hF];omega) A3 A4;have d:?ss1<=?zh':=by rw[f];exact pB _ _
  have f:=w.hok.fresh d;have S:?zh'∉y:=λm=>by
   let(j,D,e):=g6.mp m;exact fS _ (e ▸ (G j _ (ag D)).2)
  let(_,Z,_,_,E,T):=w.fpOk (N:=H1) d f;have M:az (y.map V.ref) acc.1:=L ▸ qj (by rw[ai,ai]) λj x u h1 h2=>by
   rw[a']at h1 h2;let(a,e,Y):=d3.mp h1;rw[e]at h2;cases h2;rfl
  have L:∀b o,H1 b=O o->upd H2 ?zh' (.lst (y.map V.ref)) b=O o:=λb o e=>by
   rw[af (aC e f),R b λm=>?_]
   ·exact e
   ·let(j,D,z):=g6.mp m;have l:=(G j _ (ag D)).2;rw[z]at l;rw[w.hok.fresh (ce d (dn l))]at e;cases e
  refine(Y,.ref _,_,J.track (o:=.lst (y.map V.ref)) ((R _ S).trans f) (kl (ce w.sz d)) Z E T (by rw[ai];omega,acc.1,c,M,by simpa using N),Y,q _ y _ L f ae ?o λj a z e1 C=>?_);rw[af (show a≠?zh' from λe=>S (e ▸ a0 e1))];exact P j a z e1 C
section
open PySem.W
section
variable{p:a_}{Q:VK}
theorem Wb{C:eg->b'->Prop}{x:V}(a:aB x u)(b:aB y v)(h:fG x y)(q:C (o3 x y) s):dy ?m Aa (keyLt' oneType' u v) C on s:=by
 rcases h with⟨i,j,rfl,rfl⟩ |⟨i,j,rfl,rfl⟩ <;> let(_,Y):=a <;> let(_,Y):=b
 ·exact kat_lt_int q
 ·exact kas_lt_str q
theorem Nb(I:Inv X g A H s)(a:s.heap.IsList p ?avs)(r:az B vs)(N:?lB<=6)(f:∀x∈B,∀y∈B,fG x y)(h:∀q ys,H q=bd->F8 b1 id B ys->Q (.ref q) (upd H q (.lst ys))):
  dy ?m X.A (qB (.builtin "sorted") [.ref p]) (EP X g A Q) X.xe s:=by
 have K:=?lr;refine v5 Gy F0 F1 (KD _) ?_;refine al (b4 ?_);refine al (KH a ?_ (by rw[e2];omega));refine al (nn ?_ (by rw[e2];omega));have c:((s.heap.push (g4 "list" #[] 0)).update ?ss (et (· ++ ?avs))).objs.size=?ss+1:=by
  rw[k4,tE]
 have keep:∀b o,s.heap.get? b=O o->(((s.heap.push (g4 "list" #[] 0)).update ?ss (et (· ++ ?avs))).push (g4 "list" ?avs 0)).get? b=O o:=λb o q=>by
  have a:=b6 q;rw[ow _ _ _ (by rw[c];exact cb (eA a)),EM _ _ _ _ (cb a),ow _ _ _ (cb a)];exact q
 have a:=b_ ((s.heap.push (g4 "list" #[] 0)).update ?ss (et (· ++ ?avs))) (o:=g4 "list" ?avs 0) Y;generalize (s.heap.push (g4 "list" #[] 0)).update ?ss (et (· ++ ?avs))=h1 at *;refine al (e6 (g8 Et (_,a,Y) zB ?body (J9 _)))
 case body=>
  rw[list_sort_plain];have D:=gg (h1.push (g4 "list" ?avs 0)) ?zh1 (et λ_=>(#[]));have n:=nS a λ_=>(#[])
  have d:=λb o q=>(D.2 b (cb (c ▸ eA (b6 q)))).trans (keep b o q);refine al (F3 a Y ?_);refine al (nr a Y ?_ (by rw[b7,e2];omega) (ej _));refine al (x' n Y ?_);refine al (s6 ?_ (by show ?lvs<=_;rw[e2];omega));refine al (nn ?_ (ej _));generalize (h1.push (g4 "list" ?avs 0)).update ?zh1 (et λ_=>(#[]))=h2 at *;refine e6 ?_;have D:=λb o q=>aw (g4 "list" #[] 0) (aw (g4 "tuple" ?avs 0) (d b o q));have d:=aw (g4 "list" #[] 0) (aw (g4 "tuple" ?avs 0) n);have ld:?ss<=?zh1:=by rw[c];exact h0 _
  generalize (h2.push (g4 "tuple" ?avs 0)).push (g4 "list" #[] 0)=c at *;have fin:∀{st:Ϛ}{p:fK b8}{e1:b8},c.get? ?zh1=O (g4 "list" #[] e1)->HJ st=p.map (kas_item ((e' vs).zip (e' vs)))->vi st=bd->p.toList.Perm (da ?lB)->p.toList.Pairwise (C3 λi j=>o3 ((B.map id).getD i .non) ((B.map id).getD j .non))->
    dy ?m X.A.in1.in1 (do
     let sorted:=(HJ st).map (·.2);let a:=(<-seqEpoch ?zh1) !=e1
     Jc (.ref ?zh1) λ_=>sorted
     if let O e:=vi st then Fn "list.sort.comparison-raised"; throw e
     if a then Fn "list.sort.modified"; raiseError "ValueError" "list modified during sort"
     ret .none) (λfin s'=>fin = .done (.ret .none)/\EP X g A Q (.ref ?zh1) s') (λ_ _=>fP) { s with heap:=c }:=λ{st p e1} d a n pm w=>by
   have z:?lp.toList=?lB:=by rw[pm.length_eq,dV]
   have e:=kat_snds Y a;rw[e];have E:=gg c ?zh1 (et λ_=>e' (p.toList.map λi=>vs.getD i g2));have G:=nS d λ_=>e' (p.toList.map λi=>vs.getD i g2);refine al (x' d Y ?_);refine al (nr d Y ?_ (ej _) (by rw[b7,ai,e2];omega));rw[n];simp only[HK];refine b4 (Y,.ref _,_,I.laid (t':=s.4) (o:=.lst (p.toList.map λi=>B.getD i .non)) (λb o q=>(E.2 b (cb (c2 (b6 q) ld))).trans (D b o q)) ld (by rw[ai,e2];omega,_,_,uS r λi m=>el.mp (pm.mem_iff.mp m),G),Y,h _ _ (I.hok.fresh ld) (p.1,Y,pm,w))
  refine ew (Q:=λfin s'=>fin = .done (.ret .none)/\EP X g A Q (.ref ?zh1) s') (E:=λ_ _=>fP) ?_ (λr s2 q=>?_) λ_ _ x=>x.elim
  case refine_2=>
   let(Y,q):=q;exact(1,b4 (1,q))
  rw[b7];by_cases h2:?lvs<2
  ·rw[d6 h2,d6 h2];have D:=kas_range ((e' vs).zip (e' vs));rw[show ((e' vs).zip (e' vs)).size=?lB by simp;exact E8 ‹_›]at D;refine al (b4 (al (b4 (fin d ?yD Y (.refl _) ?_))));rw[<-K]at h2;rcases s_.mp (oF h2) with z |z <;> rw[z]
   ·exact .nil
   ·exact l4 _ _
  ·rw[du h2,du h2];have L:∀v∈vs,∃x∈B,aB x v:=λv m=>by
    let(j,J,Y):=g6.mp m;let(u,E,q):=r.get (ag (show j<?lB by simp_all));rw[ag J]at E;cases E;exact(_,d1 _,q)
   obtain⟨T,P,M⟩:∃T,(∀v∈vs,Looks ?m c (Fu v) T)/\(T !=hk "tuple")=bm/\(T ==T)=bm:=by
    obtain⟨D,G⟩:∃x,x∈B:=(B[0]' ?o,d1 _)
    rcases f D G D G with⟨i,_,rfl,_⟩ |⟨i,_,rfl,_⟩
    ·refine(.type "int",λv m=>?_,Y,Y);let(x,D,q):=L v m;rcases f _ G x D with⟨_,j,_,rfl⟩ |⟨_,j,e,rfl⟩
     ·let(_,Y):=q;exact .now
     ·cases e
    ·refine(.type "str",λv m=>?_,Y,Y);let(x,D,q):=L v m;rcases f _ G x D with⟨_,j,e,rfl⟩ |⟨_,j,_,rfl⟩
     ·cases e
     ·let(_,Y):=q;exact .now
   refine al (kas_kind (mx ‹_›) P M.1 M.2 ?_);refine al (ew (kat_run (Q:=λst s2=>s2={ s with heap:=c }/\∃p:fK b8,HJ st=p.map (kas_item ((e' vs).zip (e' vs)))/\vi st=bd/\p.toList.Perm (da ?lB)/\p.toList.Pairwise (C3 λi j=>o3 ((B.map id).getD i .non) ((B.map id).getD j .non)))
    rfl (mx ‹_›) ?o (G:=λp s2=>s2={ s with heap:=c }/\p.toList.Perm (da ?lB)/\p.toList.Pairwise (C3 λi j=>o3 ((B.map id).getD i .non) ((B.map id).getD j .non))) (λp st s2 _ a n Ac=>(Ac.1,p,a,n,Ac.2)) ?_) ?_ λ_ _ x=>x)
   case refine_2=>
    rintro⟨⟨⟩,st⟩ s2 ⟨rfl,p,a,n,pm,w⟩;exact fin d a n pm w
   rw[<-K];refine nY (L6 ?_) (I:=λs2=>s2={ s with heap:=c }) (λi j C s2 hi J e c=>?_) (λp s2 pm w e=>(e,pm,w)) _ [] nofun (Le _ N) _ Y
   ·rw[hH];exact λx D y a=>.inr (.inr (f x D y a))
   ·subst e;have a:∀i,i<?lB->∃x u,(B.map id).getD i .non=x/\vs.getD i g2=u/\x∈B/\aB x u:=λi hi=>by
     let(u,E,q):=r.get (ag hi);exact(_,_,by rw[hH,bb,ag hi];rfl,by rw[bb,E];rfl,d1 _,q)
    let(x,u,e1,D,d,n):=a i hi;let(y,v,E,G,w,K):=a j J;have:=c _ Y;unfold kas_ask;rw[D,G];rw[e1,E]at this;exact Wb n K (f x d y w) this
inductive O7(K:bI)(us:U V)(H:Hp)(Q:VK):Prop
 |i(p:a_)(B:U V)(_:us=[.ref p])(_:eb K H p B)(_:?lB<=6)(_:∀x∈B,∀y∈B,fG x y)(_:∀q ys,H q=bd->F8 b1 id B ys->Q (.ref q) (upd H q (.lst ys)))
theorem zev(K:bI)(h:zzp (X.K=K) zz0):bx X (.builtin "sorted") (O7 K):=by
 subst h;rintro g s A H us ws Q I a ⟨p,B,rfl,b,c,d,q⟩;let(u,Y,e):=cA a;cases e;let(J,r,pl,_):=I.list b;exact Nb I pl.isList r c d q
end
end
inductive XR(K:bI)(x y:V)(H:Hp)(Q:VK):Prop
 |i(p q:a_)(B:U V)(_:x = .ref p)(_:y = .ref q)(_:eb K H p B)(_:eb K H q [])(_:Q (.bl B.isEmpty) H)
theorem Ou(K:bI)(a:X.A.5+1<m4)(a:zzp (X.K=K) zz0):l6 X (eT .Eq) (XR K):=by
 subst a;intro g s A H x y v u Q I a b h;let(p,q,B,Y,Y,c,d,k):=h;cases a;cases b;let(J,r,pl,_):=I.list c;let(b,c,a,_):=I.list d;have l2:=?lc;cases B with
 |nil=>
  have l1:=?lr;refine FO (e:=λ_=>bm) pl.isList a.isList (by rw[b7,b7];simp_all) (dn ‹_›) (λj h1 h2=>?_) ?_
  ·rw[b7,<-l1]at h1;cases h1
  ·rw[nZ];exact(.bl bm,H,I,Y,k)
 |cons x B=>
  have l1:=?lr;exact x7 pl.isList a.isList (by rw[b7,b7,<-l1,<-l2];rfl) (dn ‹_›) (.bl b1,H,I,Y,k)
inductive N0(K:bI)(x y:V)(H:Hp)(Q:VK):Prop
 |i(p:a_)(B:U V)(z:c3)(_:x = .ref p)(_:y = .str z)(_:eb K H p B)(_:Q (.bl bm) H)
theorem ZB(K:bI)(a:X.A.5+1<m4)(a:zzp (X.K=K) zz0):l6 X (eT .NotEq) (N0 K):=by
 subst a;rintro g s A H x y v u Q I a b ⟨p,B,z,rfl,rfl,c,k⟩;cases a;let(_,Y):=b;let(_,_,pl,_):=I.list c;exact Jd z _ pl.isList (dn ‹_›) X.1 X.w _ _ (.bl bm,H,I,Y,k)
end L2
set_option maxHeartbeats 8000000
namespace T1
open PySem L2
local macro_rules | `(tactic| walk_at "sc")=>`(tactic| exact(rfl,rfl,rfl,by decide +kernel,rfl,by decide +kernel,by decide +kernel))
variable{d e Ao i j k k0 n:b8}{l u lv lv2:U cs}{M P m:cs}{Ak a b c N ll p pd r Am z:a_}{x:V}{Aq A0:Prop}{σ:St}{H A Ai An H3 H4:Hp}{Q:VK}{Aj is ix:U b8}{Az:FF}{f:V->eg}{Ar:i3}{am J cs2 Ap:U V}{C I:U c3}{α Ax γ δ Au:Type}{K:bI}{L X bs As:U a_}{E:XK}{Ay:Sp}{w:gl}{fr:U (b5 b8)}{A2:TT}{A1:TE}{Av:hg}{Aw:b0}{kvs:U (Key×V)}{kd:c3->eg}{rows:U (a_×U V)}{ksl:fK (b5 b0)}{Al:c3->b5 b0}
abbrev OI:=b5 cs
variable{g:U OI}{v:OI}
def aL(n:b8):b8:=if n=0 then 0 else n.log2+1
theorem U':aL 0=0:=Y
theorem Y6(h:0<n):aL n=aL (n / 2)+1:=by
 delta aL
 rw[du (e8 h),Ir]
 split
 ·rw[du ?o]
 ·rw[d6 ?o]
def bS(d:cs):cs:=if 0<=d then 2 * d else -2 * d - 1
theorem rV(d:cs):0<=bS d:=by delta bS;split <;> lia
structure Ty where
 length:b8
 last:OI
 runs:b8
 book:U OI
 none:eg
 least:OI
 greatest:OI
 widest:cs
variable{y:Ty}
def i7(m:OI)(i:cs):cs:=match m with |.none=>i |.some k=>if i<k then i else k
def fV(m:OI)(i:cs):cs:=match m with |.none=>i |.some k=>if k<i then i else k
noncomputable def Ty.add(t:Ty)(v:OI):Ty where
 length:=t.1+1
 last:=v
 runs:=if t.1=0\/v≠t.2 then t.3+1 else t.3
 book:=if v∈t.4 then t.4 else t.4++[v]
 none:=if v = .none then bm else t.5
 least:=match v with |.none=>t.6 |.some i=>O (i7 t.6 i)
 greatest:=match v with |.none=>t.7 |.some i=>O (fV t.7 i)
 widest:=match v with
  |.none=>t.8
  |.some i=>if 0<t.1/\t.5=b1 then (if bS (i - t.last.getD 0) > t.8 then bS (i - t.last.getD 0) else t.8) else t.8
def Ty.zero:Ty:=((0),.none,(0),[],b1,.none,.none,(0))
def ax(g:U OI):Ty:=g.foldl Ty.add Ty.zero
theorem lB:ax []=Ty.zero:=Y
theorem LG(g:U OI)(v:OI):ax (g++[v])=(ax g).add v:=by
 delta ax;simp_all
def at'(g:U OI)(k:b8):OI:=g.getD k .none
theorem Ga(h:g[k]?=O v):at' g k=v:=by
 unfold at';simp[ h]
theorem ji(h:n<?lg):g.take (n+1)=g.take n++[at' g n]:=by
 simp only[ei,ag h,Ga (ag h)];rfl
theorem io(h:n<?lg):ax (g.take (n+1))=(ax (g.take n)).add (at' g n):=by
 simp only[ji h,LG]
theorem qe(g:U OI):(ax g).length=?lg:=by
 have a:∀(n),n<=?lg->(ax (g.take n)).length=n:=by
  intro n;induction n with
  |zero=>intro _;simp[lB,Ty.zero]
  |succ n b=>intro h;rw[io h];show (ax (g.take n)).length+1=_;rw[b (dn ‹_›)]
 have:=a ?lg (b2 _)
 simp_all
theorem Y2(h:n<=?lg):(ax (g.take n)).length=n:=by
 rw[qe,d8];omega
theorem Xg(h:n<?lg):(ax (g.take (n+1))).last=at' g n:=by
 rw[io h];rfl
def Jp(g:U OI):b8->b8
 |0=>0
 |n+1=>Jp g n+(if 1<=n/\at' g n≠at' g (n - 1) then 1 else 0)
noncomputable def fst(g:U OI):b8->U OI
 |0=>[]
 |n+1=>if at' g n∈g.take n then fst g n else fst g n++[at' g n]
theorem rY(g:U OI)(n:b8):fst g (n+1)=if at' g n∈g.take n then fst g n else fst g n++[at' g n]:=Y
theorem tH  : ∀(n:b8)(v:OI),n<=?lg->(v∈(ax (g.take n)).book↔v∈g.take n):=by
 intro n;induction n with
 |zero=>intro v _;simp[lB,Ty.zero]
 |succ n a=>
  intro v h;rw[io h,ji h];show v∈(if at' g n∈(ax (g.take n)).book then (ax (g.take n)).book else (ax (g.take n)).book++[at' g n])↔_;by_cases e:at' g n∈(ax (g.take n)).book
  ·rw[d6 e,a v (dn ‹_›),ek];constructor
   ·exact oe
   ·rintro (q |q)
    ·exact q
    ·have:v=at' g n:=by simpa using q
     simp only[this];exact (a _ (dn ‹_›)).mp e
  ·rw[du e,ek,ek,a v (dn ‹_›)]
theorem uO  : ∀(n:b8),n<=?lg->(ax (g.take n)).book=fst g n:=by
 intro n;induction n with
 |zero=>intro _;simp[lB,Ty.zero,fst]
 |succ n a=>
  intro h;rw[io h];show (if at' g n∈(ax (g.take n)).book then (ax (g.take n)).book else (ax (g.take n)).book++[at' g n])=_;rw[a (dn ‹_›),rY];have q:=tH n (at' g n) (show n<=?lg by exact dn ‹_›);rw[a (dn ‹_›)]at q
  grind
theorem rX(g:U OI):∀n,(fst g n).length<=n
 |0=>b2 _
 |n+1=>by
  rw[rY];have:=rX g n
  split
  ·exact hq ‹_›
  ·simp_all
theorem xI{g:U OI}:∀{n:b8},0<n->0<(fst g n).length
 |n+1,_=>by
  cases n with
  |zero=>simp[fst]
  |succ m=>
   have:=xI (g:=g) (n:=m+1) (Iu _);rw[rY]
   split
   ·assumption
   ·grind
theorem L1  : ∀(n:b8),n<=?lg->((ax (g.take n)).none=bm↔.none∈g.take n):=by
 intro n;induction n with
 |zero=>intro _;simp[lB,Ty.zero]
 |succ n a=>
  intro h;rw[io h,ji h];show (if at' g n = .none then bm else (ax (g.take n)).none)=bm↔_
  grind
def bw(g:U OI):U cs:=g.filterMap id
theorem NK(g:U OI):bw (g++[.none])=bw g:=by simp[bw]
theorem Wf(g:U OI)(i:cs):bw (g++[.some i])=bw g++[i]:=by simp[bw]
def cC:U cs->OI
 |[]=>.none
 |x::r=>O (r.foldl (λm i=>if i<m then i else m) x)
def eI:U cs->OI
 |[]=>.none
 |x::r=>O (r.foldl (λm i=>if m<i then i else m) x)
theorem WP(l:U cs)(i:cs):cC (l++[i])=O (i7 (cC l) i):=by
 cases l with
 |nil=>rfl
 |cons x r=>simp[cC,i7]
theorem φ(l:U cs)(i:cs):eI (l++[i])=O (fV (eI l) i):=by
 cases l with
 |nil=>rfl
 |cons x r=>simp[eI,fV]
theorem Nu  : ∀(n:b8),n<=?lg->(ax (g.take n)).least=cC (bw (g.take n))/\(ax (g.take n)).greatest=eI (bw (g.take n)):=by
 intro n;induction n with
 |zero=>intro _;simp[lB,Ty.zero,bw,cC,eI]
 |succ n a=>
  intro h;let(b,c):=a (dn ‹_›);rw[io h,ji h];cases e:at' g n with
  |none=>rw[NK];exact(b,c)
  |some i=>
   simp only[Wf,WP,φ];show O (i7 (ax (g.take n)).least i)=_/\O (fV (ax (g.take n)).greatest i)=_
   simp_all
def above(m:cs)(v:OI):cs:=match v with |.none=>0 |.some i=>i - m+1
theorem jN(h:cC l=O m):∀i∈l,m<=i:=by
 cases l with
 |nil=>cases h
 |cons x r=>
  simp[cC]at h;have c:∀(r:U cs) (x),r.foldl (λm i=>if i<m then i else m) x<=x/\∀i∈r,r.foldl (λm i=>if i<m then i else m) x<=i:=by
   intro r;induction r with
   |nil=>intro x;simp
   |cons y r d=>
    intro x;simp only[ju];let(a,b):=d (if y<x then y else x);refine(?o,λi d=>?_);rcases bG.mp d with rfl |d
    ·omega
    ·exact b i d
  let(a,b):=c r x
  grind
theorem tF(h:eI l=O m):∀i∈l,i<=m:=by
 cases l with
 |nil=>cases h
 |cons x r=>
  simp[eI]at h;have c:∀(r:U cs) (x),x<=r.foldl (λm i=>if m<i then i else m) x/\∀i∈r,i<=r.foldl (λm i=>if m<i then i else m) x:=by
   intro r;induction r with
   |nil=>intro x;simp
   |cons y r d=>
    intro x;simp only[ju];let(a,b):=d (if x<y then y else x);refine(?o,λi d=>?_);rcases bG.mp d with rfl |d
    ·omega
    ·exact b i d
  let(a,b):=c r x
  grind
theorem ph(h:eI l=O m):m∈l:=by
 cases l with
 |nil=>cases h
 |cons x r=>
  simp[eI]at h;have b:∀(r:U cs) (x),r.foldl (λm i=>if m<i then i else m) x=x\/r.foldl (λm i=>if m<i then i else m) x∈r:=by
   intro r;induction r with
   |nil=>intro x;simp
   |cons y r c=>
    intro x;simp only[ju];rcases c (if x<y then y else x) with a |a
    ·rw[a]
     split
     ·simp
     ·left;rfl
    ·simp_all
  rcases b r x with a |a
  ·simp only[<-h,a];simp
  ·simp_all
theorem mz(h:cC l=O m):m∈l:=by
 cases l with
 |nil=>cases h
 |cons x r=>
  simp[cC]at h;have b:∀(r:U cs) (x),r.foldl (λm i=>if i<m then i else m) x=x\/r.foldl (λm i=>if i<m then i else m) x∈r:=by
   intro r;induction r with
   |nil=>intro x;simp
   |cons y r c=>
    intro x;simp only[ju];rcases c (if y<x then y else x) with a |a
    ·rw[a]
     split
     ·simp
     ·left;rfl
    ·simp_all
  rcases b r x with a |a
  ·simp only[<-h,a];simp
  ·simp_all
theorem YW(c:m∈l)(d:∀i∈l,i<=m):eI l=O m:=by
 cases e:eI l with
 |none=>cases l with
  |nil=>cases c
  |cons x r=>cases e
 |some k=>
  have a:=tF e m c;have b:=d k (ph e);rw[show k=m by lia]
theorem kM{i:cs}:i∈bw g↔O i∈g:=by
 simp[bw]
noncomputable def s9(g:U OI):b8->U cs
 |0=>[]
 |n+1=>if 1<=n then s9 g n++[bS ((at' g n).getD 0 - (at' g (n - 1)).getD 0)] else s9 g n
def Tn(g:U OI):OI:=if 64<(fst g ?lg).length then .none else O (11+(6+24 * (fst g ?lg).length+(aL ((fst g ?lg).length - 1):cs) * ?lg))
def W2(g:U OI):cs:=match cC (bw g),eI (bw g) with |some a,O b=>b - a+1 |_,_=>0
def VU(g:U OI):cs:=11+(24+5+(aL (W2 g).toNat:cs) * ?lg)
def US(g:U OI):OI:=if .none∈g then .none else O (11+(24+5+(aL (ax g).widest.toNat:cs) * (?lg - 1)))
def ϥ(g:U OI):U OI:=[O (11+24 * ?lg),O (11+(8+(24+8) * (1+Jp g ?lg:b8))),Tn g,O (VU g),US g]
noncomputable def top(i:b8):eo:=PySem.Challenge.pw_tightrows_k32_whole_groups.main.body.getD i (.Pass ((0),(0),(0),(0)))
abbrev LJ:eo:=top 12
abbrev Qh:eo:=top 13
abbrev T8:eo:=br (top 14) 0
abbrev X2:eo:=br (top 14) 1
abbrev Rz:eo:=br (top 14) 2
abbrev RC:eo:=br (top 14) 3
abbrev M0:eo:=top 28
abbrev uw:eo:=top 29
abbrev LA:eo:=top 30
abbrev Mu:eo:=top 31
abbrev Me:eo:=top 32
abbrev L4:eo:=top 33
abbrev Mi:eo:=top 34
abbrev Rp:eo:=top 35
abbrev LL:eo:=br (top 36) 0
abbrev LZ:eo:=br (top 36) 1
abbrev Mj:eo:=br (top 36) 2
abbrev L3:eo:=br (top 36) 3
abbrev Lr:eo:=br (top 36) 4
abbrev L_:eo:=br (top 36) 5
abbrev Ml:eo:=br (top 36) 6
abbrev L9:eo:=br (top 36) 7
abbrev KZ:eo:=top 37
abbrev Mc:eo:=top 38
abbrev Ls:eo:=top 39
abbrev YB:eo:=top 40
abbrev WO:eo:=top 41
abbrev Rx:eo:=top 44
abbrev Sk:eo:=top 45
abbrev X7:eo:=top 46
abbrev Si:eo:=top 47
abbrev Tw:eo:=top 49
abbrev UW:eo:=top 50
abbrev Tb:eo:=top 51
abbrev ZM:eo:=top 53
abbrev SW:eo:=top 54
abbrev Pb:eo:=top 55
abbrev Zn:eo:=top 57
abbrev N_:eo:=top 58
abbrev Μ:eo:=top 63
abbrev Nw:eo:=top 64
abbrev Ε:eo:=top 65
abbrev Uw:eo:=top 66
abbrev QO:eo:=top 67
abbrev Lg:eo:=top 68
abbrev RW:eo:=top 69
abbrev Tz:eo:=top 70
abbrev WC:eo:=top 71
abbrev LB:eo:=top 72
abbrev XJ:eo:=top 75
abbrev Pp:eo:=top 76
abbrev T5:eo:=top 77
abbrev Xk:eo:=top 78
abbrev Wv:eo:=top 79
abbrev RL:eo:=top 80
abbrev Z8:eo:=top 81
abbrev Wj:eo:=top 82
abbrev Zp:eo:=top 83
abbrev Y0:eo:=top 85
abbrev OW:eo:=top 86
abbrev SR:eo:=br (top 87) 0
abbrev Nf:eo:=br (top 87) 2
abbrev T3:eo:=br (top 87) 6
abbrev NB:eo:=br (top 87) 8
abbrev Vf:eo:=br (top 87) 12
abbrev Sf:eo:=br (top 87) 13
abbrev υ:eo:=top 90
abbrev QD:eo:=top 91
abbrev Mt:eo:=top 92
abbrev TQ:eo:=top 93
abbrev χ:eo:=top 94
abbrev Ye:eo:=br (top 95) 0
abbrev Wg:eo:=br (top 95) 1
abbrev Pl:eo:=br (top 95) 2
abbrev WQ:eo:=br (top 95) 4
abbrev RU:eo:=br (top 95) 5
abbrev Oz:eo:=br (top 95) 6
abbrev Tl:eo:=br (top 95) 7
abbrev U8:eo:=top 100
abbrev Vy:eo:=top 101
abbrev OG:eo:=top 102
abbrev XI:eo:=top 103
abbrev S1:eo:=top 104
abbrev WK:eo:=br (top 105) 0
abbrev QU:eo:=br (top 105) 1
abbrev Of:eo:=br (top 105) 2
abbrev Nm:eo:=br (top 105) 3
abbrev NM:eo:=br (top 105) 4
abbrev PZ:eo:=br (top 105) 5
abbrev Ry:eo:=br (top 105) 6
abbrev PJ:eo:=br (top 105) 9
abbrev Zs:eo:=br (top 105) 10
abbrev Mm:eo:=br (top 105) 11
abbrev LN:eo:=br (top 105) 13
abbrev Wp:eo:=br (top 105) 14
abbrev ο:eo:=br (top 105) 15
abbrev VB:eo:=top 107
abbrev Q1:eo:=top 108
abbrev P7:eo:=top 109
abbrev Vi:eo:=top 110
abbrev ZH:eo:=top 111
abbrev VI:eo:=top 112
abbrev Uj:eo:=top 113
abbrev TN:eo:=top 114
abbrev Np:eo:=top 115
abbrev Ri:eo:=top 116
abbrev XO:eo:=top 117
abbrev KS:eo:=top 118
abbrev Py:eo:=top 119
abbrev UD:eo:=top 120
abbrev Q6:eo:=top 121
abbrev jf:eo:=top 122
noncomputable def bH:U c3:=["plain","runs","book","base","steps"]
noncomputable def dI:U V:=bH.map V.str
structure Ad where
 cReader:a_
 cTally:a_
 cColumn:a_
 cWordColumn:a_
 cTable:a_
 lW:a_
 eBadValue:a_
 eNoPacking:a_
 eBadBits:a_
 eNoRow:a_
 eBadQuestion:a_
 eNoColumn:a_
 eBadRow:a_
 eBadTable:a_
 aKINDS:a_
 rn:a_
 p_check_question_of:a_
 rp:a_
 p_marked_values:a_
 rh:a_
 p_Table_places_where:a_
 rj:a_
 p_Table_sorted_by:a_
variable{t:Ad}
structure Txt(K:bI)(mg:c3->b5 b0)(t:Ad):Prop where
 zfw:mg "Reader" =O (.ref t.cReader)
 cr:zI K t.cReader
 lK:cG K t.cReader "text"
 js:cG K t.cReader "place"
 xO:mg "Tally" =O (.ref t.cTally)
 aP:zI K t.cTally
 gY:cG K t.cTally "length"
 lL:cG K t.cTally "last"
 nU:cG K t.cTally "runs"
 qO:cG K t.cTally "book"
 nR:cG K t.cTally "has_none"
 jt:cG K t.cTally "least"
 j6:cG K t.cTally "greatest"
 nV:cG K t.cTally "widest"
 xJ:mg "Column" =O (.ref t.cColumn)
 c9:zI K t.cColumn
 lJ:cG K t.cColumn "lying"
 oP:mg "WordColumn" =O (.ref t.cWordColumn)
 db:zI K t.cWordColumn
 lM:cG K t.cWordColumn "column"
 lN:cG K t.cWordColumn "numbered"
 zfB:mg "Table" =O (.ref t.cTable)
 a8:zI K t.cTable
 iz:cG K t.cTable "parts"
 fk:cG K t.cTable "living"
 qN:cG K t.cTable "coming"
 oQ:∃k,mg "FARTHEST" =O (.int 4000000 k)
 oR:∃k,mg "SHIFT" =O (.int 4000001 k)
 zfD:∃k,mg "MOST_IN_BLOCK" =O (.int 100 k)
 zfE:∃k,mg "MOST_IN_BOOK" =O (.int 64 k)
 sv:∃k,mg "KIND_BITS" =O (.int 3 k)
 sw:∃k,mg "LENGTH_BITS" =O (.int 8 k)
 iF:∃k,mg "VALUE_BITS" =O (.int 24 k)
 zfI:∃k,mg "RUNS_BITS" =O (.int 8 k)
 zfJ:∃k,mg "TIMES_BITS" =O (.int 8 k)
 sj:∃k,mg "BOOK_BITS" =O (.int 6 k)
 l9:∃k,mg "WIDTH_BITS" =O (.int 5 k)
 zfH:∃k,mg "MOST_WITHIN" =O (.int 6 k)
 xP:∃k,mg "MOST_IN_COLUMN" =O (.int 64 k)
 zfG:∃k,mg "MOST_IN_WORD" =O (.int 12 k)
 zfC:∃k,mg "MOST_COLUMNS" =O (.int 8 k)
 zfF:∃k,mg "MOST_IN_NAME" =O (.int 8 k)
 kx:mg "KINDS" =O (.ref t.aKINDS)
 kJ:∀H,fx K H t.aKINDS dI
 yc:∃o,K.lookup t.aKINDS=O o/\o.1 = .type "tuple" /\ o.2=bd
 zfx:mg "RowsError" =O (.ref t.lW)
 r9:mg "BadValue" =O (.ref t.eBadValue)
 zbu:gj K t.eBadValue
 sf:mg "NoPacking" =O (.ref t.eNoPacking)
 zbv:gj K t.eNoPacking
 rZ:mg "BadBits" =O (.ref t.eBadBits)
 zbt:gj K t.eBadBits
 sh:mg "NoRow" =O (.ref t.eNoRow)
 zbw:gj K t.eNoRow
 i5:mg "BadQuestion" =O (.ref t.eBadQuestion)
 jX:gj K t.eBadQuestion
 zgX:iS K t.eBadQuestion
 zhv:Fx K (.ref t.eBadQuestion) (.ref t.lW)=O bm
 zp8:e3 K (.ref t.eBadQuestion) (.type "ValueError")=O bm
 zf2:e3 K (.ref t.eBadQuestion) (.ref t.eBadValue)=O b1
 zf4:e3 K (.ref t.eBadQuestion) (.ref t.eNoPacking)=O b1
 zfY:e3 K (.ref t.eBadQuestion) (.ref t.eBadBits)=O b1
 zf5:e3 K (.ref t.eBadQuestion) (.ref t.eNoRow)=O b1
 zfZ:e3 K (.ref t.eBadQuestion) (.ref t.eBadQuestion)=O bm
 zf3:e3 K (.ref t.eBadQuestion) (.ref t.eNoColumn)=O b1
 zf0:e3 K (.ref t.eBadQuestion) (.ref t.eBadRow)=O b1
 zf1:e3 K (.ref t.eBadQuestion) (.ref t.eBadTable)=O b1
 xL:mg "NoColumn" =O (.ref t.eNoColumn)
 zqn:gj K t.eNoColumn
 zgY:iS K t.eNoColumn
 zhw:Fx K (.ref t.eNoColumn) (.ref t.lW)=O bm
 zp9:e3 K (.ref t.eNoColumn) (.type "ValueError")=O bm
 zgf:e3 K (.ref t.eNoColumn) (.ref t.eBadValue)=O b1
 zgh:e3 K (.ref t.eNoColumn) (.ref t.eNoPacking)=O b1
 zgb:e3 K (.ref t.eNoColumn) (.ref t.eBadBits)=O b1
 zgi:e3 K (.ref t.eNoColumn) (.ref t.eNoRow)=O b1
 zgc:e3 K (.ref t.eNoColumn) (.ref t.eBadQuestion)=O b1
 zgg:e3 K (.ref t.eNoColumn) (.ref t.eNoColumn)=O bm
 zgd:e3 K (.ref t.eNoColumn) (.ref t.eBadRow)=O b1
 zge:e3 K (.ref t.eNoColumn) (.ref t.eBadTable)=O b1
 oN:mg "BadRow" =O (.ref t.eBadRow)
 uW:gj K t.eBadRow
 oO:mg "BadTable" =O (.ref t.eBadTable)
 uX:gj K t.eBadTable
 ii:e3 K (.type "int") (.type "int")=O bm
 ib:e3 K (.type "int") (.type "bool")=O b1
 ill:e3 K (.type "list") (.type "list")=O bm
 xZ:e3 K (.type "tuple") (.type "tuple")=O bm
 xY:e3 K (.type "str") (.type "str")=O bm
 isi:e3 K (.type "str") (.type "int")=O b1
 iis:e3 K (.type "int") (.type "str")=O b1
 ins:e3 K (.type "NoneType") (.type "str")=O b1
 uY:hM K (.ref t.cColumn) "__class__" =O (O (.builtin "object.__class__"))/\EG K t.cColumn (.type "object")=O bm
 sN:e3 K (.ref t.cColumn) (.ref t.cWordColumn)=O b1
 u5:hM K (.ref t.cWordColumn) "__class__" =O (O (.builtin "object.__class__"))/\EG K t.cWordColumn (.type "object")=O bm
 sO:e3 K (.ref t.cWordColumn) (.ref t.cWordColumn)=O bm
 kh:v2 K (.builtin "object.__class__") "__get__" =O (O (.builtin "getset_descriptor.__get__"))/\E2 K (.builtin "object.__class__")=O bm
 zir:mg "ValueError" =bd
 i8:mg "all" =bd
 yB:mg "any" =bd
 tP:mg "bool" =bd
 yM:mg "dict" =bd
 yO:mg "enumerate" =bd
 mD:mg "int" =bd
 cK:mg "isinstance" =bd
 be:mg "len" =bd
 gG:mg "list" =bd
 tR:mg "max" =bd
 tU:mg "min" =bd
 eZ:mg "range" =bd
 zjq:mg "reversed" =bd
 zjr:mg "set" =bd
 ik:mg "sorted" =bd
 yW:mg "str" =bd
 zjs:mg "sum" =bd
 pC:mg "tuple" =bd
 iJ:mg "zip" =bd
noncomputable def JL:U (c3×V):=[(zzq ("not") (.int 2)),(zzq ("both") (.int 3)),(zzq ("either") (.int 3))]
noncomputable def SL:U (c3×V):=[(zzq ("all") (.int 1)),(zzq ("none") (.int 1)),(zzq ("is") (.int 2)),(zzq ("below") (.int 2)),(zzq ("above") (.int 2)),(zzq ("among") (.int 2))]
noncomputable def TL:U (c3×V):=[(zzq ("any") (.int 1)),(zzq ("in") (.int 3))]
structure Ds(K:bI)(mg:c3->b5 b0)(t:Ad):Prop where
 D0:DD K mg "needed" LJ ["number"]
 D1:DD K mg "is_whole" M0 ["thing"]
 D2:DD K mg "is_value" uw ["value"]
 D3:DD K mg "are_values" LA ["values"]
 D4:DD K mg "is_block" Mu ["values"]
 D5:DD K mg "check_block" Me ["values"]
 D6:DD K mg "check_kind" L4 ["kind"]
 D7:DD K mg "folded" Mi ["step"]
 D8:II K t.cTally "Tally.__init__" LL ["self"]
 D9:MM K t.cTally "add_number" "Tally.add_number" Mj ["self","number"]
 D10:MM K t.cTally "add" "Tally.add" LZ ["self","value"]
 D11:MM K t.cTally "book_room" "Tally.book_room" L3 ["self"]
 D12:MM K t.cTally "base_room" "Tally.base_room" Lr ["self"]
 D13:MM K t.cTally "steps_room" "Tally.steps_room" L_ ["self"]
 D14:MM K t.cTally "rooms" "Tally.rooms" Ml ["self"]
 D15:MM K t.cTally "least_room" "Tally.least_room" L9 ["self"]
 D16:DD K mg "tally_of" KZ ["values"]
 D17:DD K mg "room" Mc ["kind","values"]
 D18:DD K mg "best_kind" Ls ["values"]
 D19:DD K mg "in_bits" Qh ["number","width"]
 D20:DD K mg "value_bits" YB ["value"]
 D21:DD K mg "plain_bits" WO ["values"]
 D22:DD K mg "book_bits" Rx ["values"]
 D23:DD K mg "even_bits" Sk ["numbers"]
 D24:DD K mg "base_bits" X7 ["values"]
 D25:DD K mg "steps_bits" Si ["values"]
 D26:DD K mg "packed" Tw ["kind","values"]
 D27:MM K t.cReader "take" "Reader.take" Rz ["self","width"]
 D28:MM K t.cReader "has_more" "Reader.has_more" X2 ["self"]
 D29:MM K t.cReader "taken_since" "Reader.taken_since" RC ["self","place"]
 D30:II K t.cReader "Reader.__init__" T8 ["self","text"]
 D31:DD K mg "read_value" UW ["reader"]
 D32:DD K mg "read_plain" Tb ["reader","length"]
 D33:DD K mg "read_book" ZM ["reader","length"]
 D34:DD K mg "read_base" SW ["reader","length"]
 D35:DD K mg "unfolded" Rp ["number"]
 D36:DD K mg "read_steps" Pb ["reader","length"]
 D37:DD K mg "read_block" Zn ["reader"]
 D38:DD K mg "unpacked" N_ ["bits"]
 D39:DD K mg "check_column" XJ ["values"]
 D40:DD K mg "rooms_from" Pp ["values","begin"]
 D41:DD K mg "block_rooms" T5 ["values"]
 D42:DD K mg "room_between" Xk ["rooms","begin","end"]
 D43:DD K mg "least_prices" Wv ["rooms"]
 D44:DD K mg "longest_begin" RL ["rooms","found","end"]
 D45:DD K mg "cuts" Z8 ["values"]
 D46:DD K mg "blocks_between" Wj ["values","ends"]
 D47:DD K mg "tight" Zp ["values"]
 D48:DD K mg "check_row" Y0 ["row","size"]
 D49:DD K mg "values_in" OW ["bits"]
 D50:II K t.cColumn "Column.__init__" SR ["self","values"]
 D51:MM K t.cColumn "told" "Column.told" Nf ["self"]
 D52:MM K t.cColumn "put" "Column.put" Vf ["self","row","value"]
 D53:MM K t.cColumn "drop" "Column.drop" Sf ["self","row"]
 D54:DD K mg "are_small_letters" υ ["text"]
 D55:DD K mg "is_small" QD ["text","most"]
 D56:DD K mg "is_written" Mt ["word"]
 D57:DD K mg "is_word" TQ ["word"]
 D58:DD K mg "takes" OG ["part","value"]
 D59:II K t.cWordColumn "WordColumn.__init__" Ye ["self"]
 D60:MM K t.cWordColumn "number_of" "WordColumn.number_of" Wg ["self","word"]
 D61:MM K t.cWordColumn "told" "WordColumn.told" Pl ["self"]
 D62:MM K t.cWordColumn "put" "WordColumn.put" WQ ["self","row","word"]
 D63:MM K t.cWordColumn "drop" "WordColumn.drop" RU ["self","row"]
 D64:DD K mg "is_head" U8 ["head"]
 D65:DD K mg "check_heads" Vy ["heads"]
 D66:II K t.cTable "Table.__init__" WK ["self","columns"]
 D67:MM K t.cTable "part" "Table.part" QU ["self","name"]
 D68:MM K t.cTable "place_of" "Table.place_of" Of ["self","number"]
 D69:MM K t.cTable "numbers" "Table.numbers" Ry ["self"]
 D70:MM K t.cTable "check_put" "Table.check_put" Nm ["self","values"]
 D71:MM K t.cTable "put" "Table.put" NM ["self","values"]
 D72:MM K t.cTable "drop" "Table.drop" PZ ["self","number"]
 D73:DD K mg "is_joined" Μ ["asked"]
 D74:DD K mg "check_joined" Ε ["asked","check_simple"]
 D75:DD K mg "check_within" Nw ["asked","depth","check_simple"]
 D76:DD K mg "things_named" Uw ["simple"]
 D77:DC K mg "check_question_of" Lg ["question","is_good"] t.rn t.p_check_question_of
 D78:DD K mg "check_simple_of" QO ["simple","is_good"]
 D79:DD K mg "check_question" RW ["question"]
 D80:DD K mg "check_question_of_words" χ ["question"]
 D81:DD K mg "answers" Tz ["simple","value"]
 D82:DD K mg "marked" WC ["asked","marks_of"]
 D83:DC K mg "marked_values" LB ["question","values"] t.rp t.p_marked_values
 D84:MM K t.cColumn "answering" "Column.answering" T3 ["self","question"]
 D85:MM K t.cColumn "rows" "Column.rows" NB ["self","question"]
 D86:MM K t.cWordColumn "in_numbers" "WordColumn.in_numbers" Oz ["self","question"]
 D87:MM K t.cWordColumn "rows" "WordColumn.rows" Tl ["self","question"]
 D88:DD K mg "check_asked_of" XI ["part","question"]
 D89:MM K t.cTable "check_simple" "Table.check_simple" PJ ["self","simple"]
 D90:MM K t.cTable "marks_of" "Table.marks_of" Zs ["self","simple"]
 D91:MC K t.cTable "places_where" "Table.places_where" Mm ["self","where"] t.rh t.p_Table_places_where
 D92:DD K mg "none_first" S1 ["value"]
 D93:MC K t.cTable "sorted_by" "Table.sorted_by" LN ["self","name","falling"] t.rj t.p_Table_sorted_by
 D94:MM K t.cTable "groups" "Table.groups" Wp ["self","by","where","of"]
 D95:MM K t.cTable "joined" "Table.joined" ο ["self","name","other","theirs"]
 D96:DD K mg "_law_whole" P7 ["_law_found_here"]
 D97:DD K mg "_law_cell" VB ["_law_script","_law_k"]
 D98:DD K mg "_law_mix" Q1 ["_law_script","_law_k"]
 D99:DD K mg "_law_columns" Vi ["_law_script","_law_k"]
 D100:DD K mg "_law_cell_of" ZH ["_law_script","_law_k","_law_kind"]
 D101:DD K mg "_law_row" VI ["_law_script","_law_k","_law_columns_here"]
 D102:DD K mg "_law_column_question" TN ["_law_script","_law_k","_law_kind","_law_deep"]
 D103:DD K mg "_law_where" Np ["_law_script","_law_k","_law_columns_here","_law_deep"]
 D104:DD K mg "_law_answers" Ri ["_law_question","_law_value"]
 D105:DD K mg "_law_found" XO ["_law_where_here","_law_columns_here","_law_row_here"]
 D106:DD K mg "_law_refusal" KS ["_law_kept"]
 D107:DD K mg "_law_filled" Uj ["_law_script","_law_k","_law_columns_here","_law_most"]
 D108:DD K mg "_law_told" Py ["_law_way","_law_table","_law_one","_law_other","_law_third"]
 D109:DD K mg "_law_by" UD ["_law_rows","_law_at","_law_falling"]
 D110:DD K mg "_law_groups" Q6 ["_law_rows","_law_by_here","_law_of","_law_good"]
 D111:DD K mg "law" jf ["_law_script"]
structure Gp(P:f0)(w:gl)(K:bI)(mg:c3->b5 b0)(base:fy)(t:Ad):Prop extends Txt K mg t,Ds K mg t where
 B:iQ base mg
 hJ:Fb w K mg "JOINING" JL
 hS:Fb w K mg "SIMPLE_asking" SL
 hT:Fb w K mg "SIMPLE_tables" TL
 ne:t.p_marked_values≠t.p_check_question_of/\t.p_Table_places_where≠t.p_check_question_of/\t.p_Table_sorted_by≠t.p_check_question_of/\t.p_Table_places_where≠t.p_marked_values/\t.p_Table_sorted_by≠t.p_marked_values/\t.p_Table_sorted_by≠t.p_Table_places_where
 tWRITERS:(∃a es n,mg "WRITERS" =O (.ref a)/\K.lookup a=O (.type "dict",bd,.dict es n,#[])/\q1 w.params es.toList/\(∃f,lw K a "plain" =O (O (.ref f))/\mg "plain_bits" =O (.ref f))/\(∃f,lw K a "book" =O (O (.ref f))/\mg "book_bits" =O (.ref f))/\(∃f,lw K a "base" =O (O (.ref f))/\mg "base_bits" =O (.ref f))/\(∃f,lw K a "steps" =O (O (.ref f))/\mg "steps_bits" =O (.ref f)))
 tREADERS:(∃a es n,mg "READERS" =O (.ref a)/\K.lookup a=O (.type "dict",bd,.dict es n,#[])/\q1 w.params es.toList/\(∃f,lw K a "plain" =O (O (.ref f))/\mg "read_plain" =O (.ref f))/\(∃f,lw K a "book" =O (O (.ref f))/\mg "read_book" =O (.ref f))/\(∃f,lw K a "base" =O (O (.ref f))/\mg "read_base" =O (.ref f))/\(∃f,lw K a "steps" =O (O (.ref f))/\mg "read_steps" =O (.ref f)))
inductive k9(K:bI)(b:U a_)(c:U V)(H:Hp)(Q:VK)(_E:XK):Prop
 |i(a:a_)(C:U cs)(_:c=[.ref a])(_:eb K H a (C.map V.int))(_:?lC<=63)(_:qJ H b)(_:∀A,Q (.bl bm) A)
structure GT where
 P:f0
 w:gl
 K:bI
 mg:c3->b5 b0
 base:fy
 t:Ad
def Kv(Ao:GT):Prop:=Gp Ao.P Ao.w Ao.K Ao.mg Ao.base Ao.t/\∃f Ar,rS Ao.K "law" "law" jf f Ar/\¬ aN Ao.P Ao.w Ao.K Ao.mg Ao.base r_ 30 f Ar ["_law_script"] (k9 Ao.K [Ao.t.p_check_question_of,Ao.t.p_marked_values,Ao.t.p_Table_places_where,Ao.t.p_Table_places_where,Ao.t.p_Table_sorted_by,Ao.t.p_Table_sorted_by])
theorem WE:Nonempty GT:=⟨(default,(λ_ _=>0,by constructor <;> exact default),[],λ_=>bd,default,by constructor <;> exact (0:b8))⟩
noncomputable def G_:GT:=@KI _ WE Kv
@[irreducible] noncomputable def gP:f0:=G_.P
@[irreducible] noncomputable def gw:gl:=G_.w
@[irreducible] noncomputable def gK:bI:=G_.K
@[irreducible] noncomputable def gm:c3->b5 b0:=G_.mg
@[irreducible] noncomputable def gb:fy:=G_.base
@[irreducible] noncomputable def gt:Ad:=G_.t
class Gd:Prop extends Gp gP gw gK gm gb gt
section
variable{x a:c3}{d:eo}{b:U c3}{c:zH}{e g:a_}
theorem cD(D:DD gK gm x d b)(k:b8)(Ay:Sp)(h:∀{f Ar},rS gK x x d f Ar->aN gP gw gK gm gb c k f Ar b Ay):Fg gP gw gK gm gb c k x b Ay:=D.cal trivial λ_ _=>h
theorem cM(D:MM gK Ak x a d b)(k:b8)(Ay:Sp)(h:∀{f Ar},rS gK x a d f Ar->aN gP gw gK gm gb c k f Ar b Ay):gW gP gw gK gm gb c k Ak x b Ay:=D.cal trivial λ_ _=>h
theorem cI(D:II gK Ak a d b)(k:b8)(Ay:Sp)(h:∀{f Ar},rS gK "__init__" a d f Ar->aN gP gw gK gm gb c k f Ar b Ay):vL gP gw gK gm gb c k Ak b Ay:=D.cal trivial λ_ _=>h
theorem M7(D:DC gK gm x d b e g)(k:b8)(Ay:Sp)(h:∀{f Ar},ir gK x x d f Ar e g->aN gP gw gK gm gb c k f Ar b Ay):Fg gP gw gK gm gb c k x b Ay:=D.cal trivial λ_ _=>h
theorem Mp(D:MC gK Ak x a d b e g)(k:b8)(Ay:Sp)(h:∀{f Ar},ir gK x a d f Ar e g->aN gP gw gK gm gb c k f Ar b Ay):gW gP gw gK gm gb c k Ak x b Ay:=D.cal trivial λ_ _=>h
theorem rD(D:DD gK gm x d b)(k n:b8)(Ay:b8->Sp)(h:∀{f Ar} m,Fg gP gw gK gm gb c (k+m) x b (Ay m)->rS gK x x d f Ar->aN gP gw gK gm gb c (k+m+1) f Ar b (Ay (m+1)))(a:∀e H Q E,¬ Ay 0 e H Q E:=by exact λ_ _ _ _ z=>z):Fg gP gw gK gm gb c (k+n) x b (Ay n):=D.rec trivial a (λm _ _=>h m) n
theorem rM(D:MM gK Ak x a d b)(k n:b8)(Ay:b8->Sp)(h:∀{f Ar} m,gW gP gw gK gm gb c (k+m) Ak x b (Ay m)->rS gK x a d f Ar->aN gP gw gK gm gb c (k+m+1) f Ar b (Ay (m+1)))(e:∀g H Q E,¬ Ay 0 g H Q E:=by exact λ_ _ _ _ z=>z):gW gP gw gK gm gb c (k+n) Ak x b (Ay n):=D.rec trivial e (λm _ _=>h m) n
end
theorem dT{p:Prop}{_:E_ p}(h:p)(a:Aq):if decide p=bm then Aq else A0:=by rw[d6 (dg h)];exact a
theorem dF{p:Prop}{_:E_ p}(h:¬ p)(b:A0):if decide p=bm then Aq else A0:=by rw[c4 h];exact b
theorem nT{p:Prop}{_:E_ p}(h:¬ p)(a:Aq):if (!decide p)=bm then Aq else A0:=by rw[c4 h];exact a
theorem nF{p:Prop}{_:E_ p}(h:p)(b:A0):if (!decide p)=bm then Aq else A0:=by rw[dg h];exact b
noncomputable def Iy(i:b8)(σ:St)(H:Hp)(Q:VK):Prop:=HL (motive:=λ_=>Prop) fP (HL (motive:=λ_=>Prop) fP (Q · H)) σ[i]?
theorem Iy.o{i:b8}{σ:St}{H:Hp}{Q:VK}(h:Iy i σ H Q):cn i σ H Q:=by
 delta Iy at h
 cases e:σ[i]? with
 |none=>rw[e]at h;cases h
 |some o=>
  rw[e]at h;cases o with
  |none=>cases h
  |some v=>exact(v,e,h)
theorem pc{Aj:Cx}(i:b8){x:c3}(c:zzp (Aj.N[i]?=O x) zz0)(d:I2 Aj.env.scope x:=by first |exact oe Y |exact q6 (oe Y) |exact q6 (q6 Y))(hd:zzp ((x ==("__debug__" : c3))=b1) zz1)(b:zzp ((x ==("__classdict__" : c3))=b1) zz1):PE Aj (.Name x Az) (Iy i):=λa s σ H Q I h=>zt c d hd b a s σ H Q I h.o
theorem tQ(n:b8):aL n=if n=0 then 0 else n.log2+1:=by
 induction n using vj with
 |ind n a=>
  by_cases h:n=0
  ·subst h;simp[U']
  ·rw[du h,Y6 (jm ‹_›),Ir]
   grind
def o4:OI->eg
 |.none=>bm
 |.some i=>decide (-4000000<=i/\i<=4000000)
noncomputable def r3(g:U OI):eg:=decide (1<=?lg/\?lg<=100) && g.all o4
noncomputable def ov:OI->V
 |.none=>.non
 |.some i=>.int i
theorem T9(o:OI):bz (ov o)=bm:=by cases o <;> rfl
theorem QN(g:U OI):(g.map ov).all bz=bm:=by
 rw[dv];intro x a;let(o,_,Y):=cv.mp a;exact T9 o
theorem WN{a b:OI}(h:ov a=ov b):a=b:=by
 cases a <;> cases b <;> first |rfl | (injection h with h;rw[h]) |cases h
theorem P'(a b:OI):y1 (ov a) (ov b)=bm:=by cases a <;> cases b <;> rfl
theorem SM(a b:OI):decide (ov a=ov b)=decide (a=b):=by
 by_cases h:a=b
 ·subst h;simp
 ·simp only[c4 h,c4 λz=>h (WN z)]
theorem Ud(a b:OI):m3 (ov a) (ov b)=decide (a=b):=by
 cases a <;> cases b <;> simp[ov,m3]
 grind
inductive NE(a:U V)(H:Hp)(Q:VK)(_E:XK):Prop
 |i(n:cs)(_:a=[.int n])(_:0<=n)(_:Q (.int (aL n.toNat)) H)
theorem Ϥ:b9 ["number"] ["number"] (aQ LJ):=by walk_at "sc"
theorem Pc{n:cs}(h:0<=n):((p5 n:b8):cs)=(aL n.toNat:cs):=by
 rw[tQ]
 delta p5
 grind
def jY[T:Gd]:=cD T.D0 1 NE λF=>by
 refine F.o ["number"] λc b Aq a s H d Q E e h=>?_;let(n,Y,a,k):=h;refine(_,aj (ay (W7 ϛ Ϝ ϝ RO ?A)),?_);refine(Y,n,Y,Y,?_);rw[Pc a];exact k
inductive Lh(a:U V)(H:Hp)(Q:VK)(_E:XK):Prop
 |i(i:cs)(_:a=[.int i])(_:Q (.bl bm) H)
def y9[T:Gd]{f:a_}(F:rS gK "is_whole" "is_whole" M0 f Ar):aN gP gw gK gm gb r_ 1 f Ar ["thing"] Lh:=by
 refine F.o ["thing"] λc b Aq a s H d Q E e h=>?_;let(i,Y,k):=h;refine(_,(aj (ay (fW (aH (cJ gK) ?r T.cK z3 (fH ?A (fY T.mD z2))) (d0 (kW (aH (cJ gK) ?r T.cK z3 (fH ?A (fY T.tP zv)))))))),?_);refine(_,_,1,fR (.int i) T.ii,1,?_);refine aA (_,_,1,fR (.int i) T.ib,1,?_);exact k
def qt[T:Gd]:=cD T.D1 1 Lh y9
inductive KU(a:U V)(H:Hp)(Q:VK)(_E:XK):Prop
 |i(o:OI)(_:a=[ov o])(_:Q (.bl (o4 o)) H)
def y8[T:Gd]{f:a_}(F:rS gK "is_value" "is_value" uw f Ar):aN gP gw gK gm gb r_ 2 f Ar ["value"] KU:=by
 refine F.o ["value"] λd b Aq a s H g Q E c h=>?_;let(o,Y,k):=h;refine(_,(aj (ay (pL (eN c7 ?A a9) (d0 (fW (qt.pe c ap (e0 ?A)) (d0 (mJ gL gL (fz fE (bn T.oQ)) ?A (bn T.oQ)))))))),?_);refine(Y,1,?_);cases o with
 |none=>exact aA k
 |some i=>
  refine(i,Y,1,?_);refine(1,_,1,Y,1,?_);by_cases a : -4000000<=i
  ·refine dT a (_,1,Y,?_);have e:o4 (O i)=decide (i<=4000000):=by simp[o4,a]
   rw[<-e];exact k
  ·refine dF a ?_;have e:o4 (O i)=b1:=by simp[o4,a]
   rw[<-e];exact k
def QX[T:Gd]:=cD T.D2 2 KU y8
theorem Zg:(["value"]:U c3).Nodup:=?k
inductive R7(K:bI)(a:U V)(H:Hp)(Q:VK)(_E:XK):Prop
 |i(p:a_)(g:U OI)(_:a=[.ref p])(_:eb K H p (g.map ov))(_:?lg<=1000)(_:∀A,aa H A->Q (.bl (g.all o4)) A)
theorem Ϩ:b9 ["values"] ["values"] (aQ LA):=by walk_at "sc"
def vm[T:Gd]:=cD T.D3 3 (R7 gK) λF=>by
 refine F.o ["values"] λd b Aq a s H q Q E c h=>?_;let(p,g,Y,a,d,k):=h;refine(_,aj (ay (aH (wC Y) ?r T.i8 zb (e0 (bf (fr:=[bd]) (ba ?A) (λAk As s H=>(aF 0 Zg,bh,QX.pe c ap (e0 ?A))))))),?_);refine(p,Y,(_,a),eC (ys:=g) (G:=ov) (λo=>.bl (o4 o)) a d (λi o _ A c b y=>(Wk.set Y,o,Y,y _ (.refl _))) λq A b h _=>(q,g.map o4,Y,.of (by rw[h,d_];rfl),?_));show Q _ _;rw[l'];exact k _ b
inductive WM(K:bI)(a:U V)(H:Hp)(Q:VK)(_E:XK):Prop
 |i(p:a_)(g:U OI)(_:a=[.ref p])(_:eb K H p (g.map ov))(_:?lg<=16777216)(_:∀A,aa H A->Q (.bl (r3 g)) A)
theorem zrD:b9 ["values"] ["values"] (aQ Mu):=by walk_at "sc"
def vx[T:Gd]:=cD T.D4 4 (WM gK) λF=>by
 refine F.o ["values"] λd b Aq a s H f Q E c h=>?_;let(p,g,Y,a,b,k):=h;refine(_,aj (ay (fW (mJ gL gL ah (aH wE ?r T.be z4 (e0 ?A)) (bn T.zfD))
  (d0 (vm.pe c ap (e0 ?A))))),?_)
 refine(p,1,.inl a,_,1,Y,1,?_);rw[ai];have same:=aa.refl H;by_cases b:(1)<=(?lg:cs)
 ·refine dT b (_,1,Y,1,?_);by_cases c:(?lg:cs)<=100
  ·refine dT c (p,g,Y,a,?o,λA d=>?_);have e:r3 g=g.all o4:=by simp[r3,show 1<=?lg by omega,show ?lg<=100 by omega]
   rw[<-e];exact k _ d
  ·refine dF c ?_;have e:r3 g=b1:=by simp[r3,show ¬ ?lg<=100 by omega]
   rw[<-e];exact k _ same
 ·refine dF b (1,?_);refine ao ?_;have e:r3 g=b1:=by simp[r3,show ¬ 1<=?lg by omega]
  rw[<-e];exact k _ same
inductive θ(K:bI)(t:Ad)(a:U V)(H:Hp)(Q:VK)(E:XK):Prop
 |i(p:a_)(g:U OI)(_:a=[.ref p])(_:eb K H p (g.map ov))(_:?lg<=1000)(_:(r3 g=bm->∀A,aa H A->Q .non A))(_:(r3 g=b1->∀A,aa H A->E (.ref t.eBadValue) bd A))
theorem zrz:b9 ["values"] ["values"] (aQ Me):=by walk_at "sc"
def vn[T:Gd]:=cD T.D5 5 (θ gK gt) λF=>by
 refine F.oX ["values"] λd b Aq a s H f Q E c h=>?_;let(p,g,Y,b,a,d,f):=h;refine(_,aj (aI (dQ (bY (vx.pe c ap (e0 ?A)))) (aj (cU cY T.zbu Y ?r T.r9 (e0 au))) aK),?_);refine(p,g,Y,b,?o,λA a=>(1,?_));cases e:r3 g with
 |true=>exact ao (d e A a)
 |false=>exact aA (?a,f e A a)
inductive Xo(t:Ad)(a:U V)(H:Hp)(Q:VK)(E:XK):Prop
 |i(x:c3)(_:a=[.str x])(_:(x∈bH->Q .non H))(_:(x∉bH->E (.ref t.eNoPacking) bd H))
theorem ϱ:b9 ["kind"] ["kind"] (aQ L4):=by walk_at "sc"
theorem Z1(x:c3):sH (.str x) dI=decide (x∈bH):=by
 delta sH dI
 rw[HF];have b:∀l:U c3,l.any ((λy=>m3 y (.str x)) ∘ V.str)=decide (x∈l):=by
  intro l;induction l with
  |nil=>simp
  |cons a l c=>
   simp only[hx,c];by_cases e:x=a
   ·subst e;simp[m3]
   ·have:(a ==x)=b1:=by simpa using λz=>e ?yz
    simp[m3,this,e]
 exact b _
def Vm[T:Gd]:=cD T.D6 1 (Xo gt) λF=>by
 refine F.oX ["kind"] λc b Aq a s H d Q E f h=>?_;let(x,Y,a,b):=h;refine(_,aj (aI (iN zh ?A (dj T.kx) ?r) (aj (cU cY T.zbv Y ?r T.sf (e0 au))) aK),?_);refine(gt.aKINDS,dI,Y,.inr (T.kJ _),Y,Y,1,?_);rw[ Z1];by_cases e:x∈bH
 ·exact nF e (a e)
 ·exact nT e (?a,b e)
inductive MF(a:U V)(H:Hp)(Q:VK)(_E:XK):Prop
 |i(d:cs)(_:a=[.int d])(_:Q (.int (bS d)) H)
theorem ϰ:b9 ["step"] ["step"] (aQ Mi):=by walk_at "sc"
def vv[T:Gd]:=cD T.D7 1 MF λF=>by
 refine F.o ["step"] λc b Aq a s H f Q E g h=>?_;let(d,Y,k):=h;refine(_,aj (ay (cT (aE tY ?A ah) (aq dY ah ?A) (aq cE (aq dY (fz fE ah) ?A) ah))),?_);refine(_,1,Y,1,?_);by_cases e:0<=d
 ·refine dT e (_,1,Y,.inl (?a,?a),?_);rw[show 2 * d=bS d by simp[bS,e]];exact k
 ·refine dF e (1,_,1,Y,.inl (?a,?a),_,1,Y,?_);rw[show -2 * d - 1=bS d by simp[bS,e]];exact k
noncomputable def Ty.addNum(y:Ty)(i:cs):Ty:={ y with
 least:=O (i7 y.6 i),greatest:=O (fV y.7 i),
 widest:=if 0<y.1/\y.5=b1 then (if bS (i - y.last.getD 0) > y.8 then bS (i - y.last.getD 0) else y.8) else y.8 }
theorem Xa(h:0<?lg)(q:(ax g).none=b1):∃j,(ax g).last=O j:=by
 have e:=Xg (g:=g) (n:=?lg - 1) ?l;rw[show ?lg - 1+1=?lg by exact s7 ‹_›,dw]at e;cases q:at' g (?lg - 1) with
 |some j=>exact(j,by rw[e,q])
 |none=>
  have m : .none∈g:=by
   rw[<-q];have:?lg - 1<?lg:=?l
   unfold at';simp[ this]
  have:=(L1 ?lg (b2 _)).mpr (by rwa[dw])
  grind
noncomputable def gy(d:a_)(y:Ty):U (c3×V):=[(zzq ("length") (.int y.1)),(zzq ("last") (ov y.2)),(zzq ("runs") (.int y.3)),(zzq ("book") (.ref d)),(zzq ("has_none") (.bl y.5)),(zzq ("least") (ov y.6)),(zzq ("greatest") (ov y.7)),(zzq ("widest") (.int y.8))]
noncomputable def bk(l:U OI):U (Key×V):=l.map λo=>(zzq (eS o) (.bl bm))
structure fL(C:a_)(H:Hp)(p d:a_)(y:Ty):Prop where
 ob:∃dx,H p=O (.ins C dx (gy d y))
 dc:H d=O (.dK (bk y.4))
theorem Sn(o:OI):ov o=kV (eS o):=by cases o <;> rfl
theorem YD(l:U OI)(v:OI):bQ (bk l) (eS v) (.bl bm)=bk (if v∈l then l else l++[v]):=by
 delta bQ bk
 by_cases h:v∈l
 ·simp_all
 ·simp_all
inductive RP(Ak:a_)(a:U V)(H:Hp)(Q:VK)(_E:XK):Prop
 |i(p N:a_)(_:a=[.ref p])(_:H p=O (.ins Ak N []))(_:∀(d:a_)(A:Hp),H d=bd->fL Ak A p d Ty.zero->(∀b,b≠p->b≠d->A b=H b)->Q .non A)
theorem zrC:b9 ["self"] ["self"] (aQ LL):=by walk_at "sc"
def vf[T:Gd]:=cI T.D8 1 (RP gt.cTally) λF=>by
 refine F.o ["self"] λe c Aq a s H f Q E g h=>?_;let(p,N,Y,a,k):=h;refine(_,ak (cF ?A ah Y) (ak (cF ?A a9 Y) (ak (cF ?A ah Y) (ak (cF ?A kT Y) (ak (cF ?A di Y)
  (ak (cF ?A a9 Y) (ak (cF ?A a9 Y) (aj (cF ?A ah Y)))))))),?_)
 refine(p,gt.cTally,N,1,a,T.aP,T.gY,?a,?_);refine(p,gt.cTally,N,1,ae,T.aP,T.lL,?a,?_);refine(p,gt.cTally,N,1,ae,T.aP,T.nU,?a,?_);intro d hd;have a:p≠d:=λz=>by rw[z]at hd;rw[ae]at hd;cases hd
 refine(p,gt.cTally,N,1,(by rw[af a];exact ae),T.aP,T.qO,?a,?_);refine(p,gt.cTally,N,1,ae,T.aP,T.nR,by show 4<1000;decide,?_);refine(p,gt.cTally,N,1,ae,T.aP,T.jt,by show 5<1000;decide,?_);refine(p,gt.cTally,N,1,ae,T.aP,T.j6,by show 6<1000;decide,?_);refine(p,gt.cTally,N,1,ae,T.aP,T.nV,by show 7<1000;decide,?_);refine k d _ ?_ ((N,ae),?_) λb c e=>?_
 ·rw[af ?ya,af ?ya,af ?ya]at hd;exact hd
 ·rw[af ?ya,af ?ya,af ?ya,af ?ya,af ?ya,ae];rfl
 ·rw[af c,af c,af c,af c,af c,af e,af c,af c,af c]
inductive LM(Ak:a_)(a:U V)(H:Hp)(Q:VK)(_E:XK):Prop
 |i(p d N:a_)(y:Ty)(i:cs)(_:a=[.ref p,.int i])(_:H p=O (.ins Ak N (gy d y)))(_:(0<y.1->y.5=b1->∃j,y.2=O j))(_:∀A:Hp,A p=O (.ins Ak N (gy d (y.addNum i)))->(∀b,b≠p->A b=H b)->Q .non A)
def M2(K:bI):TS:=nu (Mo (jS (Ez (FA λi j=>.bl (decide (j<i))) (iP K (cn 0) "length") (tC (.int 0)))) (Ll (tB (iP K (cn 0) "has_none"))))
 (m8 K (cn 0) (Ko (λg H Q=>∃i j,g=[.int i,.int j]/\Q (.int (if j > i then j else i)) H) (fe (iP K (cn 0) "widest") (fe (uN MF [] E0 (fe (Ez (FA λi j=>.int (i - j)) (cn 1) (iP K (cn 0) "last")) fD)) fD))) "widest") lx
def YK(K:bI):TS:=f9 (nu (My (jS (Ez (λx y H Q=>y = .non/\Q (.bl (decide (x = .non))) H) (iP K (cn 0) "greatest") (tC .non))) (jS (Ez (FA λi j=>.bl (decide (j<i))) (cn 1) (iP K (cn 0) "greatest"))))
 (m8 K (cn 0) (cn 1) "greatest") lx) (M2 K)
noncomputable def Ty.w3(y:Ty)(i:cs):Ty:={ y with widest:=if 0<y.1/\y.5=b1 then (if bS (i - y.last.getD 0) > y.8 then bS (i - y.last.getD 0) else y.8) else y.8 }
theorem qQ{d:a_}{i:cs}(T:Txt gK gm gt)(a:0<y.1->y.5=b1->∃j,y.2=O j)(c:An p=O (.ins gt.cTally N (gy d y)))(e:∀b,b≠p->An b=H b)(k:∀A:Hp,A p=O (.ins gt.cTally N (gy d (Ty.w3 y i)))->(∀b,b≠p->A b=H b)->Q .non A):
  M2 gK { nx:=λ_ A=>Q .non A,rt:=Q } [O (.ref p),O (.int i)] An:=by
 refine(1,p,gt.cTally,N,_,1,c,T.aP,T.gY,Y,_,1,Y,1,?_);by_cases f:0<y.1
 ·refine dT (show (0)<(y.1:cs) by exact sJ.mpr ‹_›) (1,p,gt.cTally,N,_,1,c,T.aP,T.nR,Y,1,?_);cases g:y.5 with
  |true=>
   refine ao (k An ?_ e);have:Ty.w3 y i=y:=by
    cases y
    simp_all[Ty.w3]
   rw[this];exact c
  |false=>
   let(j,h):=a f g;refine(1,p,gt.cTally,N,_,1,c,T.aP,T.nV,Y,2,p,gt.cTally,N,_,1,c,T.aP,T.lL,Y,_,1,(by rw[h];rfl),i - j,Y,_,2,p,gt.cTally,N,1,c,T.aP,T.nV,by show 8<1000;decide,?_);refine k _ ?_ λb a=>by rw[af a];exact e b a
   have a:Ty.w3 y i={ y with widest:=if bS (i - j) > y.8 then bS (i - j) else y.8 }:=by simp[Ty.w3,g,f,h]
   rw[ae,a];rfl
 ·refine dF (show ¬ (0)<(y.1:cs) by simp_all) (ao (k An ?_ e));have:Ty.w3 y i=y:=by
   cases y
   simp_all[Ty.w3]
  rw[this];exact c
theorem qP{d:a_}{c:Ty}{i:cs}(T:Txt gK gm gt)(e:0<y.1->y.5=b1->∃j,y.2=O j)(v:c.1=y.1)(w:c.5=y.5)(x:c.2=y.2)(f:c.8=y.8)(q:c.7=y.7)(g:Ai p=O (.ins gt.cTally N (gy d c)))(s:∀b,b≠p->Ai b=H b)(k:∀A:Hp,A p=O (.ins gt.cTally N (gy d (Ty.w3 { c with greatest:=O (fV y.7 i) } i)))->(∀b,b≠p->A b=H b)->Q .non A):
  YK gK { nx:=λ_ A=>Q .non A,rt:=Q } [O (.ref p),O (.int i)] Ai:=by
 refine(1,p,gt.cTally,N,_,1,g,T.aP,T.j6,Y,Y,1,?_);cases h:c.7 with
 |none=>
  refine aA (aA (2,p,gt.cTally,N,1,g,T.aP,T.j6,by show 8<1000;decide,?_));refine qQ (y:={ c with greatest:=O i }) (H:=H) T (λa b=>by let(j,u):=e (v ▸ a) (w ▸ b);exact(j,x.trans u)) ae (λb f=>by rw[af f];exact s b f) ?_;have:fV y.7 i=i:=by rw[<-q,h];rfl
  rw[this]at k;exact k
 |some m=>
  refine ao (2,p,gt.cTally,N,_,1,g,T.aP,T.j6,Y,_,1,(by rw[h];rfl),1,?_);by_cases n:m<i
  ·refine dT n (2,p,gt.cTally,N,1,g,T.aP,T.j6,by show 8<1000;decide,?_);refine qQ (y:={ c with greatest:=O i }) (H:=H) T (λa b=>by let(j,u):=e (v ▸ a) (w ▸ b);exact(j,x.trans u)) ae (λb f=>by rw[af f];exact s b f) ?_;have:fV y.7 i=i:=by rw[<-q,h];simp[fV,n]
   rw[this]at k;exact k
  ·rw[c4 n];refine qQ T (λa b=>?x) g s ?_;have:({ c with greatest:=O (fV y.7 i) }:Ty)=c:=by
    have:fV y.7 i=m:=by rw[<-q,h];simp[fV,n]
    rw[this,<-h]
   rw[this]at k;exact k
theorem ϸ:b9 ["self","number"] ["self","number"] (aQ Mj):=by walk_at "sc"
def Zy[T:Gd]:=cM T.D9 3 (LM gt.cTally) λF=>by
 refine F.o ["self","number"] λf c Aq a s H g Q E e h=>?_;let(p,d,N,y,i,Y,c,a,k):=h;refine(_,ak (aI (fc (aE c7 (cL (pv 0) Y) a9) (fB (aE pH (pv 1) (cL (pv 0) Y)))).pt (aj (cF (pv 0) (pv 1) Y)) aK)
  (ak (aI (fc (aE c7 (cL (pv 0) Y) a9) (fB (aE fv (pv 1) (cL (pv 0) Y)))).pt (aj (cF (pv 0) (pv 1) Y)) aK)
  (aj (aI (je (aE fv (cL (pv 0) Y) ah) (jQ (dQ (bY (cL (pv 0) Y))))).pt
   (aj (cF (pv 0) (aH (QH Y) ?r T.tR z' (fH (cL (pv 0) Y) (vv.pe e ap (e0 (aq cE (pv 1) (cL (pv 0) Y)))))) Y)) aK))),?_)
 refine(1,p,gt.cTally,N,_,1,c,T.aP,T.jt,Y,Y,1,?_);cases g:y.6 with
 |none=>
  refine aA (aA (2,p,gt.cTally,N,1,c,T.aP,T.jt,by show 8<1000;decide,?_));exact qP T.toTxt a (c:={ y with least:=O i }) Y Y Y Y Y ae (λb n=>af n) λA e f=>k A (by rw[e];simp[Ty.addNum,Ty.w3,g,i7]) f
 |some m=>
  refine ao (2,p,gt.cTally,N,_,1,c,T.aP,T.jt,Y,_,1,(by rw[g];rfl),1,?_);by_cases j:i<m
  ·refine dT j (2,p,gt.cTally,N,1,c,T.aP,T.jt,by show 8<1000;decide,?_);exact qP T.toTxt a (c:={ y with least:=O i }) Y Y Y Y Y ae (λb n=>af n) λA e f=>k A (by rw[e];simp[Ty.addNum,Ty.w3,g,i7,j]) f
  ·rw[c4 j];exact qP T.toTxt a Y Y Y Y Y c (λb _=>rfl) λA e f=>k A (by rw[e];simp[Ty.addNum,Ty.w3,g,i7,j]) f
noncomputable def kD(y:Ty):cs:=match y.6,y.7 with |some a,O b=>b - a+1 |_,_=>0
noncomputable def j8(y:Ty):U OI:=[O (24 * (y.1:cs)),O (8+(24+8) * (y.3:cs)),(if 64<?ly.book then .none else O (6+24 * (?ly.book:cs)+(aL (?ly.book - 1):cs) * y.1)),
 O (24+5+(aL (kD y).toNat:cs) * y.1),(if y.5=bm then .none else O (24+5+(aL ?iy.widest:cs) * ((y.1:cs) - 1)))]
noncomputable def lC:OI->OI
 |.none=>.none
 |.some b=>O (3+8+b)
def cN(y:Ty):U OI:=(j8 y).map lC
structure JN(y:Ty):Prop where
 pos:0<y.book.length
 bl:y.book.length<=1000
 len:y.1<=1000
 hi:(y.6 = .none/\y.7 = .none)\/∃a b,y.6=O a/\y.7=O b/\a<=b
 wid:0<=y.8
theorem mB(h:l≠[]):∃m,cC l=O m:=by
 cases l with
 |nil=>exact cx Y h
 |cons x r=>exact⟨_,Y⟩
def K_(K:bI)(Ak:a_):TS:=f9 (Ln (iP K (cn 0) "book") (cn 1) (tC (.bl bm))) (f9 (nu (jS (Ez (λx y H Q=>y = .non/\Q (.bl (decide (x = .non))) H) (cn 1) (tC .non)))
 (m8 K (cn 0) (tC (.bl bm)) "has_none") (M9 (qd Ak "add_number" (LM Ak) [] E0 (cn 0) (fe (cn 1) fD)))) (f9 (m8 K (cn 0) (cn 1) "last") (Ma K (cn 0) (tC (.int 1)) zQ "length")))
theorem vW{d:a_}{r:b8}(T:Txt gK gm gt)(e:0<y.1->y.5=b1->∃j,y.2=O j)(c:?ly.book<=1000)(f:Ai p=O (.ins gt.cTally N (gy d { y with runs:=r })))(hd:Ai d=O (.dK (bk y.4)))(m:∀b,b≠p->b≠d->Ai b=H b)(k:∀A:Hp,A p=O (.ins gt.cTally N (gy d { (y.add v) with runs:=r }))->A d=O (.dK (bk (y.add v).book))->(∀b,b≠p->b≠d->A b=H b)->Q .non A):
  K_ gK gt.cTally { nx:=λ_ A=>Q .non A,rt:=Q } [O (.ref p),O (ov v)] Ai:=by
 have a:=bL f hd (by intro z;cases z);have g:(bk y.4).length<bT:=by rw[show (bk y.4).length=?ly.book by simp[bk]];exact bJ c
 refine(1,p,gt.cTally,N,_,1,f,T.aP,T.qO,Y,1,d,1,(by rw[Sn];exact iq.k hd g),?_);have n:(upd Ai d (.dK (bQ (bk y.4) (eS v) (.bl bm)))) p=O (.ins gt.cTally N (gy d { y with runs:=r })):=(af a) ▸ f;have f:(upd Ai d (.dK (bQ (bk y.4) (eS v) (.bl bm)))) d=O (.dK (bk (y.add v).book)):=by rw[ae,YD];rfl
 have g:∀b,b≠p->b≠d->(upd Ai d (.dK (bQ (bk y.4) (eS v) (.bl bm)))) b=H b:=λb c h=>by rw[af h];exact m b c h
 generalize (upd Ai d (.dK (bQ (bk y.4) (eS v) (.bl bm))))=An at n f g ⊢;refine(1,Y,1,?_);cases v with
 |none=>
  refine aA (1,p,gt.cTally,N,1,n,T.aP,T.nR,by show 8<1000;decide,?_);refine(2,p,gt.cTally,N,1,ae,T.aP,T.lL,by show 8<1000;decide,?_);refine(1,p,gt.cTally,N,_,1,ae,T.aP,T.gY,Y,_,1,Y,N,_,ae,by show 8<1000;decide,?_);refine k _ ae ?_ λb c h=>?_
  ·simp only[af ?ya,af ?ya,af ?ya];exact f
  ·simp only[af c,af c,af c];exact g b c h
 |some i=>
  refine ao (1,p,N,1,n,Y,1,p,d,N,{ y with runs:=r },i,Y,n,e,λH3 q m=>?_);have e:H3 d=O (.dK (bk (y.add (O i)).book)):=(m d ?ya) ▸ f;refine(2,p,gt.cTally,N,1,q,T.aP,T.lL,by show 8<1000;decide,?_);refine(1,p,gt.cTally,N,_,1,ae,T.aP,T.gY,Y,_,1,Y,N,_,ae,by show 8<1000;decide,?_);refine k _ ?_ ?_ λb c h=>?_
  ·rw[ae];rfl
  ·rw[af ?ya,af ?ya];exact e
  ·simp only[af c,af c,m b c];exact g b c h
inductive Yw(Ak:a_)(a:U V)(H:Hp)(Q:VK)(_E:XK):Prop
 |i(p d:a_)(g:U OI)(v:OI)(_:a=[.ref p,ov v])(_:fL Ak H p d (ax g))(_:?lg<=1000)(_:∀A:Hp,fL Ak A p d (ax (g++[v]))->(∀b,b≠p->b≠d->A b=H b)->Q .non A)
theorem ϻ:b9 ["self","value"] ["self","value"] (aQ LZ):=by walk_at "sc"
theorem Lm(g:U OI):(ax g).book.length<=?lg:=by
 have:=uO ?lg (b2 _);rw[dw]at this;exact this ▸ (rX _ _)
def ve[T:Gd]:=cM T.D10 4 (Yw gt.cTally) λF=>by
 let(e,q,s,m,u):=Zy;refine F.o ["self","value"] λw f Aq e n H x Q E q h=>?_;let(p,d,g,v,Y,((N,f),hd),w,k):=h;have x:=gB q;have e:=qe g;have e:0<(ax g).length->(ax g).none=b1->∃j,(ax g).last=O j:=λa b=>Xa ?o b;have n:=ce (Lm g) w;rw[LG]at k;refine(_,ak (aI (fc (aE aW (cL (pv 0) Y) ah) (fB (aE eK (pv 1) (cL (pv 0) Y)))).pt (aj (uk (pv 0) ah sP)) aK)
  (ak (uj x (cL (pv 0) Y) (pv 1) di Y)
  (ak (aI (aE c7 (pv 1) a9) (aj (cF (pv 0) di Y)) (aj (aV (aX (pv 0) T.aP m s q u .nil ap (e0 (pv 1))))))
  (ak (cF (pv 0) (pv 1) Y) (aj (uk (pv 0) ah sP))))),?_)
 refine(1,p,gt.cTally,N,_,1,f,T.aP,T.gY,Y,Y,1,?_);have m:(ax g).length=0\/v≠(ax g).last->∀Ai,Ai p=O (.ins gt.cTally N (gy d { (ax g) with runs:=(ax g).runs+1 }))->(∀b,b≠p->Ai b=H b)->
   K_ gK gt.cTally { nx:=λ_ A=>Q .non A,rt:=Q } [O (.ref p),O (ov v)] Ai:=λc Ai u q=>by
  have s:=bL f hd (by intro z;cases z);refine vW T.toTxt e n u (by rw[q d ?ys];exact hd) (λb s _=>q b s) λA q s u=>k A ((N,?_),s) u;rw[q];have:((ax g).add v).runs=(ax g).runs+1:=by simp only[Ty.add];rw[d6 c]
  rw[<-this]
 by_cases c0:(ax g).length=0
 ·refine dT (show V.int ((ax g).length:cs)=V.int 0 by rw[c0];rfl) (aA (1,p,gt.cTally,N,_,1,f,T.aP,T.nU,Y,_,1,Y,N,_,f,by show 8<1000;decide,?_));exact m (.inl c0) _ ae λb w=>af w
 ·refine dF (show ¬ V.int ((ax g).length:cs)=V.int 0 by intro z;injection z with z;omega) (2,p,gt.cTally,N,_,1,f,T.aP,T.lL,Y,P' _ _,1,?_);rw[SM];by_cases c1:v=(ax g).last
  ·rw[dg c1];refine vW (r:=(ax g).runs) T.toTxt e n f hd (λb _ _=>rfl) λA q s u=>k A ((N,?_),s) u;rw[q];have:((ax g).add v).runs=(ax g).runs:=by
    simp only[Ty.add];rw[du (λz=>z.elim c0 λz=>z c1)]
   rw[<-this]
  ·refine nT c1 (1,p,gt.cTally,N,_,1,f,T.aP,T.nU,Y,_,1,Y,N,_,f,by show 8<1000;decide,?_);exact m (.inr c1) _ ae λb w=>af w
inductive uI(Ak:a_)(Ao:Ty->OI)(a:U V)(H:Hp)(Q:VK)(_E:XK):Prop
 |i(p d:a_)(y:Ty)(_:a=[.ref p])(_:fL Ak H p d y)(_:JN y)(_:Q (ov (Ao y)) H)
theorem zry:b9 ["self","entries"] ["self"] (aQ L3):=by walk_at "sc"
theorem tM{i:cs}(h:n<=1000):nA i (n:cs):=.inr (?l,?l)
def Pm[T:Gd]:=cM T.D11 3 (uI gt.cTally λy=>if 64<?ly.book then .none else O (6+24 * (?ly.book:cs)+(aL (?ly.book - 1):cs) * y.1)) λF=>by
 refine F.o ["self","entries"] λf b Aq a s H j Q E g h=>?_;let(p,d,y,Y,((N,a),hd),b,k):=h;refine(_,ak (aD 1 f (aH j9 ?r T.be z4 (e0 (cL ?A Y))))
  (ak (aI (aE fv ?B (bn T.zfE)) (aj (ay a9)) aK)
  (aj (ay (aq aT (aq aT (bn T.sj) (aq dY (bn T.iF) ?B)) (aq dY (jY.pe g ap (e0 (aq cE ?B ah))) (cL ?A Y)))))),?_)
 have f:(bk y.4).length=?ly.book:=by simp[bk]
 refine(p,gt.cTally,N,_,1,a,T.aP,T.qO,Y,d,1,hd,?_);rw[f];refine(_,1,Y,1,?_);by_cases c:64<?ly.book
 ·rw[dg (show (64)<(?ly.book:cs) by omega)];rw[d6 c]at k;exact k
 ·rw[c4 (show ¬ (64)<(?ly.book:cs) by omega)];rw[du c]at k;refine ao (_,1,Y,.inl (?a,?a),_,1,Y,_,1,Y,1,?_,?_)
  ·have:=b.1;omega
  refine(p,gt.cTally,N,_,1,a,T.aP,T.gY,Y,_,1,Y,tM b.3,_,1,Y,?_);have e:((?ly.book:cs) - 1).toNat=?ly.book - 1:=?o
  rw[e];exact k
theorem ϩ:b9 ["self","highest"] ["self"] (aQ Lr):=by walk_at "sc"
def Xz[T:Gd]:=cM T.D12 3 (uI gt.cTally λy=>O (24+5+(aL (kD y).toNat:cs) * y.1)) λF=>by
 refine F.o ["self","highest"] λg f Aq c s H m Q E j h=>?_;let(p,d,y,Y,((N,c),hd),f,k):=h;refine(_,ak (aD 1 g (cT (aE c7 (cL ?A Y) a9) ah (aq aT (aq cE (cL ?A Y) (cL ?A Y)) ah)))
  (aj (ay (aq aT (aq aT (bn T.iF) (bn T.l9)) (aq dY (jY.pe j ap (e0 ?B)) (cL ?A Y))))),?_)
 refine(p,gt.cTally,N,_,1,c,T.aP,T.jt,Y,Y,1,?_);rcases f.4 with⟨c1,g⟩ |⟨a,b,c1,g,j⟩
 ·rw[c1];have e:kD y=0:=by simp[kD,c1]
  rw[e]at k;refine(_,1,Y,1,?a,p,gt.cTally,N,_,1,c,T.aP,T.gY,Y,_,1,Y,tM f.3,_,1,Y,?_);exact k
 ·rw[c1];have e:kD y=b - a+1:=by simp[kD,c1,g]
  rw[e]at k;refine(p,gt.cTally,N,_,1,c,T.aP,T.j6,Y,p,gt.cTally,N,_,1,c,T.aP,T.jt,Y,_,_,(by rw[g];rfl),(by rw[c1];rfl),_,1,Y,?_);refine(_,1,Y,1,?o,p,gt.cTally,N,_,1,c,T.aP,T.gY,Y,_,1,Y,tM f.3,_,1,Y,?_);exact k
theorem zrI:b9 ["self"] ["self"] (aQ L_):=by walk_at "sc"
def P1[T:Gd]:=cM T.D13 3 (uI gt.cTally λy=>if y.5=bm then .none else O (24+5+(aL ?iy.widest:cs) * ((y.1:cs) - 1))) λF=>by
 refine F.o ["self"] λf b Aq a s H g Q E e h=>?_;let(p,d,y,Y,((N,a),hd),b,k):=h;refine(_,ak (aI (bY (cL ?A Y)) (aj (ay a9)) aK)
  (aj (ay (aq aT (aq aT (bn T.iF) (bn T.l9)) (aq dY (jY.pe e ap (e0 (cL ?A Y))) (aq cE (cL ?A Y) ah))))),?_)
 refine(p,gt.cTally,N,_,1,a,T.aP,T.nR,Y,1,?_);cases c:y.5 with
 |true=>
  rw[d6 c]at k;exact aA k
 |false=>
  rw[du (by rw[c];exact ef)]at k;have e:=b.3;refine ao (_,1,Y,p,gt.cTally,N,_,1,a,T.aP,T.nV,Y,1,b.5,p,gt.cTally,N,_,1,a,T.aP,T.gY,Y,_,1,Y,_,1,Y,.inr (?o,?o),_,1,Y,?_);exact k
inductive Xx(Ak:a_)(a:U V)(H:Hp)(Q:VK)(_E:XK):Prop
 |i(p d:a_)(y:Ty)(_:a=[.ref p])(_:fL Ak H p d y)(_:JN y)(_:∀(l:a_)(A:Hp),aa H A->H l=bd->A l=O (.lst ((cN y).map ov))->Q (.ref l) A)
theorem ϵ:b9 ["self","bodies"] ["self"] (aQ Ml):=by walk_at "sc"
theorem Vu:(["body"]:U c3).Nodup:=?k
def qo[T:Gd]:=cM T.D14 4 (Xx gt.cTally) λF=>by
 let(b,a,e,f,g):=Pm;let(b,a,j,m,q):=Xz;let(b,a,s,u,v):=P1;refine F.o ["self","bodies"] λw b Aq a x H B Q E c h=>?_;let(p,d,y,Y,TA,b,k):=h;let((N,a),hd):=id TA;refine(_,ak (aD 1 w (bO (aJ (aq dY (bn T.iF) (cL ?A Y)) (aJ (aq aT (bn T.zfI) (aq dY (aq aT (bn T.iF) (bn T.zfJ)) (cL ?A Y))) (aJ (dZ ?A T.aP f e c g .nil ap) (fH (dZ ?A T.aP m j c q .nil ap) (dZ ?A T.aP u s c v .nil ap)))))))
  (aj (ay (bf (fr:=[bd]) (ba ?B) (λAk As x H=>(aF 0 Vu,bh,cT (aE c7 ?A a9) a9 (aq aT (aq aT (bn T.sv) (bn T.sw)) ?A)))))),?_)
 refine(p,gt.cTally,N,_,1,a,T.aP,T.gY,Y,_,1,Y,.inl (?a,?a),?_);refine(_,1,Y,p,gt.cTally,N,_,1,a,T.aP,T.nU,Y,_,1,Y,.inl (?a,?a),_,1,Y,?_);refine(p,N,1,a,Y,p,d,y,Y,TA,b,?_);refine(p,N,1,a,Y,p,d,y,Y,TA,b,?_);refine(p,N,1,a,Y,p,d,y,Y,TA,b,?_);refine(by show 5<=bT;decide,λl e=>?_);have a:(upd H l (.lst ((j8 y).map ov))) l=O (.lst ((j8 y).map ov)):=ae;have c:aa H (upd H l (.lst ((j8 y).map ov))):=aG (aa.refl H) e;refine(l,Y,(_,.of a),eC (ys:=j8 y) (G:=ov) (λo=>ov (lC o)) (.of a) (by show 5<=1000;decide) (λi o _ A b e y=>(Wk.set Y,Y,1,?_)) λq A e h n=>k q _ (c.trans e) (c.free n) (by rw[h,cN,d_];rfl));cases o with
 |none=>exact aA (y _ (.refl _))
 |some z=>exact ao (_,1,Y,_,1,Y,y _ (.refl _))
theorem YG  : ∀n,n<=?lg->0<=(ax (g.take n)).widest:=by
 intro n;induction n with
 |zero=>intro _;simp[lB,Ty.zero]
 |succ n a=>
  intro h;rw[io h];have a:=a (dn ‹_›);show 0<=(match at' g n with
   |.none=>(ax (g.take n)).widest
   |.some i=>if 0<(ax (g.take n)).length/\(ax (g.take n)).none=b1 then (if bS (i - (ax (g.take n)).last.getD 0) > (ax (g.take n)).widest then bS (i - (ax (g.take n)).last.getD 0) else (ax (g.take n)).widest) else (ax (g.take n)).widest)
  cases at' g n with
  |none=>exact a
  |some i=>
   have:=rV (i - (ax (g.take n)).last.getD 0);dsimp only
   split
   ·split <;> assumption
   ·exact a
theorem uP(h:0<?lg)(c:?lg<=1000):JN (ax g) where
 pos:=by
  have:=uO ?lg (b2 _);rw[dw]at this;rw[this];exact xI h
 bl:=by
  have:=uO ?lg (b2 _);rw[dw]at this;exact this ▸ (ce (rX _ _) c)
 len:=by rw[qe];exact c
 hi:=by
  have:=Nu ?lg (b2 _);rw[dw]at this;let(c,d):=this;rw[c,d];cases e:bw g with
  |nil=>exact .inl (Y,Y)
  |cons x r=>
   let(a,d):=mB (l:=x::r) ?s;have c:∃b,eI (x::r)=O b:=⟨_,Y⟩
   let(b,c):=c;exact .inr (a,b,d,c,jN d b (ph c))
 wid:=by
  have:=YG ?lg (b2 _)
  simp_all
noncomputable def fix(l:U OI)(v:OI):b8:=match l with
 |[]=>0
 |x::r=>if x=v then 0 else fix r v+1
theorem TD{l:U OI}(h:v∈l):l[fix l v]?=O v:=by
 induction l with
 |nil=>cases h
 |cons x r a=>
  unfold fix;by_cases e:x=v
  ·rw[d6 e];simp[e]
  ·rw[du e];exact a ((bG.mp h).resolve_left λz=>e ?yz)
theorem Vg{l:U OI}{m:b8}{z:OI}(h:m<fix l v)(hz:l[m]?=O z):z≠v:=by
 induction l generalizing m with
 |nil=>cases hz
 |cons x r a=>
  unfold fix at h;by_cases e:x=v
  ·simp_all
  ·rw[du e]at h;cases m with
   |zero=>cases hz;exact e
   |succ m=>exact a (Nat.lt_of_succ_lt_succ h) hz
theorem OT  : ∃M,cC (bw (cN y))=O M/\O M∈cN y:=by
 have a:bw (cN y)≠[]:=by simp[bw,cN,j8,lC]
 let(M,b):=mB a;exact(M,b,kM.mp (mz b))
theorem uD{d:a_}(s:aa H A)(h:fL Ak H p d y):fL Ak A p d y:=by
 let((N,a),b):=h;exact((N,s _ _ a),s _ _ b)
inductive YY(Ak:a_)(a:U V)(H:Hp)(Q:VK)(_E:XK):Prop
 |i(p d:a_)(y:Ty)(M:cs)(_:a=[.ref p])(_:fL Ak H p d y)(_:JN y)(_:cC (bw (cN y))=O M)(_:∀A,aa H A->Q (.int M) A)
theorem pY:∀l:U OI,(l.filter v6).map ov=(bw l).map V.int
 |[]=>rfl
 |none::l=>pY l
 |some n::l=>eG (V.int n :: ·) (pY l)
theorem zrE:b9 ["self"] ["self"] (aQ L9):=by walk_at "sc"
theorem Yc:(["found"]:U c3).Nodup:=?k
def vh[T:Gd]:=cM T.D15 5 (YY gt.cTally) λF=>by
 let(b,a,c,e,f):=qo;refine F.o ["self"] λj b Aq a s H q Q E g h=>?_;let(p,d,y,M,Y,TA,a,b,k):=h;let((N,j),hd):=id TA;refine(_,aj (ay (aH (wF Y) ?r T.tU z_ (e0 (bf (fr:=[bd]) (ba (dZ ?A T.aP e c g f .nil ap)) (λAk As s H=>(aF 0 Yc,gQ (aE kQ ?A a9),pc 0)))))),?_);refine(p,N,1,j,Y,p,d,y,Y,TA,a,λl Ai f e c=>?_);refine(l,Y,(_,.of c),iX (ys:=cN y) (G:=ov) v6 ov (.of c) (by show 5<=1000;decide) (λi o _ A a Z e y z=>(Wk.set Y,Y,1,?_)) λq A e h _=>(q,bw (cN y),M,Y,.of (by rw[h,pY]),mz b,jN b,k _ (f.trans e)));cases o with
 |none=>exact ao (z Y _ (.refl _))
 |some n=>exact aA (y Y _ (.refl _))
inductive Z5(K:bI)(Ak:a_)(q:U V)(H:Hp)(Q:VK)(_E:XK):Prop
 |i(p:a_)(g:U OI)(_:q=[.ref p])(_:eb K H p (g.map ov))(_:?lg<=1000)(_:∀(q d:a_)(A:Hp),aa H A->fL Ak A q d (ax g)->Q (.ref q) A)
theorem Ϭ:b9 ["values","tally","value"] ["values"] (aQ KZ):=by walk_at "sc"
def vI[T:Gd]:=cD T.D16 5 (Z5 gK gt.cTally) λF=>by
 let(m,j,GI,f,n):=vf;let(m,j,q,s,bA):=ve;refine F.o ["values","tally","value"] λc m Aq a u H w Q E j h=>?_;let(p,g,Y,m,a,k):=h;refine(_,ak (aD 1 c (ub f GI (j.mono ?a) Y T.xO n .nil ap))
  (ak (zM ev Y (ba ?A) (aF 2 c) (aj (aV (aX ?B T.aP s q j bA .nil ap (e0 ?C)))))
  (aj (ay ?B))),?_)
 intro x N f a j;refine(x,N,Y,ae,λd Ai c q s=>(Y,?_));have j:aa H (upd (upd H N (.own x)) x (.ins gt.cTally N [])):=λb o e=>by
  rw[af (aC e f),af (aC e a)];exact e
 have a:=j.free c;have n:aa H Ai:=λb o e=>by
  rw[s b (aC e f) (aC e a)];exact j b o e
 refine(p,Y,(_,n.seq m),fQ (K:=gK) (λi σ An=>∃v:b5 V,σ=[O (.ref p),O (.ref x),v]/\aa H An/\fL gt.cTally An x d (ax (g.take i)))
  (bd,Y,n,q) (λi σ An _ ⟨_,_,c,_⟩=>c.seq m) ?_ ?_)
 ·rintro i y σ An j ⟨v,rfl,c,D⟩;have m:i<?lg:=by
   have:=(bg.mp j).1
   rwa[ai]at this
  have ex:g[i]?=O g[i]:=by simp[m]
  rw[a',ex]at j;cases j;let((m,n),hd):=id D;refine(x,m,1,n,Y,x,d,g.take i,g[i],Y,D,?_,λH3 q j=>?_)
  ·rw[d8];omega
  ·refine(1,λb o e=>?_,?_)
   ·rw[j b (aC e f) (aC e a)];exact c b o e
   ·rw[ei,ex];exact q
 ·rintro σ An ⟨v,rfl,c,D⟩;rw[ai,dw]at D;exact k x d An c D
theorem iI:bH.Nodup:=?k
theorem yd{x:c3}(h:bH[j]?=O x):(∃z,dI[j]?=O z/\m3 z (.str x)=bm)/\∀m z,m<j->dI[m]?=O z->m3 z (.str x)=b1:=by
 constructor
 ·refine(.str x,?_,by simp[m3])
  delta dI
  simp_all
 ·intro m z a hz
  delta dI at hz
  rw[a']at hz;cases e:bH[m]? with
  |none=>rw[e]at hz;cases hz
  |some y=>
   rw[e]at hz;cases hz;have:y≠x:=λq=>by
    subst q;exact cx (eY iI e h) (cb a)
   simpa[m3]using this
theorem il(h:r3 g=bm):0<?lg:=by
 simp only[r3,eB,g1]at h
 lia
inductive ZE(K:bI)(t:Ad)(a:U V)(H:Hp)(Q:VK)(E:XK):Prop
 |i(p:a_)(g:U OI)(x:c3)(_:a=[.str x,.ref p])(_:eb K H p (g.map ov))(_:?lg<=1000)(_:(r3 g=b1->∀A,aa H A->E (.ref t.eBadValue) bd A))(_:(r3 g=bm->x∉bH->∀A,aa H A->E (.ref t.eNoPacking) bd A))(_:(r3 g=bm->∀j,bH[j]?=O x->∀A,aa H A->Q (ov ((cN (ax g)).getD j .none)) A))
theorem ϧ:b9 ["kind","values"] ["kind","values"] (aQ Mc):=by walk_at "sc"
def Up[T:Gd]:=cD T.D17 6 (ZE gK gt) λF=>by
 let(b,a,e,c,f):=qo;refine F.oX ["kind","values"] λn m Aq b s H q Q E a h=>?_;let(p,g,x,Y,m,b,q,n,s):=h;refine(_,ak (aV (vn.pe a bF (e0 ?B))) (ak (aV (Vm.pe a bF (e0 ?A)))
  (aj (ay (mL x5 (dZ (vI.pe a ap (e0 ?B)) T.aP c e (a.mono ?a) f .nil ap) (t9 vk vr vw yz (dj T.kx) (e0 ?A)) (λ_ _=>rfl))))),?_)
 refine(p,g,Y,m,b,λa Ai c=>?_,q);refine(x,Y,λe=>?_,λe=>n a e Ai c);let(j,f):=ez e;let(n,u):=yd f;refine(p,g,Y,c.seq m,b,λq d An v e=>?_);let((N,m),w):=id e;refine(q,N,1,m,Y,q,d,ax g,Y,e,uP (il a) b,λl H3 w y z=>?_);refine(.inr (.inl (Y,T.yc)),gt.aKINDS,dI,.str x,j,Y,Y,T.kJ _,Y,Y,n,u,?_);refine(l,_,(j),ov ((cN (ax g)).getD j .none),Y,Y,.of z,cf ?_,s a j f H3 ((c.trans v).trans w));have a:j<5:=by
  have:=(bg.mp f).1;exact this
 have b:j<(cN (ax g)).length:=a;rw[a'];simp[ b]
def cP(g:U OI):b8:=fix (cN (ax g)) (cC (bw (cN (ax g))))
inductive SK(K:bI)(t:Ad)(a:U V)(H:Hp)(Q:VK)(E:XK):Prop
 |i(p:a_)(g:U OI)(_:a=[.ref p])(_:eb K H p (g.map ov))(_:?lg<=1000)(_:(r3 g=b1->∀A,aa H A->E (.ref t.eBadValue) bd A))(_:(r3 g=bm->∀A,aa H A->Q (.str (bH.getD (cP g) "")) A))
theorem ϳ:b9 ["values","tally"] ["values"] (aQ Ls):=by walk_at "sc"
theorem qX(g:U OI):∃M,cC (bw (cN (ax g)))=O M/\(cN (ax g))[cP g]?=O (O M)/\∀m z,m<cP g->(cN (ax g))[m]?=O z->z≠O M:=by
 let(M,a,c):=OT;refine(M,a,?_,λm z b hz=>?_)
 ·delta cP;rw[a];exact TD c
 ·unfold cP at b;rw[a]at b;exact Vg b hz
def W3[T:Gd]:=cD T.D18 6 (SK gK gt) λF=>by
 let(f,a,c,j,n):=qo;let(f,a,s,u,v):=vh;refine F.oX ["values","tally"] λw f Aq q b H x Q E a h=>?_;let(p,g,Y,f,b,q,y):=h;refine(_,ak (aV (vn.pe a bF (e0 ?A))) (ak (aD 1 w (vI.pe a ap (e0 ?A)))
  (aj (ay (mL x8 (dj T.kx) (t9 d2 lj lm px (dZ ?B T.aP j c (a.mono ?a) n .nil ap)
   (e0 (dZ ?B T.aP u s a v .nil ap))) (λ_ _=>rfl))))),?_)
 refine(p,g,Y,f,b,λa Ai j=>?_,q);refine(p,g,Y,j.seq f,b,λq d An A c=>?_);let((N,f),n):=id c;have n:=uP (il a) b;let(M,B,s,b):=qX g;refine(q,N,1,f,Y,q,d,ax g,Y,c,n,λl H3 u w v=>?_);have w:=uD u c;let((c,f),x):=id w;refine(.inl (Y,_,.of v),q,c,1,f,Y,q,d,ax g,M,Y,w,n,B,λH4 x=>?_);have c:=(bg.mp s).1;refine(l,_,.int M,cP g,Y,Y,x _ _ v,QN _,Y,(ov (O M),by rw[a',s];rfl,by show m3 (.int M) (.int M)=bm;simp[m3]),λm z n hz=>?_,?_)
 ·rw[a']at hz;cases e:(cN (ax g))[m]? with
  |none=>rw[e]at hz;cases hz
  |some f=>
   rw[e]at hz;cases hz;show m3 (ov f) (ov (O M))=b1;rw[Ud];exact c4 (b m f n e)
 ·refine(gt.aKINDS,dI,(cP g),.str (bH.getD (cP g) ""),Y,Y,T.kJ _,cf ?_,y a H4 (((j.trans A).trans u).trans x));have a:cP g<?lbH:=c;unfold dI;rw[a'];simp[ a]
noncomputable def cell(C:U cs)(k:cs):cs:=if C=[] then 0 else C.getD (k % (?lC:cs)).toNat 0
noncomputable def yr(C:U cs)(k:cs):cs:=(cell C k+104729 * (k+1)) % 4294967291 * 48271 % 4294967279
def mix(C:U cs)(k:cs):cs:=(yr C k / 64 * 69621+yr C k) % 4294967231
inductive PN(K:bI)(a:U V)(H:Hp)(Q:VK)(_E:XK):Prop
 |i(p:a_)(C:U cs)(k:cs)(_:a=[.ref p,.int k])(_:eb K H p (C.map V.int))(_:Q (.int (cell C k)) H)
def Ut[T:Gd]:=cD T.D97 1 (PN gK) λF=>by
 refine F.o ["_law_script","_law_k"] λc b Aq a s H d Q E q h=>?_;let(p,C,k,Y,a,q):=h;refine(_,(ak (aI (Q4 gK ?A) (aj (ay (nC gK ?A (aq bV ?B (aH (bR gK) ?r T.be z4 (e0 ?A))))))
   aK)
  (aj (ay ah))),?_)
 refine(p,1,a,?_);cases C with
 |nil=>exact ao q
 |cons n r=>
  refine aA ?_;have c:0<((n::r).length:cs):=by rw[e_];omega
  have b:s8 ((n::r).map V.int) (k % ((n::r).length:cs))=O (.int (cell (n::r) k)):=by
   refine cO (fi _ ?o) ?_;have d:=fl k c;have d:=fi k (b:=((n::r).length:cs)) ?o;have d:(k % ((n::r).length:cs)).toNat<(n::r).length:=?o
   rw[a',cell,du ?s,ag d];simp only[rl,ag d,oG,pw]
  refine(p,1,.inl a,_,1,Y,by rw[ai];exact c,?_);rw[ai];exact(p,_,_,1,Y,a,b,q)
inductive Ta(K:bI)(a:U V)(H:Hp)(Q:VK)(_E:XK):Prop
 |i(p:a_)(C:U cs)(k:cs)(_:a=[.ref p,.int k])(_:eb K H p (C.map V.int))(_:Q (.int (mix C k)) H)
def fF[T:Gd]:=cD T.D98 3 (Ta gK) λF=>by
 refine F.o ["_law_script","_law_k","_law_number"] λb c Aq a s H q Q E d h=>?_;let(p,C,k,Y,a,q):=h;refine(_,(ak (aD 2 b (aq bV (aq aT (Ut.pe d ap (fH ?A ?B)) (aq dY ah (aq aT ?B ah))) ah))
  (ak (aD 2 b (aq bV (aq dY ?C ah) ah))
  (aj (ay (aq bV (aq aT (aq dY (aq gJ ?C ah) ah) ?C) ah))))),?_)
 refine(_,_,1,‹_›,_,1,Y,_,1,Y,oe (?a,?a),_,1,Y,_,1,Y,?o,_,1,Y,q6 (?a,?a),_,1,Y,?o,_,1,Y,(?a,?a),_,1,Y,q6 (?a,?a),_,1,Y,_,1,Y,?o,?_);exact q
inductive Ng(a:U V)(H:Hp)(Q:VK)(_E:XK):Prop
 |i(i:cs)(_:a=[.int i])(_:Q (.bl bm) H)
def vC[T:Gd]:=cD T.D96 1 Ng λF=>by
 refine F.o ["_law_found_here"] λq b Aq a s H c Q E d h=>?_;let(i,Y,q):=h;refine(_,(aj (ay (fW (aH (cJ gK) ?r T.cK z3 (fH ?A (fY T.mD z2))) (d0 (kW (aH (cJ gK) ?r T.cK z3 (fH ?A (fY T.tP zv)))))))),?_);refine(_,_,1,fR (.int i) T.ii,1,aA ?_);exact(_,_,1,fR (.int i) T.ib,1,q)
theorem rv(h:n<=10000):n<bT:=gi h ?a
theorem Y1(g:U OI):∀n,Jp g (n+1)<=n
 |0=>by simp[Jp]
 |n+1=>by
  have:=Y1 g n;rw[Jp]
  split <;> omega
theorem jh(g:U OI):∀n,(s9 g (n+1)).length=n
 |0=>by simp[s9]
 |n+1=>by
  have:=jh g n;rw[s9,d6 (by exact Iu _),cc,this];rfl
theorem getD_at'(h:i<?lg):g[i]?=O (at' g i):=by
 simp only[ag h,Ga (ag h)]
theorem Uq(a:v∈g):0<=above ((cC (bw g)).getD 0) v:=by
 cases v with
 |none=>simp[above]
 |some i=>
  obtain⟨m,b⟩:∃m,cC (bw g)=O m:=by
   cases e:bw g with
   |nil=>have:=kM.mpr a;rw[e]at this;cases this
   |cons x r=>exact⟨_,Y⟩
  have:=jN b i (kM.mpr a);simp[above,b];lia
theorem ρ(b : .none∉g)(h:i<?lg):∃a,at' g i=O a:=by
 cases e:at' g i with
 |none=>
  have:g[i]?=O .none:=by rw[getD_at' h,e]
  exact cx (a0 this) b
 |some a=>exact(a,Y)
theorem U6(g:U OI):(ax g).none=bm↔.none∈g:=by
 have:=L1 (g:=g) ?lg (b2 _)
 rwa[dw]at this
theorem uK(a:c3):decide (V.str a=V.str a)=bm:=dg Y
theorem lg{a b:c3}(h:a≠b):decide (V.str a=V.str b)=b1:=c4 λz=>h (V.str.inj z)
theorem xy{x:c3}(h:bH[j]?=O x):(j=0/\x = "plain")\/(j=1/\x = "runs")\/(j=2/\x = "book")\/(j=3/\x = "base")\/(j=4/\x = "steps"):=by
 match j,h with
 |0,h=>exact .inl (Y,(c_ h).symm)
 |1,h=>exact .inr (.inl (Y,(c_ h).symm))
 |2,h=>exact .inr (.inr (.inl (Y,(c_ h).symm)))
 |3,h=>exact .inr (.inr (.inr (.inl (Y,(c_ h).symm))))
 |4,h=>exact .inr (.inr (.inr (.inr (Y,(c_ h).symm))))
 | (j+5),h=>cases h
def rm(g:U OI)(j:b8):OI:=(cN (ax g)).getD j .none
def iA(Ap:U OI):cs:=(cC (bw (cN (ax Ap)))).getD 0
theorem OD{Ap:U OI}(h:cC (bw (cN (ax Ap)))=O M):M=iA Ap:=by delta iA;rw[h];rfl
theorem So(Ap:U OI):cC (bw (cN (ax Ap)))=O (iA Ap):=Y
def lr(g:U OI)(b e:b8):cs:=iA ((g.drop b).take (e - b))
def kY(g:U OI)(b:b8):U cs:=(da (?lg - b)).map λk=>iA ((g.drop b).take (k+1))
theorem PV{b:b8}(a:b<e)(a:e<=?lg):(kY g b)[e - b - 1]?=O (lr g b e):=by
 delta kY lr
 rw[a',ru ?l]
 grind
def jM(l:U cs):cs:=(cC l).getD 0
theorem yq(h:l≠[]):jM l∈l:=by
 let(m,a):=mB h
 delta jM;exact a ▸ (mz a)
theorem Yx  : ∀i∈l,jM l<=i:=λi a=>by
 let(m,b):=mB (List.ne_nil_of_mem a)
 delta jM;exact b ▸ (jN b i a)
noncomputable def yy(g:U OI):b8->U cs
 |0=>[0]
 |k+1=>yy g k++[jM ((da (k+1)).map λb=>(yy g k).getD b 0+lr g b (k+1))]
theorem mT(g:U OI):∀k,(yy g k).length=k+1
 |0=>rfl
 |k+1=>by simp only[yy,cc,mT g k];rfl
def pr(g:U OI)(j:b8):cs:=(yy g j).getD j 0
theorem uh(g:U OI):∀k j,j<=k->(yy g k)[j]?=O (pr g j)
 |0,j,h=>by
  have:j=0:=Ev ‹_›;subst this;rfl
 |k+1,j,h=>by
  by_cases a:j=k+1
  ·subst a
   delta pr
   have a:k+1<(yy g (k+1)).length:=by rw[mT];exact Nat.lt_succ_of_le ‹_›
   simp[ a]
  ·have a:j<(yy g k).length:=by rw[mT];exact su ‹_› ‹_›
   simp only[yy,f1 a];exact uh g k j ?l
theorem zK(h:j<=k):(yy g k).getD j 0=pr g j:=by
 simp[ uh g k j h]
theorem pO(g:U OI)(k:b8):pr g (k+1)=jM ((da (k+1)).map λb=>pr g b+lr g b (k+1)):=by
 have e:pr g (k+1)=jM ((da (k+1)).map λb=>(yy g k).getD b 0+lr g b (k+1)):=by
  show (yy g k++[_]).getD (k+1) 0=_;simp[rl,(mT g k)]
 simp only[e]
 congr 1
 apply f6;intro b a;rw[zK (by have:=el.mp a;exact oF ‹_›)]
theorem Rq(g:U OI)(h:0<e):∃b,b<e/\pr g b+lr g b e=pr g e:=by
 obtain⟨k,rfl⟩:∃k,e=k+1:=(e - 1,by exact E8 (s7 ‹_›))
 have a:pr g (k+1)∈(da (k+1)).map λb=>pr g b+lr g b (k+1):=by
  rw[pO];exact yq ?s
 simp_all
def o5(g:U OI):eg:=decide (?lg<=8) && g.all o4
theorem mH(h:o5 g=bm):?lg<=8:=by
 simp only[o5,eB,g1]at h;exact h.1
theorem iK(h:o5 g=bm):?lg<=64:=ce (mH h) ?a
inductive Ts(K:bI)(t:Ad)(a:U V)(H:Hp)(Q:VK)(E:XK):Prop
 |i(p:a_)(g:U OI)(_:a=[.ref p])(_:eb K H p (g.map ov))(_:?lg<=8)(_:(o5 g=bm->∀A,aa H A->Q .non A))(_:(o5 g=b1->∀A,aa H A->E (.ref t.eBadValue) bd A))
def Tt[T:Gd]:=cD T.D39 4 (Ts gK gt) λF=>by
 refine F.oX ["values"] λd b Aq a s H f Q E c h=>?_;let(p,g,Y,d,a,f,j):=h;have b:(g.map ov).length=?lg:=ai _;refine(_,(aj (aI (PW.pt (fc (aE fv (aH (bR gK) ?r T.be z4 (e0 ?A)) (bn T.xP)) (fB (dQ (bY (vm.pe c ap (e0 ?A))))))) (aj (cU cY T.zbu Y ?r T.r9 (e0 au)))
   aK)),?_)
 refine(_,1,oe ‹_›,_,1,Y,1,?_);rw[b];refine dF (show ¬ (64)<(?lg:cs) by omega) (p,g,Y,d,ce a ?a,λA b=>(1,?_));have e:o5 g=g.all o4:=by unfold o5;rw[dg a,Hv]
 cases a:g.all o4 with
 |true=>exact ao (f (e.trans a) A b)
 |false=>exact aA (?a,j (e.trans a) A b)
theorem u1(g:U OI){b:b8}(h:b<=?lg):dE (g.map ov) (O (b:cs)) bd=(g.drop b).map ov:=by
 delta dE
 rw[HT.uy,HT.rR,ai,hG h,<-r0,hv ?s]
inductive V4(K:bI)(a:U V)(H:Hp)(Q:VK)(_E:XK):Prop
 |i(p:a_)(g:U OI)(b:b8)(_:a=[.ref p,.int b])(_:eb K H p (g.map ov))(_:?lg<=1000)(_:b<?lg)(_:∀(l:a_)(A:Hp),aa H A->H l=bd->A l=O (.lst ((kY g b).map V.int))->Q (.ref l) A)
def YX[T:Gd]:=cD T.D40 6 (V4 gK) λF=>by
 let(a,f,B,C,D):=vf;let(n,q,a,f,m):=ve;let(u,w,n,q,s):=vh;refine F.o ["values","begin","tally","rooms","value"] λj G Aq u I H M Q E w h=>?_;let(p,g,b,Y,G,u,I,P):=h;refine(_,(ak (aD 2 j (ub C B (w.mono ?a) Y T.xO D .nil ap))
  (ak (aD 3 j (bO dJ))
  (ak (dk ev Y (ba (gN (uE gK) ?A (eP ?B) jd)) (aF 4 j)
   (ak (aV (aX ?C T.aP f a (w.mono ?a) m .nil ap (e0 ?G)))
  (aj (aV (bX gK d2 eH eL gE ?E (e0 (dZ ?C T.aP q n (w.mono ?a) s .nil ap)))))))
  (aj (ay ?E))))),?_)
 intro x N B a f;refine(x,N,Y,ae,λd Ai f q u=>?_);have n:aa H (upd (upd H N (.own x)) x (.ins gt.cTally N [])):=λb o e=>by
  rw[af (aC e B),af (aC e a)];exact e
 have m:H d=bd:=n.free f;have s:aa H Ai:=λb o e=>by
  rw[u b (aC e B) (aC e m)];exact n b o e
 refine(Y,av Y,?_);intro l a;have j:=s.free a;let((C,f),n):=id q;have u:x≠l:=aC f a;have w:d≠l:=aC n a;have q:aa H (upd Ai l (.lst [])):=aG s a;have a:=q.seq G;have s:fL gt.cTally (upd Ai l (.lst [])) x d Ty.zero:=((C,by rw[af u];exact f),by rw[af w];exact n)
 have n:(upd Ai l (.lst [])) l=O (.lst []):=ae;generalize upd Ai l (.lst [])=An at q a s n;refine(1,_,1,‹_›,?_);intro f a;rw[u1 g ?o];have u:aa An (upd An f (.lst ((g.drop b).map ov))):=aa.new a;have w:(upd An f (.lst ((g.drop b).map ov))) f=O (.lst ((g.drop b).map ov)):=ae;have C:f≠x:=λz=>by let((_,e),_):=s;rw[z,e]at a;cases a
 have D:f≠d:=λz=>by let(_,e):=s;rw[z,e]at a;cases a
 have G:f≠l:=λz=>by rw[z,n]at a;cases a
 have I:=q.free a;have ld:(g.drop b).length=?lg - b:=he;refine(f,Y,(_,eb.of w),⟨fQ (K:=gK) (a:=f) (B:=(g.drop b).map ov) (λi σ A=>∃v:b5 V,σ=[O (.ref p),O (.int b),O (.ref x),O (.ref l),v]/\aa H A/\A f=O (.lst ((g.drop b).map ov))/\
   fL gt.cTally A x d (ax ((g.drop b).take i))/\A l=O (.lst (((da i).map λk=>iA ((g.drop b).take (k+1))).map V.int)))
  (bd,Y,q.trans u,w,uD u s,u _ _ n) (λi σ A a I=>by let(_,_,_,h,_):=I;exact eb.of h) ?_ ?_⟩)
 ·rintro i y σ H4 a ⟨v,rfl,I,L,J,n⟩;have q:i<(g.drop b).length:=by
   have:=(bg.mp a).1
   rwa[ai]at this
  rw[a',getD_at' q]at a;cases a;let((R,M),a):=id J;have s:l≠x:=bL n M (by intro z;cases z);have u:l≠d:=bL n a (by intro z;cases z);refine(x,R,1,M,Y,x,d,(g.drop b).take i,at' (g.drop b) i,Y,J,by rw[d8];omega,λK w a=>?_);rw[<-ji q]at w;have q:K l=O (.lst (((da i).map λk=>iA ((g.drop b).take (k+1))).map V.int)):=by rw[a l s u];exact n
  have M:K f=O (.lst ((g.drop b).map ov)):=by rw[a f C D];exact L
  have C:aa H K:=λc o e=>by rw[a c (aC e B) (aC e m)];exact I c o e
  let((m,B),a):=id w;have Az:0<((g.drop b).take (i+1)).length:=by rw[d8];omega
  have D:=uP Az (by rw[d8];omega);refine(.inl (Y,_,eb.of q),x,m,1,B,Y,x,d,_,iA ((g.drop b).take (i+1)),Y,w,D,So _,λK a=>?_);refine(l,_,1,Y,a _ _ q,by rw[ai,ai,dV];exact bJ ?o,?_);have m:=a _ _ q;have m:f≠l:=G;refine(1,λc o e=>?_,?_,?_,?_)
  ·rw[af (aC e j)];exact a _ _ (C c o e)
  ·rw[af m];exact a _ _ M
  ·let((q,m),f):=uD a w;exact((q,by rw[af ?ys];exact m),by rw[af ?yu];exact f)
  ·rw[ae,hr,b3,b3];rfl
 ·rintro σ H4 ⟨v,rfl,I,L,J,n⟩;refine P l H4 I j ?_;rw[n,ai,ld];rfl
inductive j4(H:Hp)(l:a_)(g:U OI):Prop
 |i(X:U a_)(_:H l=O (.lst (X.map V.ref)))(_:?lX=?lg)(_:∀(b:b8)(a:a_),X[b]?=O a->H a=O (.lst ((kY g b).map V.int)))
theorem uA{l:a_}(s:aa H A)(h:j4 H l g):j4 A l g:=by
 let(X,c,d,f):=h;exact(X,s _ _ c,d,λb a e=>s _ _ (f b a e))
inductive UO(K:bI)(a:U V)(H:Hp)(Q:VK)(_E:XK):Prop
 |i(p:a_)(g:U OI)(_:a=[.ref p])(_:eb K H p (g.map ov))(_:?lg<=1000)(_:∀(l:a_)(A:Hp),aa H A->H l=bd->j4 A l g->Q (.ref l) A)
theorem VN:(["begin","values"]:U c3).Nodup:=?k
def WZ[T:Gd]:=cD T.D41 7 (UO gK) λF=>by
 refine F.o ["values"] λn d Aq c s H j Q E f h=>?_;let(p,g,Y,q,u,v):=h;have c:(g.map ov).length=?lg:=ai _;refine(_,(aj (ay (bf (Ae:=["begin","values"]) (fr:=[bd,O 0]) (gO ?r T.eZ (e0 (aH (bR gK) ?r T.be z4 (e0 ?A)))) (λAk As s H=>(aF 0 VN,bh,(YX.pe f ap (fH ?B ?A))))))),?_);refine(_,1,oe ‹_›,1,?o,?o,?_);refine⟨kj (λi c A=>aa H A/\∃X:U a_,c=X.map V.ref/\?lX=i/\∀(b) (a),X[b]?=O a->A a=O (.lst ((kY g b).map V.int))) (aa.refl _,[],Y,Y,λb a e=>by cases e)
  (λi c A m d=>by let(_,X,e,h,_):=d;rw[e,ai];omega) (dn (bJ ?o)) ?_ ?_⟩
 ·rintro i c A m ⟨f,X,rfl,j,d⟩;have n:(0+(i))=(i:cs):=th _;refine(Wk.set Y,tT ?_);rw[n];refine(p,g,i,Y,f.seq q,u,?o,λl An n s w=>cw m (f.trans n,X++[l],by rw[b3];rfl,by simp[j],λb a e=>?_));rcases jF e with e |⟨rfl,rfl⟩
  ·exact n _ _ (d b a e)
  ·rw[j];exact w
 ·rintro c A ⟨f,X,rfl,j,d⟩ l c;refine v l _ (aG f c) (f.free c) (X,ae,?o,λb a e=>?_);have:=d b a e;rw[af (aC this c)];exact this
inductive N8(K:bI)(a:U V)(H:Hp)(Q:VK)(_E:XK):Prop
 |i(l:a_)(g:U OI)(b e:b8)(_:a=[.ref l,.int b,.int e])(_:j4 H l g)(_:b<e)(_:e<=?lg)(_:Q (.int (lr g b e)) H)
def vH[T:Gd]:=cD T.D42 1 (N8 gK) λF=>by
 refine F.o ["rooms","begin","end"] λj c Aq a s H d Q E f h=>?_;let(l,g,b,e,Y,(X,d,a,f),j,m,q):=h;refine(_,(aj (ay (nC gK (nC gK ?A ?B) (aq cE (aq cE ?C ?B) ah)))),?_);have a:b<?lX:=?o
 have c:=ag a;have a:s8 (X.map V.ref) (b)=O (.ref X[b]):=cf (by rw[a',c];rfl);have n:s8 ((kY g b).map V.int) ((e) - b - 1)=O (.int (lr g b e)):=by
  refine cO ?o ?_;rw[show ((e:cs) - b - 1).toNat=e - b - 1 by omega,a',PV j m];rfl
 have j:=f b _ c;exact(l,_,_,1,Y,eb.of d,a,_,1,Y,_,1,Y,_,_,_,1,Y,eb.of j,n,q)
def lb(g:U OI)(e:b8):b8:=((da e).find? λb=>decide (pr g b+lr g b e=pr g e)).getD 0
theorem Qp{p:b8->eg}:∀(n b:b8),b<n->p b=bm->(∀c,c<b->p c=b1)->(da n).find? p=O b:=?x
theorem Ux{b:b8}(h:b<e)(a:pr g b+lr g b e=pr g e)(d:∀c,c<b->pr g c+lr g c e≠pr g e):lb g e=b:=by
 delta lb
 rw[Qp e b h (dg a) λc a=>c4 (d c a)];rfl
theorem mq(g:U OI)(h:0<e):lb g e<e:=by
 delta lb
 cases q:(da e).find? λb=>decide (pr g b+lr g b e=pr g e) with
 |none=>exact h
 |some c=>exact el.mp (List.mem_of_find?_eq_some q)
noncomputable def iD(g:U OI):b8->b8->U b8
 |0,_=>[]
 |f+1,e=>if e=0 then [] else iD g f (lb g e)++[e]
theorem w5(g:U OI):∀f e,e<=f->iD g (f+1) e=iD g f e
 |0,e,h=>by
  have:e=0:=Ev ‹_›;subst this;rfl
 |f+1,e,h=>by
  rw[iD];by_cases a:e=0
  ·subst a;rfl
  ·have:=mq g (e:=e) (jm ‹_›);rw[du a,w5 g f _ ?l]
   conv=>rhs;simp only[iD]
   simp_all
theorem O4(g:U OI){f:b8}(h:e<=f):iD g f e=iD g e e:=by
 let(k,Y):=Nat.le.dest h;induction k with
 |zero=>rfl
 |succ k a=>rw[show e+(k+1)=(e+k)+1 by exact E8 (r6 _ _ _),w5 g _ _ (pB _ _),a (pB _ _)]
def dP(g:U OI)(e:b8):U b8:=iD g e e
theorem w6(g:U OI):dP g 0=[]:=Y
theorem rN(g:U OI)(h:0<e):dP g e=dP g (lb g e)++[e]:=by
 obtain⟨k,rfl⟩:∃k,e=k+1:=(e - 1,by exact E8 (s7 ‹_›))
 have:=mq g h;show (if k+1=0 then [] else iD g k (lb g (k+1))++[k+1])=_;rw[ O4 g (show lb g (k+1)<=k by exact oF ‹_›)];rfl
theorem rL(g:U OI):∀e,(dP g e).length<=e:=by
 intro e;induction e using vj with
 |ind e a=>
  by_cases h:e=0
  ·subst h;simp[w6]
  ·have b:=mq g (e:=e) (jm ‹_›);simp only[rN g (jm ‹_›),cc,f'];have:=a _ b;exact gi ‹_› ‹_›
def sg(a:U cs)(k:b8):cs:=a.getD k 0
def EO(n:b8):b8->U b8->Prop
 |b,[]=>b=n
 |b,e::r=>b<e/\EO n e r
theorem EO.le{n:b8}:∀{b:b8}{l:U b8},EO n b l->b<=n
 |_,[],h=>g3 h
 |_,_::_,h=>ce (dn h.1) h.2.le
theorem EO.at{n:b8}:∀{b:b8}{l:U b8},EO n b l->∀i,i<?ll->(b::l).getD i 0<l.getD i 0/\l.getD i 0<=n
 |b,e::r,h,0,_=>(h.1,h.2.le)
 |b,e::r,h,i+1,a=>by
  have:=EO.at h.2 i ?x;assumption
theorem hO(a b:cs):decide (V.int a=V.int b)=decide (a=b):=?s
theorem ui(h:k<=n):s8 ((yy g n).map V.int) (k:cs)=O (.int (pr g k)):=
 cf (by simp only[a',uh g n k h];rfl)
inductive P2(a:U V)(H:Hp)(Q:VK)(_E:XK):Prop
 |i(l:a_)(g:U OI)(_:a=[.ref l])(_:j4 H l g)(_:?lg<=1000)(_:∀(f:a_)(A:Hp),aa H A->H f=bd->A f=O (.lst ((yy g ?lg).map V.int))->Q (.ref f) A)
theorem UL:(["begin","found","rooms","end"]:U c3).Nodup:=?k
def RX[T:Gd]:=cD T.D43 3 P2 λF=>by
 refine F.o ["rooms","found","end"] λs u Aq d m H p Q E n h=>?_;let(l,g,Y,hR,d,x):=h;refine(_,(ak (aD 1 s (bO (e0 ah)))
  (ak (dk ev Y (Vo ?r T.eZ (fH ah (aq aT (aH (bR gK) ?r T.be z4 (e0 ?A)) ah))) (aF 2 s)
   (aj (aV (bX gK d2 eH eL gE ?B (e0 (aH (X_ gK Y) ?r T.tU z_ (e0 (bf (Ae:=["begin","found","rooms","end"]) (fr:=[bd,O 1,O 0,O 2]) (gO ?r T.eZ (e0 ?C)) (λAk As m H=>(aF 0 UL,bh,(aq aT (nC gK ?B ?A) (vH.pe n ap (aJ ?C (fH ?A ?E))))))))))))))
  (aj (ay ?B)))),?_)
 refine(av Y,?_);intro f q;have d:aa H (upd H f (.lst [.int 0])):=aa.new q;let(X,s,u,_):=uA d hR;have m:(X.map V.ref).length=?lg:=by rw[ai,u]
 refine(l,1,.inl (eb.of s),_,1,Y,(1),1,(?a,?a,?o,?o),?_);have s:((((X.map V.ref).length:cs)+1) - 1).toNat=?lg:=?o
 rw[s];refine⟨oK (λi σ A=>∃v:b5 V,σ=[O (.ref l),O (.ref f),v]/\aa H A/\A f=O (.lst ((yy g i).map V.int))) (bd,Y,d,ae) ?_ ?_⟩
 ·rintro i σ Ai s ⟨v,rfl,n,p⟩;have s:1+(i:cs)=((i+1:b8):cs):=?o
  rw[s];refine(.inl (Y,_,eb.of p),1,?o,?o,?_);refine⟨kj (λj d A=>aa Ai A/\d=((da j).map λb=>pr g b+lr g b (i+1)).map V.int) (aa.refl _,Y) (λj d A u s=>by rw[s.2,ai,ai,dV];omega) (dn (rv ?o)) ?_ ?_⟩
  ·rintro j d An u ⟨m,rfl⟩;have s:(0+(j:cs))=(j:cs):=th _;rw[s];have s:j<=i:=?o
   refine(Wk.set Y,tT (f,_,_,1,Y,eb.of (m _ _ p),ui s,l,g,j,i+1,Y,uA (n.trans m) hR,?o,?o,_,1,Y,cw u (m,?_)));rw[hr,b3,b3];rfl
  ·rintro d An ⟨m,rfl⟩ u d;have s:((da (i+1)).map λb=>pr g b+lr g b (i+1))≠[]:=?s
   have w:=m _ _ p;have y:f≠u:=aC w d;refine(u,_,pr g (i+1),Y,eb.of ae,by rw[pO];exact yq s,λa z=>by rw[pO];exact Yx a z,?_);refine(f,_,1,Y,by rw[af y];exact w,by rw[ai,mT];exact rv ?o,?_);refine(1,λc o e=>?_,?_)
   ·rw[af (aC e q),af (aC (m _ _ (n c o e)) d)];exact m _ _ (n c o e)
   ·rw[ae];have:yy g (i+1)=yy g i++[pr g (i+1)]:=by
     rw[pO];show yy g i++[_]=_
     congr 3
     apply f6;intro b s;rw[zK (by have:=el.mp s;omega)]
    rw[this,b3];rfl
 ·rintro σ Ai ⟨v,rfl,n,p⟩;exact x f Ai n q p
inductive Ua(K:bI)(a:U V)(H:Hp)(Q:VK)(_E:XK):Prop
 |i(l f:a_)(g:U OI)(e:b8)(_:a=[.ref l,.ref f,.int e])(_:j4 H l g)(_:eb K H f ((yy g ?lg).map V.int))(_:0<e)(_:e<=?lg)(_:Q (.int (lb g e)) H)
def X6[T:Gd]:=cD T.D44 3 (Ua gK) λF=>by
 refine F.o ["rooms","found","end","begin"] λj n Aq a s H p Q E u h=>?_;let(l,f,g,e,Y,hR,p,n,q,s):=h;refine(_,(ak (aD 3 j ah)
  (ak (ul ev (aE eK (aq aT (nC gK ?B ?E) (vH.pe u ap (aJ ?A (fH ?E ?C)))) (nC gK ?B ?C))
   (aj (zL (i:=3) j Y (oe Y) ah xW)))
  (aj (ay ?E)))),?_)
 let(j,u,a):=Rq g n;refine uT (λσ A=>A=H/\∃b:b8,σ=[O (.ref l),O (.ref f),O (.int e),O (.int b)]/\b<e/\∀c,c<b->pr g c+lr g c e≠pr g e) (λσ _=>match σ with |[_,_,_,O (.int b)]=>e - ?ib |_=>0)
  (Y,(0),Y,n,λc u=>?o) ?_
 rintro m σ A rfl ⟨rfl,b,rfl,u,n⟩;refine(f,_,_,1,Y,p,ui ?o,l,g,b,e,Y,hR,u,q,_,1,Y,f,_,_,1,Y,p,ui q,Y,1,?_);rw[hO];by_cases c:pr g b+lr g b e=pr g e
 ·refine nF c ?_;rw[Ux u c n]at s;exact s
 ·refine nT c (_,wN,?_);refine(1,_,1,Y,(Y,b+1,?s,?_,?_),?_)
  ·have:b<j:=by
    rcases FY b j with h |h |h
    ·exact h
    ·subst h;exact cx a c
    ·exact cx a (n j h)
   omega
  ·intro d hd;by_cases u:d=b
   ·subst u;exact c
   ·exact n d ?o
  ·show e - ((b:cs)+1).toNat<e - (b:cs).toNat;omega
inductive QF(K:bI)(t:Ad)(a:U V)(H:Hp)(Q:VK)(E:XK):Prop
 |i(p:a_)(g:U OI)(_:a=[.ref p])(_:eb K H p (g.map ov))(_:?lg<=8)(_:(o5 g=bm->∀(f:a_)(A:Hp),aa H A->H f=bd->A f=O (.lst (((dP g ?lg).map λ(k:b8)=>(k:cs)).map V.int))->Q (.ref f) A))(_:(o5 g=b1->∀A,aa H A->E (.ref t.eBadValue) bd A))
def XA[T:Gd]:=cD T.D45 8 (QF gK gt) λF=>by
 refine F.oX ["values","rooms","found","ends","end"] λa n Aq d s H x Q E j h=>?_;let(p,g,Y,n,d,y,s):=h;refine(_,(ak (aV (Tt.pe j bF (e0 ?A)))
  (ak (aD 1 a (WZ.pe j ap (e0 ?A)))
  (ak (aD 2 a (RX.pe j ap (e0 ?B)))
  (ak (aD 3 a (bO dJ))
  (ak (aD 4 a (aH (bR gK) ?r T.be z4 (e0 ?A)))
  (ak (PS.nox (ul ev (aE fv ?G ah)
   (ak (aV (bX gK d2 eH eL gE ?E (e0 ?G)))
  (aj (aD 4 a (X6.pe j ap (aJ ?B (fH ?C ?G))))))))
  (aj (ay (Tf gK Y ?r T.gG ?r T.zjq ?E))))))))),?_)
 refine(p,g,Y,n,d,λok Ai a=>?_,s);have d:?lg<=1000:=ce d ?a;refine(p,g,Y,a.seq n,d,λl An s j R2=>?_);refine(l,g,Y,R2,d,λf H3 u j z=>?_);have j:=(a.trans s).trans u;refine(av Y,?_);intro c v;have d:aa H3 (upd H3 c (.lst [])):=aa.new v;have a:=j.trans d;have s:=a.seq n;refine(_,1,oe ‹_›,?_);rw[ai];refine uT (λσ A=>∃(e:b8)(a:U b8),σ=[O (.ref p),O (.ref l),O (.ref f),O (.ref c),O (.int e)]/\aa H3 A/\A c=O (.lst ((a.map λ(k:b8)=>(k:cs)).map V.int))/\e<=?lg/\?la+e<=?lg/\dP g ?lg=dP g e++a.reverse)
  (λσ _=>match σ with |[_,_,_,_,O (.int e)]=>?ie |_=>0) (?lg,[],Y,d,ae,b2 _,?s,?s) ?_
 rintro m σ w s ⟨e,a,rfl,n,q,B,x,d⟩;have s:m=e:=by rw[s];simp
 refine(_,1,Y,1,?_);by_cases c0:0<e
 ·refine dT (show (0:cs)<(e:cs) by omega) (_,wN,?_);have s:=mq g c0;refine(.inl (Y,_,eb.of q),c,_,1,Y,q,by rw[ai,ai];exact bJ ?o,?_);have s:aa H3 (upd w c (.lst ((a.map λ(k:b8)=>(k:cs)).map V.int++[.int e]))):=λb o x=>by
   rw[af (aC x v)];exact n b o x
  have x:(upd w c (.lst ((a.map λ(k:b8)=>(k:cs)).map V.int++[.int e]))) c=O (.lst ((a.map λ(k:b8)=>(k:cs)).map V.int++[.int e])):=ae;refine(l,f,g,e,Y,uA (u.trans s) R2,eb.of (s _ _ z),c0,B,(lb g e,a++[e],Y,s,?_,?o,by rw[cc,f'];omega,?_),?_)
  ·rw[x,b3,b3];rfl
  ·rw[d,rN g c0];simp
  ·show (lb g e:cs).toNat<m;omega
 ·refine dF (show ¬ (0:cs)<(e:cs) by omega) ?_;have s:e=0:=?o
  subst s;rw[w6,Gn]at d;refine(c,1,eb.of q,λr a=>?_);refine y ok r _ (aG (j.trans n) a) ((j.trans n).free a) ?_;rw[ae,d,pp,pp]
theorem YM(g:U OI){b:b8}(h:b<=e)(a:e<=?lg):dE (g.map ov) (O (b:cs)) (O (e:cs))=((g.drop b).take (e - b)).map ov:=by
 delta dE
 simp only[HT.rR,HT.rR,ai,hG (show b<=?lg by exact ce ‹_› ‹_›),hG a,<-r0,<-Hw]
def Rs:b8->U b8->Prop
 |_,[]=>sI
 |b,e::r=>b<e/\Rs e r
theorem Rs.snoc:∀{l:U b8}{b k:b8},Rs b l->b<k->(∀d∈l,d<k)->Rs b (l++[k])
 |[],b,k,_,a,_=>(a,trivial)
 |e::r,b,k,h,a,c=>(h.1,Rs.snoc h.2 (c e ea) λd hd=>c d (dz _ hd))
theorem Rs.ris:∀{l:U b8}{b n:b8},Rs b l->b<n->(∀d∈l,d<n)->EO n b (l++[n])
 |[],b,n,_,a,_=>(a,Y)
 |e::r,b,n,h,a,c=>(h.1,Rs.ris h.2 (c e ea) λd hd=>c d (dz _ hd))
theorem y4(a:?lg<=8)(a:g.all o4=bm):o5 g=bm:=by
 delta o5;grind
abbrev kN(a:U b8):U V:=(a.map λ(k:b8)=>(k:cs)).map V.int
def gr(n k:b8):b8:=if n / 2 ^ k % 2=1 then 49 else 48
def cq(n:b8):b8->U b8
 |0=>[]
 |w+1=>gr n w::cq n w
theorem gZ(n:b8):∀w,(cq n w).length=w
 |0=>rfl
 |w+1=>by simp only[cq,e_,gZ n w]
theorem wo(n:b8):∀w,(da w).map (λj=>gr n (w - 1 - j))=cq n w
 |0=>rfl
 |w+1=>by
  simp only[l_,ey,cq,d_,<-wo n w]
  congr 1
  apply f6
  grind
def jb(c:b8):c3:=⟨#[c]⟩
def cR(n w:b8):c3:=⟨(cq n w).toArray⟩
theorem c5(n w:b8):(cR n w).length=w:=by
 show (cq n w).toArray.size=w;rw[b7,gZ]
theorem yi:("1" : c3)=jb 49:=?r
theorem yh:("0" : c3)=jb 48:=?r
theorem XX(l:U b8):(l.map λc=>[c]).flatten=l:=by
 induction l with
 |nil=>rfl
 |cons a r b=>simp only[ey,j',b];rfl
theorem TV(l:U b8):bc (l.map jb)=⟨?al⟩:=by
 apply nq;simp only[ie,d_];exact XX l
theorem UZ(l:U b8):((l.map jb).map (·.length)).sum=?ll:=by
 induction l with
 |nil=>rfl
 |cons a r b=>simp only[ey,ey,r1,b];exact q5 _ _
theorem N7{a:cs}(h:0<=a):t3 a 1=((?ia % 2:b8):cs):=by
 rw[Je h ?a]
 simp_all
inductive SI(a:U V)(H:Hp)(Q:VK)(_E:XK):Prop
 |i(n m:b8)(_:a=[.int n,.int m])(_:m<=1000)(_:∀A,aa H A->Q (.str (cR n m)) A)
theorem Rj:(["place","number"]:U c3).Nodup:=?k
def jk[T:Gd]:=cD T.D19 1 SI λF=>by
 refine F.o ["number","width"] λd b Aq a s H e Q E f h=>?_;let(n,m,Y,b,q):=h;refine gz (_,(iM (mO gK au (e0 (bf (Ae:=["place","number"]) (fr:=[bd,O 0]) (WU ?r T.eZ (aJ (aq cE ?B ah) (fH (fz fE ah) (fz fE ah)))) (λAk As s H=>(aF 0 Rj,bh,(cT (TY gK (aq Tj (aq Ws ?B ?A) ah)) au au))))))),?_);refine(Y,_,1,Y,2,_,1,?o,?_);have a:((m:cs) - 1 - -1).toNat=m:=?o
 rw[a];refine⟨RG (λi a A=>aa H A/\a=((da i).map λj=>V.str (jb (gr n (m - 1 - j))))) (aa.refl _,Y)
  (λi a A c d=>by rw[d.2,ai,dV];omega) (dn (bJ b)) ?_ ?_⟩
 ·rintro i a A c ⟨b,rfl⟩;refine(Wk.set Y,tT ?_);have d:((m:cs) - 1 - i).toNat=m - 1 - i:=?o
  have e:((n:cs) / 2 ^ (m - 1 - i))=((n / 2 ^ (m - 1 - i):b8):cs):=by rw[Int.natCast_ediv,Int.natCast_pow];rfl
  have f:t3 ((n:cs) / 2 ^ ((m:cs) - 1 - i).toNat) 1=((n / 2 ^ (m - 1 - i) % 2:b8):cs):=by
   rw[d,e,N7 (i_ _),e4]
  refine(_,1,Y,?o,_,1,Y,1,?_);rw[f];by_cases e:n / 2 ^ (m - 1 - i) % 2=1
  ·have f:gr n (m - 1 - i)=49:=d6 e;rw[e];refine aA (cw c (b,?_));rw[hr,b3,h5,f,yi]
  ·have f:gr n (m - 1 - i)=48:=du e;rw[show n / 2 ^ (m - 1 - i) % 2=0 by omega];refine ao (cw c (b,?_));rw[hr,b3,h5,f,yh]
 ·rintro a A ⟨b,rfl⟩ l a;have d:(da m).map (λj=>V.str (jb (gr n (m - 1 - j))))=((cq n m).map jb).map V.str:=by
   rw[<-wo,d_,d_];rfl
  rw[d];refine("",l,(cq n m).map jb,Y,Y,eb.of ae,?_,?_)
  ·rw[UZ,gZ,ai,gZ];show m+m * 0<=16777216;omega
  ·rw[mh,TV];exact q _ (aG b a)
noncomputable def iW:OI->b8
 |.none=>0
 |.some i=>(i+4000001).toNat
def dU(o:OI):c3:=cR (iW o) 24
inductive ZQ(a:U V)(H:Hp)(Q:VK)(_E:XK):Prop
 |i(o:OI)(_:a=[ov o])(_:o4 o=bm)(_:∀A,aa H A->Q (.str (dU o)) A)
def qw[T:Gd]:=cD T.D20 3 ZQ λF=>by
 refine F.o ["value"] λc q Aq a s H d Q E b h=>?_;let(o,Y,a,q):=h;refine(_,(aj (ay (jk.pe b ap (fH (cT (aE c7 ?A a9) ah (aq aT ?A (bn T.oR))) (bn T.iF))))),?_);refine(Y,1,?_);cases o with
 |none=>exact aA ((0),(24),Y,?a,q)
 |some i=>
  have b:=eh a;refine ao (_,1,Y,(i+4000001).toNat,(24),?_,?a,q);rw[la ?o];rfl
noncomputable def d5(g:U OI):c3:=bc (g.map dU)
theorem ug(g:U OI):((g.map dU).map (·.length)).sum=24 * ?lg:=by
 induction g with
 |nil=>rfl
 |cons a r b=>
  simp only[ey,ey,r1,b,e_];have:(dU a).length=24:=c5 _ _;exact q5 _ _
inductive QM(K:bI)(a:U V)(H:Hp)(Q:VK)(_E:XK):Prop
 |i(p:a_)(g:U OI)(_:a=[.ref p])(_:eb K H p (g.map ov))(_:?lg<=1000)(_:g.all o4=bm)(_:∀A,aa H A->Q (.str (d5 g)) A)
theorem Wr:(["value"]:U c3).Nodup:=?k
def vF[T:Gd]:=cD T.D21 4 (QM gK) λF=>by
 refine F.o ["values"] λd b Aq a s H q Q E c h=>?_;let(p,g,Y,b,d,a,q):=h;refine gz (_,(iM (mO gK au (e0 (bf (Ae:=["value"]) (fr:=[bd]) (ba ?A) (λAk As s H=>(aF 0 Wr,bh,(qw.pe c ap (e0 ?A)))))))),?_);refine(Y,1,(_,‹_›),?_);refine eC (ys:=g) (G:=ov) (λo=>.str (dU o)) b d (λi o c A d b y=>(Wk.set Y,o,Y,dv.mp a _ (a0 c),y)) λl A b h _=>("",l,g.map dU,Y,Y,eb.of (by rw[h,d_];rfl),?_,?_)
 ·rw[ug];show 24 * ?lg+_ * 0<=16777216;omega
 ·rw[mh];exact q _ b
def bC(C:U cs):cs:=(eI (0::C)).getD 0
theorem Sr{C:U cs}(d:∀a∈C,0<=a)(c:M∈C)(f:∀a∈C,a<=M):bC C=M:=by
 have e:=YW (dz _ c) λi b=>by
  rcases bG.mp b with rfl |b
  ·exact d M c
  ·exact f i b
 delta bC;rw[e];rfl
theorem tG:∀{l:U cs},l≠[]->∃m,eI l=O m:=by
 intro l h;cases l with
 |nil=>exact cx Y h
 |cons a r=>exact⟨_,Y⟩
theorem V9(C:U cs):bC C∈0::C:=by
 let(m,e):=tG (l:=0::C) ?s;have:bC C=m:=by delta bC;rw[e];rfl
 exact this ▸ (ph e)
theorem qg{C:U cs}{k:cs}(a:0<k)(h:∀n∈C,0<=n/\n<k):0<=bC C/\bC C<k:=by
 rcases bG.mp (V9 C) with e |e
 ·simp_all
 ·exact h _ e
theorem i9(h:n<2 ^ k):aL n<=k:=by
 rw[tQ];by_cases e:n=0
 ·simp_all
 ·rw[du e];exact (Nat.log2_lt e).mpr h
theorem m9:1000000<=bT:=?k
theorem lu{α:Type}{f:α->c3}{k:b8}:∀{l:U α},(∀x∈l,(f x).length=k)->((l.map f).map (·.length)).sum=k * ?ll
 |[],_=>rfl
 |a::r,h=>by
  simp only[ey,ey,r1,lu λx b=>h x (dz _ b),h a (ea ..)];exact q5 _ _
theorem dL(a b:c3):(a++b).length=?la+?lb:=by
 show (a++b).cps.size=?ea.cps+?eb.cps;rw[<-ee,eD,cc,ee,ee]
theorem S8{C:U cs}(b:eb K H p (C.map V.int))(c:∀a∈C,0<=a)(q:Q (.int (bC C)) H):zS K [.ref p] (.int 0) H Q:=
 (p,C,Y,b,λe=>by subst e;exact q,λM d f=>by exact (Sr c d f) ▸ q)
noncomputable def eE(C:U cs):c3:=cR (aL (bC C).toNat) 5++bc (C.map λn=>cR n.toNat (aL (bC C).toNat))
inductive Qd(K:bI)(a:U V)(H:Hp)(Q:VK)(_E:XK):Prop
 |i(p:a_)(C:U cs)(_:a=[.ref p])(_:eb K H p (C.map V.int))(_:?lC<=1000)(_:(∀n∈C,0<=n/\n<2 ^ 30))(_:∀A,aa H A->Q (.str (eE C)) A)
theorem YR:(["number","width"]:U c3).Nodup:=?k
def vt[T:Gd]:=cD T.D23 3 (Qd gK) λF=>by
 refine F.o ["numbers","width"] λf d Aq b s H e Q E c h=>?_;let(p,C,Y,d,e,b,q):=h;refine gz (_,(bi (aD 1 f (jY.pe c ap (e0 (zp (YV gK Y) ?r T.tR z' (e0 ?A) ah))))
  (iM (mP jO (Ji (jk.pe c ap (fH ?B (bn T.l9)))) (mO gK au (e0 (bf (Ae:=["number","width"]) (fr:=[bd,O 1]) (ba ?A) (λAk As s H=>(aF 0 YR,bh,(jk.pe c ap (fH ?A ?B)))))))))),?_)
 let(c,f):=qg (k:=2 ^ 30) ?a b;have s:aL (bC C).toNat<=30:=i9 ?o;refine ?_;dsimp only[fD,tC];refine S8 d (λa f=>(b a f).1) ?_;refine(1,c,?_);refine(_,1,av Y,?_);intro Ai f;have c:=f.seq d;refine(Y,1,(_,‹_›),?_);refine eC (ys:=C) (G:=V.int) (λn=>.str (cR n.toNat (aL (bC C).toNat))) c e (λi n d A g c y=>(Wk.set Y,n.toNat,aL (bC C).toNat,?_,?o,y)) λl An c g _=>?_
 ·show [V.int n,V.int (aL (bC C).toNat:cs)]=_;rw[la (b _ (a0 d)).1]
 have sz:((C.map λn=>cR n.toNat (aL (bC C).toNat)).map (·.length)).sum=aL (bC C).toNat * ?lC:=lu λx _=>c5 _ _;have le:=nW s e;refine("",l,C.map λn=>cR n.toNat (aL (bC C).toNat),Y,Y,eb.of (by rw[g,d_];rfl),?_,?_)
 ·rw[sz];show _+_ * 0<=16777216;omega
 ·rw[mh];refine(_,1,Y,?_,q _ (f.trans c));rw[c5,i6,sz];show (5:b8)+aL (bC C).toNat * ?lC<=bT;have:=m9;omega
def bj(g:U OI):cs:=(cC (bw g)).getD 0
noncomputable def iT(g:U OI):c3:=dU (O (bj g))++eE (g.map (above (bj g)))
theorem Ξ{i:cs}(h:i∈bw g):O i∈g:=by
 let(o,a,b):=n3.mp h
 grind
theorem kP{i:cs}(h:o4 (O i)=bm): -4000000<=i/\i<=4000000:=eh h
theorem Zr(b:M∈bw g)(c:∀a∈bw g,M<=a):bj g=M:=by
 let(m,e):=mB (l:=bw g) (λz=>by grind);have d:=jN e M b;have b:=c m (mz e)
 delta bj
 rw[e];show m=M
 lia
theorem sY(h:g.all o4=bm):o4 (O (bj g))=bm:=by
 delta bj
 cases e:cC (bw g) with
 |none=>decide
 |some m=>exact dv.mp h _ (Ξ (mz e))
theorem nX(h:g.all o4=bm):∀n∈g.map (above (bj g)),0<=n/\n<2 ^ 30:=by
 intro n b;let(v,a,Y):=cv.mp b;refine(Uq a,?_);have l:=kP (sY h);cases v with
 |none=>show (0)<2 ^ 30;decide
 |some i=>
  have:=kP (dv.mp h _ a);show i - bj g+1<2 ^ 30
  lia
theorem Wm(a:eb K H p ((bw g).map V.int))(q:Q (.int (bj g)) H):zT K [.ref p] (.int 0) H Q:=
 (p,bw g,Y,a,λe=>by delta bj at q;rw[e]at q;exact q,λM b c=>by exact (Zr b c) ▸ q)
theorem oE{C:U cs}(h:∀n∈C,0<=n/\n<2 ^ 30)(a:?lC<=1000):(eE C).length<=100000:=by
 let(b,c):=qg ?a h;have b:aL (bC C).toNat<=30:=i9 ?o;have le:=nW b a
 delta eE
 simp only[dL,c5,i6,lu λx _=>c5 _ _]
 lia
inductive No(K:bI)(a:U V)(H:Hp)(Q:VK)(_E:XK):Prop
 |i(p:a_)(g:U OI)(_:a=[.ref p])(_:eb K H p (g.map ov))(_:?lg<=1000)(_:g.all o4=bm)(_:∀A,aa H A->Q (.str (iT g)) A)
theorem X0:(["value"]:U c3).Nodup:=?k
theorem Rh:(["value","least"]:U c3).Nodup:=?k
def Γ[T:Gd]:=cD T.D24 4 (No gK) λF=>by
 refine F.o ["values","least"] λb c Aq a s H f Q E d h=>?_;let(p,g,Y,c,e,a,q):=h;have f:(g.map ov).length=?lg:=ai _;refine(_,(ak (aD 1 b (zp (Qm gK Y) ?r T.tU z_ (e0 (bf (Ae:=["value"]) (fr:=[bd]) (ba ?A) (λAk As s H=>(aF 0 X0,(gQ (aE kQ ?A a9)),?A)))) ah))
  (aj (ay (aq jO (qw.pe d ap (e0 ?B)) (vt.pe d ap (e0 (bf (Ae:=["value","least"]) (fr:=[bd,O 1]) (ba ?A) (λAk As s H=>(aF 0 Rh,bh,(cT (aE c7 ?A a9) ah (aq aT (aq cE ?A ?B) ah))))))))))),?_)
 refine(1,(_,‹_›),?_);refine iX (ys:=g) (G:=ov) v6 ov c ?o (λi o _ A s Z d y z=>(Wk.set Y,Y,1,?_)) λl An d b _=>?_
 ·cases o with
  |none=>exact ao (z Y _ (.refl _))
  |some n=>exact aA (y Y _ (.refl _))
 rw[pY]at b;have f:=d.seq c;refine Wm (eb.of b) ?_;refine(O (bj g),Y,sY a,λH3 f=>?_);have b:=d.trans f;have d:=b.seq c;refine(1,(_,‹_›),?_);refine eC (ys:=g) (G:=ov) (λo=>.int (above (bj g) o)) d ?o (λi o _ H4 s d y=>(Wk.set Y,Y,1,?_)) λc H4 d f _=>?_
 ·cases o with
  |none=>exact aA (y _ (.refl _))
  |some z=>exact ao (_,1,Y,_,1,Y,y _ (.refl _))
 have le:(g.map (above (bj g))).length<=1000:=by rw[ai];exact e
 refine(c,1,eb.of (by rw[f,d_];rfl),le,nX a,λe s=>?_);refine(_,1,Y,?_,q _ ((b.trans d).trans s));have f:(dU (O (bj g))).length=24:=c5 _ _;have f:=oE (nX a) le;have f:=m9;omega
theorem uL(g:U OI)(i:b8):s9 g (i+2)=s9 g (i+1)++[bS ((at' g (i+1)).getD 0 - (at' g i).getD 0)]:=by
 rfl
theorem xQ(h:g.all o4=bm)(i:b8): -4000000<=(at' g i).getD 0/\(at' g i).getD 0<=4000000:=by
 by_cases b:i<?lg
 ·have a:=dv.mp h _ (a0 (getD_at' b));cases e:at' g i with
  |none=>exact(?a,?a)
  |some z=>rw[e]at a;exact eh a
 ·have e:at' g i = .none:=by
   unfold at'
   simp_all
  simp_all
theorem nj{g:U OI}(h:g.all o4=bm):∀n,∀v∈s9 g n,0<=v/\v<2 ^ 30
 |0=>λv c=>by cases c
 |1=>λv c=>by cases c
 |n+2=>λv c=>by
  rw[uL]at c;rcases ek.mp c with c |c
  ·exact nj h (n+1) v c
  ·have e:v=_:=d4.mp c;rw[e];refine(rV _,?_);have a:=xQ h (n+1);have b:=xQ h n
   delta bS
   split <;> lia
def jg(g:U OI):c3:=dU (at' g 0)++eE (s9 g ?lg)
theorem XB(g:U OI)(h:0<?lg):dE (g.map ov) (O 1) bd=(g.drop 1).map ov:=by
 delta dE
 rw[HT.uy,show (1)=((1:b8):cs) from Y,HT.rR,ai,hG h,<-r0,hv ?s]
theorem mG(a : .none∉g)(b:i<?lg):ov (at' g i) = .int ((at' g i).getD 0):=by
 cases e:at' g i with
 |none=>exact cx (e ▸ a0 (getD_at' b)) a
 |some z=>rfl
inductive Vp(K:bI)(a:U V)(H:Hp)(Q:VK)(_E:XK):Prop
 |i(p:a_)(g:U OI)(_:a=[.ref p])(_:eb K H p (g.map ov))(_:0<?lg)(_:?lg<=1000)(_:g.all o4=bm) (_ : .none∉g) (_:∀A,aa H A->Q (.str (jg g)) A)
theorem yL:(["ahead","value"]:U c3).Nodup:=?k
def TF[T:Gd]:=cD T.D25 4 (Vp gK) λF=>by
 refine F.o ["values","steps"] λM N Aq s P H A5 Q E u h=>?_;let(p,g,Y,D,v,s,b,G,R):=h;refine(_,(ak (gR 1 M (Ae:=["ahead","value"]) (fr:=[bd,bd]) (mQ gK ?r T.iJ (fH ?A (gN (uE gK) ?A (eP ah) jd))) (λAk As P H=>(dA gK (n:=2) Y (bv (aF 0 yL) (bv (aF 1 yL) dB)),bh,(vv.pe u ap (e0 (aq cE ?B ?A))))))
  (aj (ay (aq jO (qw.pe u ap (e0 (nC gK ?A ah))) (vt.pe u ap (e0 ?B)))))),?_)
 refine(1,_,1,‹_›,?_);intro c s;rw[XB g v];have w:aa H (upd H c (.lst ((g.drop 1).map ov))):=aa.new s;have z:(upd H c (.lst ((g.drop 1).map ov))) c=O (.lst ((g.drop 1).map ov)):=ae;generalize upd H c (.lst ((g.drop 1).map ov))=Ai at w z;have d:=w.seq D;refine(p,c,_,1,d,eb.of z,?_);refine⟨rK (λi a A=>aa Ai A/\a=(s9 g (i+1)).map V.int) (aa.refl _,Y)
  (?lg - 1) (by rw[ai,ai,he];omega) (λi a A I c=>(c.1.seq d,eb.of (c.1 _ _ z),by rw[c.2,ai,jh];omega)) (dn (bJ ?o)) ?_ ?_⟩
 ·rintro i x y a H3 J e f I ⟨B,rfl⟩ S;have j:i<?lg:=?o
  have m:i+1<?lg:=?o
  have ex:x = .int ((at' g i).getD 0):=by
   rw[a',getD_at' j]at e;cases e;exact mG G j
  have X:y = .int ((at' g (i+1)).getD 0):=by
   rw[a',List.getElem?_drop,q5 1 i,getD_at' m]at f;cases f;exact mG G m
  subst ex X;have n:aa Ai (upd H3 J (.tup [.int ((at' g i).getD 0),.int ((at' g (i+1)).getD 0)])):=aG B S;refine(J,1,fx.of ae,Y,_,1,_,1,Y,(Wk.set Y).trans (Wk.set Y),tT ?_);refine(_,1,Y,1,cw I (n,?_));rw[uL,b3];rfl
 ·rintro a H3 ⟨B,rfl⟩ q c;have K:?lg - 1+1=?lg:=?o
  rw[K];have n:aa H (upd H3 q (.lst ((s9 g ?lg).map V.int))):=aG (w.trans B) c;have Z:(upd H3 q (.lst ((s9 g ?lg).map V.int))) q=O (.lst ((s9 g ?lg).map V.int)):=ae;have C:=n.seq D;have A3:s8 (g.map ov) 0=O (ov (at' g 0)):=cf (by rw[a',getD_at' v];rfl);have le:(s9 g ?lg).length<=1000:=by rw[<-K,jh];omega
  refine(p,_,_,1,Y,C,A3,at' g 0,Y,dv.mp b _ (a0 (getD_at' v)),λc L=>?_);refine(q,1,eb.of (L _ _ Z),le,nj b _,λc A4=>?_);refine(_,1,Y,?_,R _ ((n.trans L).trans A4));have c:(dU (at' g 0)).length=24:=c5 _ _;have c:=oE (nj b ?lg) le;have c:=m9;omega
noncomputable def C2:b8->U OI->U (Key×V)
 |_,[]=>[]
 |n,w::r=>(zzq (eS w) (.int (n:b8)))::C2 (n+1) r
theorem wv(v:OI):∀(I:U OI)(n:b8),C2 n (I++[v])=C2 n I++[(zzq (eS v) (.int ((n+?lI:b8):cs)))]
 |[],n=>rfl
 |w::r,n=>by
  show (zzq (eS w) (V.int (n)))::C2 (n+1) (r++[v])=_;rw[wv v r (n+1)];show _=(zzq (eS w) (V.int (n)))::(C2 (n+1) r++_);simp only[e_,show n+1+?lr=n+(?lr+1) by exact l5 _ _ _]
theorem oi:∀(I:U OI)(n:b8),(C2 n I).length=?lI
 |[],_=>rfl
 |_::r,n=>eG KJ (oi r (n+1))
theorem wt:∀(I:U OI)(n:b8),(C2 n I).map (λa=>kV a.1)=I.map ov
 |[],_=>rfl
 |w::r,n=>by
  show kV (eS w)::(C2 (n+1) r).map (λa=>kV a.1)=ov w::r.map ov;rw[wt r (n+1)];cases w <;> rfl
theorem wu{v:OI}:∀{I:U OI}(n:b8),v∉I->aO (C2 n I) (eS v:Key)=bd
 |[],_,_=>rfl
 |w::r,n,h=>by
  show aO ((zzq (eS w) (V.int (n)))::C2 (n+1) r) _=bd;rw[dM (λe=>h (by grind))];exact wu (n+1) λz=>h (dz _ z)
theorem q8{v:OI}:∀{I:U OI}(n:b8),v∈I->aO (C2 n I) (eS v:Key)=O (.int ((n+I.idxOf v:b8):cs))
 |w::r,n,h=>by
  show aO ((zzq (eS w) (V.int (n)))::C2 (n+1) r) _=_;by_cases e:w=v
  ·subst e;rw[eQ Y,m2];rfl
  ·rw[dM (λz=>e (by grind)),q8 (n+1) ((bG.mp h).resolve_left λz=>e ?yz),ux,show (w ==v)=b1 by simpa using e,show n+1+r.idxOf v=n+(r.idxOf v+1) by exact l5 _ _ _];rfl
theorem x9(o:OI):kV (eS o)=ov o:=by cases o <;> rfl
theorem pW{d:a_}{o:HO}(a:aa H H4)(hd:H d=bd):aa H (upd H4 d o):=λb z e=>by
 rw[af (aC e hd)];exact a b z e
theorem om(g:U OI):∀n,n<=?lg->(ax (g.take n)).book.length<=n
 |0,_=>b2 _
 |n+1,h=>by
  have a:=om g n (dn ‹_›);rw[io h];show (if at' g n∈(ax (g.take n)).book then (ax (g.take n)).book else (ax (g.take n)).book++[at' g n]).length<=n+1
  split
  ·exact hq ‹_›
  ·simp_all
noncomputable def jV(I:U OI)(v:OI):c3:=cR (I.idxOf v) (aL (?lI - 1))
noncomputable def jx(g:U OI):c3:=cR ((ax g).book.length - 1) 6++d5 (ax g).book++bc (g.map (jV (ax g).book))
inductive Wo(K:bI)(a:U V)(H:Hp)(Q:VK)(_E:XK):Prop
 |i(p:a_)(g:U OI)(_:a=[.ref p])(_:eb K H p (g.map ov))(_:0<?lg)(_:?lg<=1000)(_:g.all o4=bm)(_:∀A,aa H A->Q (.str (jx g)) A)
theorem Y4:(["value","width","book"]:U c3).Nodup:=?k
def Qv[T:Gd]:=cD T.D22 5 (Wo gK) λF=>by
 refine F.o ["values","book","value","width","numbers"] λe c Aq b s H m Q E a h=>?_;let(p,g,Y,m,u,q,n,w):=h;have b:=gB a;refine gz (_,(bi (aD 1 e kT)
  (bi (dk ev Y (ba ?A) (aF 2 e)
   (aj (aV (bX gK o1 my m0 tL ?B (fH ?C (aH j9 ?r T.be z4 (e0 ?B)))))))
  (bi (aD 3 e (jY.pe a ap (e0 (aq cE (aH j9 ?r T.be z4 (e0 ?B)) ah))))
  (bi (gR 4 e (Ae:=["value","width","book"]) (fr:=[bd,O 3,O 1]) (ba ?A) (λAk As s H=>(aF 0 Y4,bh,(jk.pe a ap (fH (fX b ?C ?A (λ_ _=>rfl)) ?B)))))
  (iM (mP jO (mP jO (Ji (jk.pe a ap (fH (aq cE (aH j9 ?r T.be z4 (e0 ?B)) ah) (bn T.sj)))) (Ji (vF.pe a ap (e0 (fw (oq Y) ?r T.gG z5 (e0 ?B)))))) (mO gK au (e0 ?G)))))))),?_)
 intro d hd;have a:aa H (upd H d (.dK [])):=aa.new hd;have b:(upd H d (.dK [])) d=O (.dK (C2 0 [])):=ae;generalize upd H d (.dK [])=Ai at a b;have e:=a.seq m;refine(p,Y,(_,e),⟨fQ (K:=gK) (a:=p) (B:=g.map ov) (λi σ A=>∃v:b5 V,σ=[O (.ref p),O (.ref d),v,bd,bd]/\aa H A/\A d=O (.dK (C2 0 (ax (g.take i)).book)))
  (bd,Y,a,b) (λi σ A f c=>by let(_,_,s,_):=c;exact s.seq m) ?_ ?_⟩)
 ·rintro i y σ H4 f ⟨v,rfl,j,b⟩;have a:i<?lg:=by
   have:=(bg.mp f).1
   rwa[ai]at this
  rw[a',getD_at' a]at f;cases f;have c:(ax (g.take (i+1))).book=if at' g i∈(ax (g.take i)).book then (ax (g.take i)).book else (ax (g.take i)).book++[at' g i]:=by
   rw[io a];rfl
  have e:=om g i ?o;rw[c];generalize (ax (g.take i)).book=I at b e;refine(q6 (q6 (oe (Y,oe (_,b)))),d,1,b,d,_,eS (at' g i),1,by rw[x9],b,λz hz=>?_,λhz=>(?_,?_))
  ·have c:at' g i∈I:=by
    by_cases c:at' g i∈I
    ·exact c
    ·rw[wu 0 c]at hz;cases hz
   rw[d6 c];exact(1,j,b)
  ·rw[oi];exact bJ ?o
  ·have c:at' g i∉I:=λc=>by rw[q8 0 c]at hz;cases hz
   rw[du c];refine(1,pW j hd,?_);rw[ae,mW _ hz,wv,oi,kR]
 ·rintro σ H4 ⟨v,rfl,j,b⟩;rw[ai,dw]at b;have e:=om g ?lg (b2 _);have a:=tH (g:=g) ?lg;rw[dw]at e a;have s:∀A,aa H A->Q (.str (cR ((ax g).book.length - 1) 6++d5 (ax g).book++bc (g.map (jV (ax g).book)))) A:=w;generalize (ax g).book=I at b e a s;have e:0<?lI:=ma ((a _ (b2 _)).mpr (a0 (getD_at' u)));have u:((C2 0 I).length:cs) - 1=((?lI - 1:b8):cs):=by rw[oi];omega
  have D:aL (?lI - 1)<=10:=i9 ?o;have e:=j.seq m;have m:aL (((C2 0 I).length:cs) - 1).toNat=aL (?lI - 1):=by rw[u,e4]
  refine(d,1,b,_,1,Y,1,?o,?_);rw[m];refine(p,Y,(_,e),eC (ys:=g) (G:=ov) (λo=>.str (jV I o)) e q (λi o f J K G y=>?_) λw B C m _=>?_)
  ·have c:o∈I:=(a _ (b2 _)).mpr (a0 f);exact(Wk.set Y,d,1,.inl (_,eS o,.inl (G _ _ b),(x9 _).symm,by rw[q8 0 c,kR]),I.idxOf o,aL (?lI - 1),Y,?o,y)
  have m:B w=O (.lst ((g.map (jV I)).map V.str)):=by rw[m,d_];rfl
  have c:=C _ _ b;have sz:((g.map (jV I)).map (·.length)).sum=aL (?lI - 1) * ?lg:=lu λx _=>c5 _ _;have e:=nW D q;have e:I.all o4=bm:=dv.mpr λv b=>dv.mp n v ((a v (b2 _)).mp b);refine(d,1,c,_,1,Y,?lI - 1,(6),?_,?a,λb f=>?_)
  ·show [V.int (((C2 0 I).length:cs) - 1),V.int 6]=_;rw[u];rfl
  refine(d,1,f _ _ c,λa b=>?_);rw[wt];refine(a,I,Y,eb.of ae,?o,e,λc u=>?_);have a:aa B c:=(aG f b).trans u;have e:(cR (?lI - 1) 6).length=6:=c5 _ _;have b:(d5 I).length=24 * ?lI:=by unfold d5;rw[i6,ug]
  have c:=m9;refine(_,1,Y,?o,?_);refine(Y,"",w,g.map (jV I),Y,Y,eb.of (a _ _ m),?_,?_)
  ·rw[sz];show _+_ * 0<=16777216;omega
  ·rw[mh];refine(_,1,Y,?_,s _ ((j.trans C).trans a));rw[dL,e,b,i6,sz];omega
noncomputable def dX:b8->U OI->c3
 |0=>d5
 |2=>jx
 |3=>iT
 |_=>jg
noncomputable def e9(j:b8)(g:U OI):c3:=cR j 3++cR (?lg - 1) 8++dX j g
theorem MG(h:rm g 4≠.none): .none∉g:=λc=>h (by
 show lC (if (ax g).none=bm then .none else _)=_;rw[d6 ((U6 g).mpr c)];rfl)
theorem gI(h:r3 g=bm):g.all o4=bm/\?lg<=100:=by
 simp only[r3,eB,g1]at h;exact(h.2,h.1.2)
theorem pN(g:U OI):(d5 g).length=24 * ?lg:=by delta d5;rw[i6,ug]
theorem wz(g:U OI):(jx g).length=6+24 * (ax g).book.length+aL ((ax g).book.length - 1) * ?lg:=by
 delta jx
 simp only[dL,dL,c5,pN,i6,lu (f:=jV (ax g).book) λx _=>c5 _ _]
theorem u0(C:U cs):(eE C).length=5+aL (bC C).toNat * ?lC:=by
 delta eE
 rw[dL,c5,i6,lu λx _=>c5 _ _]
theorem qi(o:OI):(dU o).length=24:=c5 _ _
theorem Qq(g:U OI):(iT g).length=24+(5+aL (bC (g.map (above (bj g)))).toNat * ?lg):=by
 delta iT
 simp only[dL,qi,u0,ai]
theorem TH(g:U OI):(jg g).length=24+(5+aL (bC (s9 g ?lg)).toNat * (s9 g ?lg).length):=by
 delta jg
 simp only[dL,qi,u0]
theorem wA(g:U OI):(ax g).book.length<=?lg:=by
 have:=om g ?lg (b2 _)
 simp_all
theorem Ys(g:U OI):(s9 g ?lg).length<=?lg:=by
 cases h:?lg with
 |zero=>simp[s9]
 |succ n=>rw[jh];exact h0 _
theorem wy(b:?lg<=1000)(a:g.all o4=bm)(j:b8):(dX j g).length<=200000:=by
 have c:=wA g
 match j with
 |0=>show (d5 g).length<=_;rw[pN];lia
 |2=>
  show (jx g).length<=_;have c:aL ((ax g).book.length - 1)<=10:=i9 ?l;have:=nW c b;rw[wz];lia
 |3=>
  show (iT g).length<=_;have:=oE (nX a) ?x
  delta iT
  rw[dL,qi];lia
 |1 |j+4=>
  show (jg g).length<=_;have:=oE (nj a ?lg) (ce (Ys g) b)
  delta jg
  rw[dL,qi];lia
noncomputable def o8:U c3:=["plain","book","base","steps"]
theorem Ms:∀y∈o8,y∈bH/\y ≠ "runs" :=?k
theorem in4:∀y∈bH,y ≠ "runs" -> y∈o8:=?k
def Yd(K:bI):c3->Sp:=λx a H Q _=>∃(p:a_)(g:U OI)(j:b8),a=[.ref p]/\bH[j]?=O x/\eb K H p (g.map ov)/\0<?lg/\?lg<=1000/\g.all o4=bm/\(j=4->.none∉g)/\
 ∀A,aa H A->Q (.str (dX j g)) A
def Vb[T:Gd]:nE gP gw gK gm gb r_ 5 "WRITERS" ["values"] o8 (Yd gK):=by
 let(a,q,n,s,d,u,(c,z,v),(w,A,B),(x,C,D),(K,I,J)):=T.tWRITERS;refine(a,q,n,s,d,u,λy c=>?_);let(c,ne):=Ms y c;let(j,q):=ez c;have only:∀{i:b8},bH[i]?=O y->i=j:=λh=>eY iI h q;rcases xy q with⟨rfl,rfl⟩ |⟨rfl,rfl⟩ |⟨rfl,rfl⟩ |⟨rfl,rfl⟩ |⟨rfl,rfl⟩
 ·let(f,Ar,G,m,k,b):=vF;cases v.symm.trans m;exact(_,Ar,z,(G.mono ?a).imp (by rintro x H Q E ⟨p,g,i,e,q,s,v,d,c,w,u⟩;cases only q;exact(p,g,e,s,d,c,u)),k,b)
 ·exact cx Y ne
 ·let(f,Ar,G,m,k,b):=Qv;cases B.symm.trans m;exact(_,Ar,A,G.imp (by rintro x H Q E ⟨p,g,i,e,q,s,v,d,c,w,u⟩;cases only q;exact(p,g,e,s,v,d,c,u)),k,b)
 ·let(f,Ar,G,m,k,b):=Γ;cases D.symm.trans m;exact(_,Ar,C,(G.mono ?a).imp (by rintro x H Q E ⟨p,g,i,e,q,s,v,d,c,w,u⟩;cases only q;exact(p,g,e,s,d,c,u)),k,b)
 ·let(f,Ar,G,m,k,b):=TF;cases J.symm.trans m;exact(_,Ar,I,(G.mono ?a).imp (by rintro x H Q E ⟨p,g,i,e,q,s,v,d,c,w,u⟩;cases only q;exact(p,g,e,s,v,d,c,w Y,u)),k,b)
inductive Vl(K:bI)(t:Ad)(a:U V)(H:Hp)(Q:VK)(E:XK):Prop
 |i(p:a_)(g:U OI)(x:c3)(_:a=[.str x,.ref p])(_:x ≠ "runs")(_:eb K H p (g.map ov))(_:?lg<=1000)(_:(r3 g=b1->∀A,aa H A->E (.ref t.eBadValue) bd A))(_:(r3 g=bm->x∉bH->∀A,aa H A->E (.ref t.eNoPacking) bd A))(_:(r3 g=bm->∀j,bH[j]?=O x->rm g j = .none->∀A,aa H A->E (.ref t.eNoPacking) bd A))(_:(r3 g=bm->∀j,bH[j]?=O x->rm g j≠.none->∀A,aa H A->Q (.str (e9 j g)) A))
def vE[T:Gd]:=cD T.D26 7 (Vl gK gt) λF=>by
 refine F.oX ["kind","values","head"] λs n Aq b u H c Q E a h=>?_;let(p,g,x,Y,ne,f,m,c,u,n,q):=h;have v:(g.map ov).length=?lg:=ai _;refine(_,(ak (aI (aE c7 (Up.pe a bF (fH ?A ?B)) a9) (aj (cU cY T.zbv Y ?r T.sf (e0 au)))
   aK)
  (ak (aD 2 s (aq jO (jk.pe a ap (fH (bX gK vk vr vw (S9 gK) (dj T.kx) (e0 ?A)) (bn T.sv))) (jk.pe a ap (fH (aq cE (aH (bR gK) ?r T.be z4 (e0 ?B)) ah) (bn T.sw)))))
  (aj (ay (aq jO ?C (Vb.pe a ap ?A (e0 ?B))))))),?_)
 refine(p,g,x,Y,f,m,c,u,λa j b Ai d=>?_);have w:=il a;let(c,s):=gI a;let(u,y):=yd b;have n:=n a j b;have q:=q a j b;have s:j=4->rm g j≠.none->.none∉g:=λe h=>by subst e;exact MG h
 refine(Y,1,?_);show (if decide (ov (rm g j) = .non)=bm then _ else _);cases e:rm g j with
 |none=>exact aA (?a,n e Ai d)
 |some M=>
  have a:rm g j≠.none:=by rw[e];intro z;cases z
  have A:((?lg) - 1)=((?lg - 1:b8):cs):=?o
  refine(.inr (.inl (Y,T.yc)),gt.aKINDS,dI,.str x,j,Y,Y,T.kJ _,Y,Y,u,y,?_);refine(j,(3),Y,?a,λAn n=>?_);refine(p,1,.inl ((d.trans n).seq f),_,1,Y,?lg - 1,(8),?_,?a,λH3 u=>?_)
  ·show [V.int (((g.map ov).length:cs) - 1),V.int 8]=_;rw[v,A];rfl
  have v:(cR j 3).length=3:=c5 _ _;have y:(cR (?lg - 1) 8).length=8:=c5 _ _;have A:=m9;refine(_,1,Y,?o,?_);refine(x,Y,in4 _ (a0 b) ne,p,g,j,Y,b,((d.trans n).trans u).seq f,w,m,c,λz=>s z a,λH4 A=>?_);refine(_,1,Y,?_,q a H4 (((d.trans n).trans u).trans A));have:=wy m c j;rw[dL,v,y];omega
theorem Yg(C:U cs):∀a∈0::C,a<=bC C:=by
 let(m,e):=tG (l:=0::C) ?s;have:bC C=m:=by delta bC;rw[e];rfl
 exact this ▸ (tF e)
theorem tN(a:U b8):(kN a).length=?la:=?x
theorem oS(a:c3)(l:U c3):bc (a::l)=a++bc l:=by
 apply nq;simp only[eD,ie,ie,ey,j']
theorem EO.snoc{m e:b8}:∀{l:U b8}{b:b8},EO m b l->m<e->EO e b (l++[e])
 |[],b,h,a=>(by have:b=m:=h;simp_all,Y)
 |_::_,_,h,a=>(h.1,EO.snoc h.2 a)
theorem oB(g:U OI):∀e,EO e 0 (dP g e):=by
 intro e;induction e using vj with
 |ind e b=>
  by_cases h:e=0
  ·subst h;rfl
  ·have a:=mq g (e:=e) (jm ‹_›);rw[rN g (jm ‹_›)];exact (b _ a).snoc a
noncomputable def dO(g:U OI):b8->U b8->U (U OI)
 |_,[]=>[]
 |b,e::r=>(g.drop b).take (e - b)::dO g e r
theorem j7(g:U OI):∀(b:b8)(l:U b8),(dO g b l).length=?ll
 |_,[]=>rfl
 |b,e::r=>eG KJ (j7 g e r)
theorem oj(g:U OI):∀(b:b8)(l:U b8)(i:b8),i<?ll->(dO g b l)[i]?=O ((g.drop ((b::l).getD i 0)).take (l.getD i 0 - (b::l).getD i 0))
 |b,e::r,0,_=>rfl
 |b,e::r,i+1,h=>by
  have:=oj g e r i ?x;assumption
theorem pD(h:o5 g=bm):g.all o4=bm:=by
 simp only[o5,eB]at h;exact h.2
theorem rf(a:g.all o4=bm)(a:?lg<=100){b:b8}(a:b<e)(a:e<=?lg):r3 ((g.drop b).take (e - b))=bm:=by
 have ll:((g.drop b).take (e - b)).length=e - b:=by grind
 delta r3
 grind
def iU(g:U OI):c3:=e9 (cP g) g
theorem qY(g:U OI):cP g<5/\rm g (cP g)=O (iA g):=by
 let(M,b,a,_):=qX g;have c:=(bg.mp a).1;refine(c,?_)
 delta rm
 simp only[rl,a,OD b];rfl
theorem wl(g:U OI):bH[cP g]?=O (bH.getD (cP g) ""):=by
 have h:cP g<?lbH:=(qY g).1;simp[ h]
theorem wB(g:U OI):∀n,n<=?lg->(ax (g.take n)).book.length<=(ax (g.take n)).runs/\(0<n->(ax (g.take n)).last∈(ax (g.take n)).book)
 |0,_=>(b2 _,nofun)
 |n+1,h=>by
  let(a,b):=wB g n (dn h);have l:=Y2 (g:=g) (dn h);rw[io h];refine(?_,λ_=>?_)
  ·show (if _ then _ else _:U OI).length<=if _ then _ else _
   grind
  ·show at' g n∈(if _ then _ else _:U OI)
   split <;> simp_all
theorem yR(a:0<?lg)(a:?lg<=8):cP g≠1:=λz=>by
 let(M,b,a,_):=qX g;have c:=(wB g ?lg (b2 _)).1;have d:=Lm g;have d:=qe g;rw[dw]at c;rw[z]at a;generalize ax g=y at *;have c:(3+8+(8+(24+8) * (y.3:cs)))=M:=c_ (c_ a);have a:(cN y)[2]?=O (O (3+8+(6+24 * (?ly.book:cs)+(aL (?ly.book - 1):cs) * y.1))):=by
  show O (lC (if _ then _ else _))=_;rw[du ?o];rfl
 have d:=jN b _ (kM.mpr (a0 a));have k:aL (?ly.book - 1) * y.1<=24/\(?ly.book<=4->aL (?ly.book - 1) * y.1<=16)/\(?ly.book<=2->aL (?ly.book - 1) * y.1<=8)/\(?ly.book<=1->aL (?ly.book - 1) * y.1<=0):=by
  have Ao:∀{k},?ly.book - 1<2 ^ k->aL (?ly.book - 1) * y.1<=k * 8:=λh=>nW (i9 h) ?o;exact(Ao (k:=3) ?o,λ_=>Ao (k:=2) ?o,λ_=>Ao (k:=1) ?o,λ_=>Ao (k:=0) ?o)
 rw[<-c]at d;have:((aL (?ly.book - 1):cs) * y.1)=((aL (?ly.book - 1) * y.1:b8):cs):=Y;omega
theorem Z2(a:0<?lg)(b:?lg<=8):bH.getD (cP g) "" ≠ "runs" :=λz=>yR a b (eY iI (z ▸ wl g) Y)
noncomputable def jU(g:U OI):c3:=bc ((dO g 0 (dP g ?lg)).map iU)
inductive Vw(H:Hp)(l:a_)(bs:U (U OI)):Prop
 |i(X:U a_)(_:H l=O (.lst (X.map V.ref)))(_:?lX=?lbs)(_:∀(j:b8)(a:a_)(b:U OI),X[j]?=O a->bs[j]?=O b->H a=O (.lst (b.map ov)))
inductive Q8(K:bI)(b:U V)(H:Hp)(Q:VK)(_E:XK):Prop
 |i(p e:a_)(g:U OI)(a:U b8)(_:b=[.ref p,.ref e])(_:eb K H p (g.map ov))(_:H e=O (.lst (kN a)))(_:?lg<=1000)(_:EO ?lg 0 a)(_:?la<=1000)(_:∀(l:a_)(A:Hp),aa H A->H l=bd->Vw A l (dO g 0 a)->Q (.ref l) A)
theorem yI:(["begin","end","values"]:U c3).Nodup:=?k
def VZ[T:Gd]:=cD T.D46 1 (Q8 gK) λF=>by
 refine F.o ["values","ends"] λAD A6 Aq K A7 H AE Q E AF h=>?_;let(p,e,g,d,Y,A8,L,A6,ris,K,A9):=h;refine(_,(aj (ay (bf (Ae:=["begin","end","values"]) (fr:=[bd,bd,O 0]) (mQ gK ?r T.iJ (fH (aq jc (bO (e0 ah)) ?B) ?B)) (λAk As A7 H=>(dA gK (n:=2) Y (bv (aF 0 yI) (bv (aF 1 yI) dB)),bh,(gN (uE gK) ?C (eP ?A) (eP ?B))))))),?_);refine(av Y,λG m=>?_);have AA:=aC L m;refine(G,e,_,1,Y,ae,by rw[af AA];exact L,?_,λq K=>?_)
 ·rw[tN];exact dn (rv (show 1+?ld<=10000 by omega))
 have s:aa H (upd (upd H G (.lst [.int 0])) q (.lst ([.int 0]++kN d))):=aG (aa.new m) K;have M:(upd (upd H G (.lst [.int 0])) q (.lst ([.int 0]++kN d))) q=O (.lst (kN (0::d))):=ae;generalize upd (upd H G (.lst [.int 0])) q (.lst ([.int 0]++kN d))=An at s M;have u:=s _ _ L;refine(q,e,_,1,eb.of M,eb.of u,?_);refine⟨rK (λi f A=>aa An A/\∃X:U a_,f=X.map V.ref/\?lX=i/\∀(j:b8) (a) (b),X[j]?=O a->(dO g 0 d)[j]?=O b->A a=O (.lst (b.map ov))) (aa.refl _,[],Y,Y,λj a b e=>by cases e)
  ?ld (by rw[tN,tN,e_];omega) (λi f A n m=>(eb.of (m.1 _ _ M),eb.of (m.1 _ _ u),by let(_,X,e,h,_):=m;rw[e,ai];omega)) (dn (bJ ?o)) ?_ ?_⟩
 ·rintro i x y f H3 N v w n ⟨I,X,rfl,J,P⟩ S;let(Z,A3):=ris.at i n;have ex:x = .int (((0::d).getD i 0:b8):cs):=by
   have:i<(0::d).length:=by rw[e_];omega
   rw[a',a',ag this]at v;cases v;simp only[rl,ag this,oG]
  have A4:y = .int ((d.getD i 0):cs):=by
   rw[a',a',ag n]at w;cases w;simp only[rl,ag n,oG]
  have R:=oj g 0 d i n;generalize (0::d).getD i 0=b at Z ex R;generalize d.getD i 0=c at Z A3 A4 R;subst ex A4;have A5:aa An (upd H3 N (.tup [.int b,.int c])):=aG I S;refine(N,1,fx.of ae,Y,_,1,_,1,Y,(Wk.set Y).trans (Wk.set Y),tT ?_);refine(2,p,1,(s.trans A5).seq A8,λAB B=>?_);rw[YM g ?o A3];have AC:=aG (o:=.lst (((g.drop b).take (c - b)).map ov)) A5 B;refine cw n (AC,X++[AB],by rw[b3];rfl,by simp[J],λj a z C D=>?_);rcases jF C with C |⟨rfl,rfl⟩
  ·have d:=P j a z C D;have m:(upd H3 N (.tup [.int b,.int c])) a=O (.lst (z.map ov)):=by rw[af (aC d S)];exact d
   rw[af (aC m B)];exact m
  ·rw[J,R]at D;cases D;exact ae
 ·rintro f H3 ⟨I,X,rfl,J,P⟩ l d;refine A9 l _ (aG (s.trans I) d) ((s.trans I).free d) (X,ae,by rw[J,j7],λj a b C D=>?_);have:=P j a b C D;rw[af (aC this d)];exact this
inductive Vj(K:bI)(t:Ad)(a:U V)(H:Hp)(Q:VK)(E:XK):Prop
 |i(p:a_)(g:U OI)(_:a=[.ref p])(_:eb K H p (g.map ov))(_:?lg<=8)(_:(o5 g=bm->∀A,aa H A->Q (.str (jU g)) A))(_:(o5 g=b1->∀A,aa H A->E (.ref t.eBadValue) bd A))
theorem xS{l:U c3}(h:∀s∈l,?ls<=k):(l.map (·.length)).sum<=k * ?ll:=by
 induction l with
 |nil=>exact ej _
 |cons a r b=>
  simp only[ey,r1,e_,tj];have:=b λs b=>h s (dz _ b);have:=h a ea
  lia
theorem wj(b:?lg<=1000)(a:g.all o4=bm):(iU g).length<=200011:=by
 delta iU e9
 simp only[dL,dL,c5,c5];have:=wy b a (cP g);exact EV ‹_› _
theorem Vq:(["block"]:U c3).Nodup:=?k
def qv[T:Gd]:=cD T.D47 9 (Vj gK gt) λF=>by
 refine F.oX ["values"] λm q Aq d J H f Q E e h=>?_;let(p,g,Y,q,f,w,d):=h;refine gz (_,(iM (mO gK au (e0 (bf (Ae:=["block"]) (fr:=[bd]) (ba (VZ.pe e ap (fH ?A (XA.pe e bF (e0 ?A))))) (λAk As J H=>(aF 0 Vq,bh,(vE.pe e bW (fH (W3.pe e bW (e0 ?A)) ?A)))))))),?_);refine(Y,p,g,Y,q,f,λok c Ai K e m=>?_,d);have e:=iK ok;have s:=pD ok;have ris:=oB g ?lg;have e:=rL g ?lg;have w:∀A,aa H A->Q (.str (bc ((dO g 0 (dP g ?lg)).map iU))) A:=w ok;generalize dP g ?lg=d at m ris e w;refine(p,c,g,d,Y,K.seq q,m,ce f ?a,ris,?o,λl An P e n=>?_);have R:=j7 g 0 d;have L:=oj g 0 d;let(X,e,q,m):=n;have q:(X.map V.ref).length=?ld:=by rw[ai];omega
 refine(l,Y,(_,eb.of e),lR (ys:=X) (G:=V.ref) (((dO g 0 d).map iU).map V.str) (by simp;omega) (eb.of e) ?o (λi a z q hz H3 f Z x y=>?_) λS H3 x A3 _=>?_)
 ·have f:i<?ld:=by have:=(bg.mp q).1;omega
  let(B,C):=ris.at i f;have u:=L i f;rw[a',a',u]at hz;cases hz;have n:=m i a _ q u;have m:=rf s ?o B C;have M:((g.drop ((0::d).getD i 0)).take (d.getD i 0 - (0::d).getD i 0)).length<=8:=by rw[d8,he];omega
  generalize (g.drop ((0::d).getD i 0)).take (d.getD i 0 - (0::d).getD i 0)=e at u n m M y;let(v,q):=gI m;have v:∀{Z:Prop},r3 e=b1->Z:=λh=>by rw[m]at h;cases h
  let(q,D):=qY e;have q:=wl e;refine(Wk.set Y,tT (a,e,Y,eb.of (x _ _ n),?o,v,λ_ H4 N=>?_));refine(a,e,1,Z2 (il m) M,eb.of ((x.trans N) _ _ n),?o,v,λ_ A4=>cx (a0 q) A4,λ_ j G I=>?_,λ_ j G I A6 A5=>?_)
  ·have:j=cP e:=eY iI G q;subst this;rw[D]at I;cases I
  ·have:j=cP e:=eY iI G q;subst this;exact y _ (N.trans A5)
 refine("",S,(dO g 0 d).map iU,Y,Y,eb.of A3,?_,?_)
 ·have e:=xS (l:=(dO g 0 d).map iU) (k:=200011) λJ q=>by
   let(b,u,Y):=cv.mp q;let(i,q):=ez u;have f:i<?ld:=by
    have:=(bg.mp q).1;omega
   rw[L i f]at q;cases q;let(B,C):=ris.at i f;let(q,f):=gI (rf s ?o B C);exact wj ?o q
  rw[ai,R]at e;have:200011 * ?ld<=200011 * 64:=Nat.mul_le_mul_left _ ?o;show _+_ * 0<=16777216;omega
 ·rw[mh];exact w _ ((K.trans P).trans x)
inductive At(Aj:U b8)(n:b8)(L:U b8):Prop
 |i(a b:_)(_:Aj=a++(L++b))(_:?la=n)
theorem At.left{Aq A0:U b8}(h:At Aj n (Aq++A0)):At Aj n Aq:=by
 let(b,a,e,c):=h;exact(b,A0++a,?x,c)
theorem At.right{Aq A0:U b8}(h:At Aj n (Aq++A0)):At Aj (n+?lAq) A0:=by
 let(b,a,e,c):=h;exact(b++Aq,a,?x,?x)
theorem At.le{L:U b8}(h:At Aj n L):n+?lL<=?lAj:=by
 let(b,a,e,c):=h
 grind
theorem At.cut{L:U b8}(h:At Aj n L):(Aj.drop n).take ?lL=L:=by
 let(b,a,e,c):=h
 grind
theorem wp(n:b8):∀w,bq (cq n w)
 |0=>λc h=>by cases h
 |w+1=>λc h=>by
  rcases bG.mp (show c∈gr n w::cq n w from h) with e |h
  ·rw[e];delta gr;lia
  ·exact wp n w c h
theorem xD(n:b8):∀(w a:b8),(cq n w).foldl (λb c=>b * 2+(c - 48)) a=a * 2 ^ w+n % 2 ^ w
 |0,a=>by
  show a=a * 2 ^ 0+n % 2 ^ 0;rw[Nat.pow_zero,Nat.mul_one,Nat.mod_one];rfl
 |w+1,a=>by
  show (cq n w).foldl (λb c=>b * 2+(c - 48)) (a * 2+(gr n w - 48))=_;rw[xD n w];have b:gr n w - 48=n / 2 ^ w % 2:=by
   delta gr
   by_cases h:n / 2 ^ w % 2=1
   ·simp_all
   ·simp_all
  rw[b,Nat.mod_pow_succ,Nat.add_mul,Nat.pow_succ,Nat.mul_assoc,Em 2 (2 ^ w),Em (n / 2 ^ w % 2)]
  lia
theorem UF(n w:b8):fO (cq n w)=n % 2 ^ w:=by
 delta fO
 rw[xD];simp
noncomputable def ut(Aj:c3)(n:b8):U (c3×V):=[(zzq ("text") (.str Aj)),(zzq ("place") (.int n))]
def bB(Ak:a_)(H:Hp)(r:a_)(Aj:c3)(n:b8):Prop:=∃N,H r=O (.ins Ak N (ut Aj n))
def Kp(r:a_)(H A:Hp):Prop:=∀b o,b≠r->H b=O o->A b=O o
theorem Kp.refl(r:a_)(H:Hp):Kp r H H:=λ_ _ _ e=>e
theorem Kp.trans{d:Hp}(a:Kp r H A)(b:Kp r A d):Kp r H d:=λc o n e=>b c o n (a c o n e)
theorem Kp.of(s:aa H A):Kp r H A:=λc o _ e=>s c o e
theorem Kp.own{o:HO}:Kp r H (upd H r o):=λc a n e=>by exact (af n) ▸ e
theorem bB.same{Aj:c3}(h:bB Ak H r Aj n)(s:aa H A):bB Ak A r Aj n:=by
 let(N,h):=h;exact(N,s _ _ h)
theorem kX{Aj:c3}(h:bB Ak H r Aj n)(a:H b=bd):b≠r:=λz=>by
 let(N,h):=h
 grind
theorem Kp.lst{Aj:c3}{g:U V}(h:bB Ak H r Aj n)(k:Kp r H A)(e:H a=O (.lst g)):A a=O (.lst g):=by
 refine k a _ (λz=>?_) e;let(N,h):=h;rw[z,h]at e;cases e
theorem Kp.new{l:a_}{o:HO}(k:Kp r H Ai)(h:Ai l=bd):Kp r H (upd Ai l o):=λb a n e=>by
 have:=k b a n e;rw[af (aC this h)];omega
theorem bB.new{l:a_}{Aj:c3}{o:HO}(R:bB Ak Ai r Aj n)(h:Ai l=bd):bB Ak (upd Ai l o) r Aj n:=by
 let(N,hR):=id R;exact(N,by exact (af (kX R h).symm) ▸ hR)
theorem Kp.free{l:a_}{Aj:c3}(k:Kp r H Ai)(R:bB Ak Ai r Aj n)(h:Ai l=bd):H l=bd:=by
 cases e:H l with
 |none=>rfl
 |some o=>rw[k l o (kX R h) e]at h;cases h
theorem bB.put{l:a_}{Aj:c3}{o:HO}{a:U V}(R:bB Ak Ai r Aj n)(h:Ai l=O (.lst a)):bB Ak (upd Ai l o) r Aj n:=by
 let(N,hR):=R;exact(N,by rw[af (λz=>by grind)];exact hR)
theorem Kp.put{l:a_}{o:HO}(k:Kp r H Ai)(h:H l=bd):Kp r H (upd Ai l o):=λb a n e=>by
 exact (af (aC e h)) ▸ (k b a n e)
inductive M6(t:Ad)(a:U V)(H:Hp)(Q:VK)(E:XK):Prop
 |i(r:a_)(Aj:c3)(n k:b8)(_:a=[.ref r,.int k])(_:bB t.cReader H r Aj n)(_:bq Aj.cps.1)(_:?lAj<=16777216)(_:k<=640)(_:(n+k<=?lAj->∀A,Kp r H A->bB t.cReader A r Aj (n+k)->Q (.int (fO ((Aj.cps.toList.drop n).take k))) A))(_:(?lAj<n+k->∀A,aa H A->E (.ref t.eBadBits) bd A))
def lF[T:Gd]:=cM T.D27 1 (M6 gt) λF=>by
 refine F.oX ["self","width","end","taken"] λd b Aq a s H e Q E f h=>?_;let(r,Aj,n,k,Y,(N,hR),f,hz,g,b,e):=h;have a:?lAj<=bT:=by rw[e2];exact hz
 refine(_,(ak (aD 2 d (aq aT (bp gK ?A Y) ?B))
  (ak (aI (aE fv ?C (aH oo ?r T.be z4 (e0 (bp gK ?A Y)))) (aj (cU cY T.zbt Y ?r T.rZ (e0 au)))
   aK)
  (ak (aD 3 d (gN Ld (bp gK ?A Y) (eP (bp gK ?A Y)) (eP ?C)))
  (ak (cF ?A ?C Y)
  (aj (ay (cT (aE fv ?B ah) (fw N5 ?r T.mD z2 (fH ?E ah)) ah))))))),?_)
 refine(r,_,N,_,1,hR,T.cr,T.js,Y,_,1,Y,?_);refine(r,_,N,_,1,hR,T.cr,T.lK,Y,Aj,Y,a,_,1,Y,1,?_);by_cases c:?lAj<n+k
 ·exact dT (show (?lAj)<(n)+(k:cs) by omega) (?a,e c H (aa.refl H))
 ·rw[c4 (show ¬ (?lAj)<(n)+(k:cs) by omega)];refine(r,_,N,_,1,hR,T.cr,T.lK,Y,r,_,N,_,1,hR,T.cr,T.js,Y,2,Aj,n,n+k,Y,Y,Y,?o,?o,a,?_);refine(r,_,N,1,hR,T.cr,T.js,by show 2<1000;decide,?_);have a:bB gt.cReader (upd H r (.ins gt.cReader N (cV "place" (.int ((n)+(k))) (ut Aj n)))) r Aj (n+k):=(N,ae)
  have b:=b ?o _ Kp.own a;refine(_,1,Y,1,?_);by_cases c0:k=0
  ·subst c0;exact ao b
  ·rw[dg (show (0)<(k:cs) by omega)];have a:((Aj.cps.toList.drop n).take k).length=k:=by
    rw[d8,he];show min k (?lAj - n)=k;omega
   have d:n+k - n=k:=?o
   refine aA (1,?_,?_,?_,?_)
   ·intro j e;exact f j (List.mem_of_mem_drop (qU e))
   ·intro z;have z:(Aj.cps.toList.drop n).take (n+k - n)=[]:=z;rw[d]at z;rw[z]at a;exact c0 ?ya
   ·show ((Aj.cps.toList.drop n).take (n+k - n)).toArray.size<=640;rw[d,b7,a];exact g
   ·show Q (.int (fO ((Aj.cps.toList.drop n).take (n+k - n)))) _;rw[d];exact b
inductive Ug(t:Ad)(a:U V)(H:Hp)(Q:VK)(_E:XK):Prop
 |i(r:a_)(Aj:c3)(n:b8)(_:a=[.ref r])(_:bB t.cReader H r Aj n)(_:?lAj<=16777216)(_:Q (.bl (decide (n<?lAj))) H)
def ON[T:Gd]:=cM T.D28 1 (Ug gt) λF=>by
 refine F.o ["self"] λq b Aq a s H d Q E f h=>?_;let(r,Aj,n,Y,(N,hR),hz,q):=h;have a:?lAj<=bT:=by rw[e2];exact hz
 refine(_,(aj (ay (eN pH (bp gK ?A Y) (aH oo ?r T.be z4 (e0 (bp gK ?A Y)))))),?_);refine(r,_,N,_,1,hR,T.cr,T.js,Y,r,_,N,_,1,hR,T.cr,T.lK,Y,Aj,Y,a,_,1,Y,?_);have e:decide ((n)<(?lAj:cs))=decide (n<?lAj):=by
  by_cases c:n<?lAj
  ·rw[dg c,dg (show (n)<(?lAj:cs) by omega)]
  ·rw[c4 c,c4 (show ¬ (n)<(?lAj:cs) by omega)]
 rw[e];exact q
inductive UJ(t:Ad)(a:U V)(H:Hp)(Q:VK)(_E:XK):Prop
 |i(r:a_)(Aj:c3)(b n:b8)(_:a=[.ref r,.int b])(_:bB t.cReader H r Aj n)(_:?lAj<=16777216)(_:b<=n)(_:n<=?lAj)(_:Q (.str ⟨((Aj.cps.toList.drop b).take (n - b)).toArray⟩) H)
def VF[T:Gd]:=cM T.D29 1 (UJ gt) λF=>by
 refine F.o ["self","place"] λd c Aq a s H q Q E e h=>?_;let(r,Aj,b,n,Y,(N,hR),hz,c,d,q):=h;have a:?lAj<=bT:=by rw[e2];exact hz
 refine(_,(aj (ay (gN Ld (bp gK ?A Y) (eP ?B) (eP (bp gK ?A Y))))),?_);exact(r,_,N,_,1,hR,T.cr,T.lK,Y,1,r,_,N,_,1,hR,T.cr,T.js,Y,1,Aj,b,n,Y,Y,Y,c,d,a,q)
inductive VP(t:Ad)(a:U V)(H:Hp)(Q:VK)(E:XK):Prop
 |i(p N:a_)(Aj:c3)(_:a=[.ref p,.str Aj])(_:H p=O (.ins t.cReader N []))(_:?lAj<=16777216)(_:(bq Aj.cps.1->∀A:Hp,bB t.cReader A p Aj 0->(∀b,b≠p->A b=H b)->Q .non A))(_:(¬ bq Aj.cps.1->∀A,aa H A->E (.ref t.eBadBits) bd A))
theorem Nx(l:U b8):(l.count 48+l.count 49<=?ll)/\(l.count 48+l.count 49=?ll↔bq l):=by
 induction l with
 |nil=>exact(b2 _,(λ_ c h=>(by cases h),λ_=>rfl))
 |cons c r a=>
  let(f,b):=a;have a:bq (c::r)↔(c=48\/c=49)/\bq r:=(λh=>(h c ea,λd hd=>h d (dz _ hd)),λh d hd=>(bG.mp hd).elim (λe=>?x) (h.2 d))
  simp only[a,<-b];by_cases a:c=48
  ·subst a;simp
   lia
  ·by_cases b:c=49
   ·subst b;simp
    lia
   ·have f:(c ==48)=b1:=by simpa using a
    simp[a,b]
    lia
def S7[T:Gd]:=cI T.D30 1 (VP gt) λF=>by
 refine F.oX ["self","text"] λe d Aq a s H f Q E g h=>?_;let(p,N,Aj,Y,d,hz,e,f):=h;have a:?lAj<=bT:=by rw[e2];exact hz
 refine(_,(ak (aI (aE eK (aq aT (bX gK w_ w' xl yx ?B (e0 au)) (bX gK w_ w' xl yx ?B (e0 au))) (aH oo ?r T.be z4 (e0 ?B))) (aj (cU cY T.zbt Y ?r T.rZ (e0 au)))
   aK)
  (ak (cF ?A ?B Y)
  (aj (cF ?A ah Y)))),?_)
 refine(Y,Aj,"0",Y,Y,Y,Aj,"1",Y,Y,_,1,Y,Aj,Y,a,Y,1,?_);rw[hO];have g:Txt.count Aj "0" =((Aj.cps.toList.count 48):cs):=by rw[yh];exact LO Aj 48
 have j:Txt.count Aj "1" =((Aj.cps.toList.count 49):cs):=by rw[yi];exact LO Aj 49
 have a:?lAj.cps.toList=?lAj:=ee;let(s,a):=Nx Aj.cps.1;rw[g,j];by_cases c:bq Aj.cps.1
 ·have:=a.mpr c;rw[dg (show (((Aj.cps.toList.count 48):cs)+((Aj.cps.toList.count 49):cs))=(?lAj) by omega)];refine(p,gt.cReader,N,1,d,T.cr,T.lK,?a,?_);refine(p,gt.cReader,N,1,ae,T.cr,T.js,by show 1<1000;decide,?_);exact e c _ (N,ae) λb d=>by rw[af d,af d]
 ·have:¬ Aj.cps.toList.count 48+Aj.cps.toList.count 49=?lAj.cps.toList:=λz=>c (a.mp z);exact nT (show ¬ (((Aj.cps.toList.count 48):cs)+((Aj.cps.toList.count 49):cs))=(?lAj:cs) by omega) (?a,f c H (aa.refl H))
theorem rC{o:OI}(h:o4 o=bm):T1.iW o<2 ^ 24:=by
 cases o with
 |none=>decide
 |some i=>
  have:=T1.kP h;show (i+4000001).toNat<2 ^ 24
  lia
theorem Tg(d:cs):(if bS d % 2=0 then bS d / 2 else -(bS d / 2) - 1)=d:=by
 delta bS
 by_cases h:0<=d
 ·simp_all
 ·rw[du h];omega
theorem Oc{Aj:c3}{v:b8}(h:At Aj.cps.1 n (cq v k))(c:v<2 ^ k):n+k<=?lAj/\fO ((Aj.cps.toList.drop n).take k)=v:=by
 have a:=h.le;have b:=h.cut;rw[gZ]at a b;exact(a,by simp only[b,UF,Nat.mod_eq_of_lt c])
theorem gU{Aj:c3}{v:b8}(R:bB gt.cReader H r Aj n)(a:bq Aj.cps.1)(hz:?lAj<=16777216)(b:k<=640)(h:At Aj.cps.1 n (cq v k))(c:v<2 ^ k)(q:∀A,Kp r H A->bB gt.cReader A r Aj (n+k)->Q (.int (v:cs)) A):M6 gt [.ref r,.int (k:cs)] H Q E:=by
 let(d,e):=Oc h c;refine(r,Aj,n,k,Y,R,a,hz,b,λ_ A c f=>?_,λz=>cx d (Nat.not_le_of_lt ‹_›));rw[e];exact q A c f
theorem GV{v:V}(h:Ay [x,v] H Q E):fe (tC v) fD σ H (λa An=>Ay (x::(a++[])) An Q E):=h
theorem Kq{v:V}(a:σ[i]?=O (O v))(h:Ay [x,v] H Q E):fe (Iy i) fD σ H (λb An=>Ay (x::(b++[])) An Q E):=by delta fe Iy;rw[a];exact h
inductive YQ(t:Ad)(a:U V)(H:Hp)(Q:VK)(_E:XK):Prop
 |i(r:a_)(Aj:c3)(n:b8)(o:OI)(_:a=[.ref r])(_:bB t.cReader H r Aj n)(_:bq Aj.cps.1)(_:?lAj<=16777216)(_:o4 o=bm)(_:At Aj.cps.1 n (dU o).cps.toList)(_:∀A,Kp r H A->bB t.cReader A r Aj (n+24)->Q (ov o) A)
def Xj[T:Gd]:=cD T.D31 3 (YQ gt) λF=>by
 let(a,q,b,c,d):=lF;refine F.o ["reader","number"] λe a Aq q s H g Q E f h=>?_;let(r,Aj,n,o,Y,R,g,hz,a,j,q):=h;refine(_,(ak (aD 1 e (aX ?A T.cr c b (f.mono ?a) d .nil bW (e0 (bn T.iF))))
  (aj (ay (cT (aE aW ?B ah) a9 (aq cE ?B (bn T.oR)))))),?_)
 let(N,hR):=id R;refine(r,N,1,hR,Y,GV (gU R g hz ?a j (rC a) λAi b c=>?_));have q:=q Ai b c;refine(Y,1,?_);rw[hO];cases o with
 |none=>exact aA q
 |some i=>
  have b:=kP a;have a:((iW (O i):b8):cs)=i+4000001:=by
   show (((i+4000001).toNat:b8):cs)=_;omega
  rw[a,c4 (show ¬ i+4000001=0 by omega)];refine ao (_,1,Y,?_);rw[show i+4000001 - 4000001=i by omega];exact q
theorem Ss(g:U OI):(d5 g).cps.toList=(g.map λo=>(dU o).cps.toList).flatten:=by
 delta d5
 simp only[ie,d_];rfl
theorem wc{f:α->U b8}{l:U α}(c:∀a,(f a).length=k)(h:At Aj n ((l.map f).flatten))(i:b8)(a:α)(e:l[i]?=O a):At Aj (n+k * i) (f a):=by
 induction l generalizing n i with
 |nil=>cases e
 |cons b r d=>
  rw[ey,j']at h;cases i with
  |zero=>cases e;exact h.left
  |succ i=>
   rw[tj,q5 (k * i),<-r6];exact d (c b ▸ h.right) i e
theorem rG{Ap:U α}(F:α->V){lo:cs}{w:b8}{Aj:c3}{Ao:TG}(R:bB Ak H r Aj n)(hz:?lAp<=1000)(f:∀(i:b8) y,Ap[i]?=O y->∀A (c:VK) (Z:Hp->Prop),bB Ak A r Aj (n+w * i)->(∀An,Kp r A An->bB Ak An r Aj (n+w * i+w)->c (F y) An)->Ao (.int (lo+i)) (stC fr σ) A λa An=>Wk (stC fr σ) a/\A2 a An λb H3=>if b=bm then A1 a H3 c else Z H3)(hd:∀p A,Kp r H A->bB Ak A r Aj (n+w * ?lAp)->A p=O (.lst (Ap.map F))->H p=bd->Q (.ref p) A):ff fr (FE lo ?lAp) Ao A2 A1 σ H Q:=by
 refine⟨kj (λi a A=>Kp r H A/\bB Ak A r Aj (n+w * i)/\a=(Ap.take i).map F) (Kp.refl _ _,R,Y) (λi a A c h=>by rw[h.2.2,ai];exact hY ..) (dn (bJ hz)) (λi a A c h=>?_) λa A h p d=>?_⟩
 ·let(k,a,Y):=h;have e:=ag c;exact f i _ e A _ _ a λAn f R2=>cw c (k.trans f,by rw[tj,<-r6];exact R2,by rw[ei,e,b3];rfl)
 ·let(k,a,Y):=h;rw[dw];exact hd p _ (k.new d) (a.new d) ae (k.free a d)
inductive KR(t:Ad)(a:U V)(H:Hp)(Q:VK)(_E:XK):Prop
 |i(r:a_)(Aj:c3)(n:b8)(g:U OI)(_:a=[.ref r,.int ?lg])(_:bB t.cReader H r Aj n)(_:bq Aj.cps.1)(_:?lAj<=16777216)(_:?lg<=1000)(_:g.all o4=bm)(_:At Aj.cps.1 n (d5 g).cps.toList)(_:∀(l:a_)(A:Hp),Kp r H A->H l=bd->bB t.cReader A r Aj (n+24 * ?lg)->A l=O (.lst (g.map ov))->Q (.ref l) A)
theorem SH:(["place","reader"]:U c3).Nodup:=?k
def vG[T:Gd]:=cD T.D32 4 (KR gt) λF=>by
 refine F.o ["reader","length"] λf c Aq b s H j Q E d h=>?_;let(r,Aj,n,g,Y,R,f,hz,j,b,c,q):=h;rw[Ss]at c;have m:=λi a e=>wc (λo=>by exact gZ _ _) c i a e;refine(_,(aj (ay (bf (Ae:=["place","reader"]) (fr:=[bd,O 0]) (gO ?r T.eZ (e0 ?B)) (λAk As s H=>(aF 0 SH,bh,(Xj.pe d ap (e0 ?B))))))),?_);refine(1,?o,?o,?_);rw[e4];exact rG (Ap:=g) ov R j (λi o d Ai j Z c y=>(Wk.set Y,tT (r,Aj,n+24 * i,o,Y,c,f,hz,dv.mp b _ (a0 d),m i _ d,y))) λl Ai b c d f=>q l _ b f c d
inductive ng(t:Ad)(j:b8)(a:U V)(H:Hp)(Q:VK)(_E:XK):Prop
 |i(r:a_)(Aj:c3)(n:b8)(g:U OI)(_:a=[.ref r,.int ?lg])(_:bB t.cReader H r Aj n)(_:bq Aj.cps.1)(_:?lAj<=16777216)(_:r3 g=bm)(_:rm g j≠.none)(_:At Aj.cps.1 n (dX j g).cps.toList)(_:∀(l:a_)(A:Hp),Kp r H A->H l=bd->bB t.cReader A r Aj (n+(dX j g).length)->A l=O (.lst (g.map ov))->Q (.ref l) A)
theorem X4{a:U V}(h:ng gt 0 a H Q E):KR gt a H Q E:=by
 let(r,Aj,n,g,e,R,b,hz,a,_,c,q):=h;let(d,f):=gI a;refine(r,Aj,n,g,e,R,b,hz,?l,d,c,λl A k a f j=>q l A k a ?_ j);show bB gt.cReader A r Aj (n+(d5 g).length);rw[pN];exact f
theorem yN(h:i<=n):i<2 ^ aL n:=by
 rw[tQ];by_cases e:n=0
 ·simp_all
 ·rw[du e];exact gi h Nat.lt_log2_self
theorem Nc(h:rm g 2≠.none):(ax g).book.length<=64:=by
 by_cases c:64<(ax g).book.length
 ·refine cx ?_ h;show lC (if 64<(ax g).book.length then .none else _)=_;rw[d6 c];rfl
 ·exact mx ‹_›
theorem qR{Ao:α->b8}{l:U α}(h:At Aj n ((l.map λa=>(cR (Ao a) k).cps.toList).flatten))(i:b8)(a:α)(e:l[i]?=O a):At Aj (n+k * i) (cq (Ao a) k):=
 wc (λa=>by exact gZ _ _) h i a e
theorem OL:(["place","width","reader"]:U c3).Nodup:=?k
theorem O1:(["number","book"]:U c3).Nodup:=?k
def QY[T:Gd]:=cD T.D33 5 (ng gt 2) λF=>by
 let(f,c,A,B,C):=lF;refine F.o ["reader","length","entries","book","width","numbers"] λj f Aq c D H s Q E m h=>?_;let(r,Aj,n,g,Y,R,p,hz,c,f,d,q):=h;let(s,w):=gI c;have u:=il c;have c:(dX 2 g).length=6+24 * (ax g).book.length+aL ((ax g).book.length - 1) * ?lg:=wz g;rw[c]at q;have d:At Aj.cps.1 n (cq ((ax g).book.length - 1) 6++((d5 (ax g).book).cps.toList++(g.map λv=>(cR ((ax g).book.idxOf v) (aL ((ax g).book.length - 1))).cps.toList).flatten)):=by
  have e:(dX 2 g).cps.toList=cq ((ax g).book.length - 1) 6++((d5 (ax g).book).cps.toList++(g.map λv=>(cR ((ax g).book.idxOf v) (aL ((ax g).book.length - 1))).cps.toList).flatten):=by
   show (jx g).cps.toList=_;unfold jx;rw[eD,eD,ie,d_,mc];rfl
  rw[<-e];exact d
 have c:=Nc f;have f:=wA g;have b:=tH (g:=g) ?lg;rw[dw]at b;generalize (ax g).book=I at q d c f b;have f:0<?lI:=ma ((b _ (b2 _)).mpr (a0 (getD_at' u)));have w:I.all o4=bm:=dv.mpr λv x=>dv.mp s v ((b v (b2 _)).mp x);have f:aL (?lI - 1)<=6:=i9 ?o;have c:=d.right;rw[gZ]at c;have f:=c.right;rw[ee,show (d5 I).cps.size=24 * ?lI from pN I]at f;have x:=λi a e=>qR f i a e;refine(_,(ak (aD 2 j (aq aT (aX ?A T.cr B A (m.mono ?a) C .nil bW (e0 (bn T.sj))) ah))
  (ak (aD 3 j (vG.pe m ap (fH ?A ?C)))
  (ak (aD 4 j (jY.pe m ap (e0 (aq cE ?C ah))))
  (ak (gR 5 j (Ae:=["place","width","reader"]) (fr:=[bd,O 4,O 0]) (gO ?r T.eZ (e0 ?B)) (λAk As D H=>(aF 0 OL,bh,(aX ?C T.cr B A (m.mono ?a) C .nil bW (e0 ?B)))))
  (ak (aI (aE tY (aH (W8 gK Y) ?r T.tR z' (e0 ?H)) ?C) pQ
   aK)
  (aj (ay (bf (Ae:=["number","book"]) (fr:=[bd,O 3]) (ba ?H) (λAk As D H=>(aF 0 O1,bh,(nC gK ?B ?A))))))))))),?_)
 let(N,hR):=id R;refine(r,N,1,hR,Y,GV (gU (k:=6) R p hz ?a d.left (show ?lI - 1<2 ^ 6 by omega) λAi s f=>?_));have A:((?lI - 1:b8):cs)+1=(?lI:cs):=?o
 refine(_,1,Y,r,Aj,n+6,I,?_,f,p,hz,?o,w,c.left,λlb An j d R2 G=>?_)
 ·show [V.ref r,V.int (((?lI - 1:b8):cs)+1)]=_;rw[A]
 have m:=s.trans j;have c:=s.free f d;have s:lb≠r:=kX f d;refine(_,1,Y,1,?o,?_);have f:(((?lI - 1:b8):cs)+1 - 1).toNat=?lI - 1:=?o
 rw[f];refine(1,?o,?o,?_);rw[e4];refine rG (Ap:=g) (λv=>.int ((I.idxOf v:b8):cs)) (w:=aL (?lI - 1)) R2 ?o (λi v j H3 J Z B y=>?_) λw H4 C D d _=>?_
 ·let(f,A):=id B;have c:I.idxOf v<?lI:=e5 ((b _ (b2 _)).mpr (a0 j));exact(Wk.set Y,tT (r,f,1,A,Y,Kq Y (gU (k:=aL (?lI - 1)) B p hz ?o (x i _ j) (yN (i:=I.idxOf v) (n:=?lI - 1) ?o) y)))
 have d:H4 w=O (.lst ((g.map λv=>((I.idxOf v:b8):cs)).map V.int)):=by rw[d,d_];rfl
 have B:=C lb _ s G;let(M,A):=tG (l:=g.map λv=>((I.idxOf v:b8):cs)) (by intro z;rw[List.map_eq_nil_iff.mp z]at u;cases u);have f:=ph A;have s:M<(?lI:cs):=by
  let(v,s,Y):=cv.mp f;have:=e5 ((b v (b2 _)).mpr s);omega
 refine(w,_,M,Y,eb.of d,f,tF A,_,1,Y,1,?_);refine dF (show ¬ (((?lI - 1:b8):cs)+1)<=M by omega) ?_;refine(w,Y,(_,eb.of d),eC (ys:=g) (G:=λv=>.int ((I.idxOf v:b8):cs)) ov (by rw[d_]at d;exact eb.of d) ?o (λi v j s J f y=>?_) λl s f A p=>?_)
 ·have c:I.idxOf v<?lI:=e5 ((b _ (b2 _)).mpr (a0 j));exact(Wk.set Y,lb,_,_,1,Y,eb.of (f _ _ B),cf (by rw[a',ag c,n6 c];rfl),y _ (.refl _))
 ·have c:Kp r H H4:=m.trans C;refine q l _ (c.trans (Kp.of f)) (c.free D p) ?_ A;rw[show n+(6+24 * ?lI+aL (?lI - 1) * ?lg)=n+6+24 * ?lI+aL (?lI - 1) * ?lg by omega];exact D.same f
theorem xu{C:U cs}(h:At Aj n (eE C).cps.toList):At Aj n (cq (aL (bC C).toNat) 5)/\At Aj (n+5) ((C.map λm=>(cR ?im (aL (bC C).toNat)).cps.toList).flatten):=by
 have e:(eE C).cps.toList=cq (aL (bC C).toNat) 5++(C.map λm=>(cR ?im (aL (bC C).toNat)).cps.toList).flatten:=by
  delta eE
  simp only[eD,ie,d_];rfl
 rw[e]at h;exact(h.left,h.right)
theorem LD{C:U cs}(h:m∈C):?im<2 ^ aL (bC C).toNat:=by
 have:=Yg C m (dz _ h);exact yN ?l
theorem X8:(["place","width","reader"]:U c3).Nodup:=?k
theorem Xb:(["number","least"]:U c3).Nodup:=?k
def ZO[T:Gd]:=cD T.D34 3 (ng gt 3) λF=>by
 let(b,c,q,s,u):=lF;refine F.o ["reader","length","least","width","numbers"] λv c Aq b C H j Q E w h=>?_;let(r,Aj,n,g,Y,R,A,hz,b,c,j,B):=h;let(c,d):=gI b;have d:=il b;have b:(dX 3 g).length=24+(5+aL (bC (g.map (above (bj g)))).toNat * ?lg):=Qq g;rw[b]at B;have j:At Aj.cps.1 n ((dU (O (bj g))).cps.toList++(eE (g.map (above (bj g)))).cps.toList):=by
  have e:(dX 3 g).cps.toList=(dU (O (bj g))).cps.toList++(eE (g.map (above (bj g)))).cps.toList:=by
   show (iT g).cps.toList=_;unfold iT;rw[eD]
  rw[<-e];exact j
 have b:=sY c;have d:=kP b;have d:=nX c;have c:=j.right;let(D,p):=xu c;let(c,I):=qg (k:=2 ^ 30) ?a d;have I:aL (bC (g.map (above (bj g)))).toNat<=30:=i9 ?o;have G:=λi a e=>qR p i a e;have c:=λm h=>LD (C:=g.map (above (bj g))) (m:=m) h;generalize aL (bC (g.map (above (bj g)))).toNat=f at B D p I G c;refine(_,(ak (aD 2 v (aq cE (aX ?A T.cr s q (w.mono ?a) u .nil bW (e0 (bn T.iF))) (bn T.oR)))
  (ak (aD 3 v (aX ?A T.cr s q (w.mono ?a) u .nil bW (e0 (bn T.l9))))
  (ak (gR 4 v (Ae:=["place","width","reader"]) (fr:=[bd,O 3,O 0]) (gO ?r T.eZ (e0 ?B)) (λAk As C H=>(aF 0 X8,bh,(aX ?C T.cr s q (w.mono ?a) u .nil bW (e0 ?B)))))
  (aj (ay (bf (Ae:=["number","least"]) (fr:=[bd,O 2]) (ba ?G) (λAk As C H=>(aF 0 Xb,bh,(cT (aE aW ?A ah) a9 (aq cE (aq aT ?B ?A) ah)))))))))),?_)
 let(N,hR):=id R;refine(r,N,1,hR,Y,GV (gU (k:=24) R A hz ?a j.left (rC b) λAi I s=>?_));have J:((iW (O (bj g)):b8):cs) - 4000001=bj g:=by
  show (((bj g+4000001).toNat:b8):cs) - 4000001=_;omega
 let(b,j):=id s;refine(_,1,Y,r,b,1,j,Y,GV (gU (k:=5) s A hz ?a D (show f<2 ^ 5 by omega) λAn q R2=>?_));refine(1,?o,?o,?_);rw[e4];refine rG (Ap:=g) (λo=>.int (above (bj g) o)) (w:=f) R2 ?o (λi o j H3 D Z v y=>?_) λK H4 L w C _=>?_
 ·let(s,u):=id v;have ex:(g.map (above (bj g)))[i]?=O (above (bj g) o):=by rw[a',j];rfl
  have b:=a0 ex;have y:=λAn q R2=>y An q R2;rw[show V.int (above (bj g) o)=V.int ((above (bj g) o).toNat:cs) by rw[la (d _ b).1]]at y;exact(Wk.set Y,tT (r,s,1,u,Y,Kq Y (gU (k:=f) v A hz ?o (G i _ ex) (c _ b) y)))
 refine(K,Y,(_,eb.of C),eC (ys:=g) (G:=λo=>.int (above (bj g) o)) ov (eb.of C) ?o (λi o j b D c y=>(Wk.set Y,Y,1,?_)) λl b c d s=>?_)
 ·have b:=a0 j;rw[hO];cases o with
  |none=>exact aA (y _ (.refl _))
  |some z=>
   have j:0<=z - bj g:=by
    obtain⟨m,j⟩:∃m,cC (bw g)=O m:=by
     cases p:bw g with
     |nil=>have:=kM.mpr (b);rw[p]at this;cases this
     |cons x r=>exact⟨_,Y⟩
    have:=jN j z (kM.mpr (b));have:bj g=m:=by unfold bj;rw[j];rfl
    omega
   refine dF (show ¬ above (bj g) (O z)=0 by show ¬ z - bj g+1=0;omega) (_,1,Y,_,1,Y,?_);rw[J,show bj g+above (bj g) (O z) - 1=z by show bj g+(z - bj g+1) - 1=z;omega];exact y _ (.refl _)
 ·have b:Kp r H H4:=(I.trans q).trans L;refine B l _ (b.trans (Kp.of c)) (b.free w s) ?_ d;rw[show n+(24+(5+f * ?lg))=n+24+5+f * ?lg by omega];exact w.same c
inductive ZT(a:U V)(H:Hp)(Q:VK)(_E:XK):Prop
 |i(d:cs)(_:a=[.int (bS d)])(_:Q (.int d) H)
def ZF[T:Gd]:=cD T.D35 1 ZT λF=>by
 refine F.o ["number"] λb q Aq a s H e Q E f h=>?_;let(d,Y,q):=h;have a:=Tg d;have b:=rV d;generalize bS d=m at a b;refine(_,(aj (ay (cT (aE aW (aq bV ?A ah) ah) (aq gJ ?A ah) (aq cE (fz fE (aq gJ ?A ah)) ah)))),?_);refine(_,1,Y,?a,Y,1,?_);rw[hO];by_cases c:m % 2=0
 ·rw[d6 c]at a;refine dT c (_,1,Y,(?a,?a),?_);rw[a];exact q
 ·rw[du c]at a;refine dF c (_,1,Y,(?a,?a),1,_,1,Y,?_);rw[a];exact q
def Ro[T:Gd]:=cD T.D36 3 (ng gt 4) λF=>by
 let(b,d,v,w,B):=lF;refine F.o ["reader","length","values","width","place"] λC d Aq b s H f Q E j h=>?_;let(r,Aj,n,g,Y,R,D,hz,b,f,s,x):=h;let(d,u):=gI b;have u:=il b;have y:=MG f;have b:(dX 4 g).length=24+(5+aL (bC (s9 g ?lg)).toNat * (s9 g ?lg).length):=TH g;rw[b]at x;have s:At Aj.cps.1 n ((dU (at' g 0)).cps.toList++(eE (s9 g ?lg)).cps.toList):=by
  have e:(dX 4 g).cps.toList=(dU (at' g 0)).cps.toList++(eE (s9 g ?lg)).cps.toList:=by
   show (jg g).cps.toList=_;unfold jg;rw[eD]
  rw[<-e];exact s
 have b:o4 (at' g 0)=bm:=dv.mp d _ (a0 (getD_at' u));have L:=nj d ?lg;have d:=s.right;let(I,J):=xu d;let(d,f):=qg (k:=2 ^ 30) ?a L;have K:aL (bC (s9 g ?lg)).toNat<=30:=i9 ?o;have M:=λi a e=>qR J i a e;have p:=λm h=>LD (C:=s9 g ?lg) (m:=m) h;obtain⟨d,G⟩:∃d,?lg=d+1:=(?lg - 1,?o)
 have P:(s9 g ?lg).length=d:=by rw[G,jh]
 have sg:∀i,i<d->(s9 g ?lg)[i]?=O (bS ((at' g (i+1)).getD 0 - (at' g i).getD 0)):=by
  have f:∀m i,i<m->(s9 g (m+1))[i]?=O (bS ((at' g (i+1)).getD 0 - (at' g i).getD 0)):=by
   intro m;induction m with
   |zero=>intro i q;omega
   |succ m S=>
    intro i q;rw[uL];by_cases c:i<m
    ·rw[f1 (by rw[jh];exact c)];exact S i c
    ·have:i=m:=?o
     subst this;rw[ge (by rw[jh];exact b2 _),jh,q4];rfl
  intro i q;rw[G];exact f d i q
 rw[P]at x;generalize aL (bC (s9 g ?lg)).toNat=f at x I J K M p;refine(_,(ak (aD 2 C (bO (e0 (aq cE (aX ?A T.cr w v (j.mono ?a) B .nil bW (e0 (bn T.iF))) (bn T.oR)))))
  (ak (aD 3 C (aX ?A T.cr w v (j.mono ?a) B .nil bW (e0 (bn T.l9))))
  (ak (dk ev Y (gO ?r T.eZ (e0 (aq cE ?B ah))) (aF 4 C)
   (aj (aV (bX gK d2 eH eL gE ?C (e0 (aq aT (nC gK ?C (fz fE ah)) (ZF.pe j ap (e0 (aX ?A T.cr w v (j.mono ?a) B .nil bW (e0 ?E))))))))))
  (aj (ay ?C))))),?_)
 let(N,hR):=id R;refine(r,N,1,hR,Y,GV (gU (k:=24) R D hz ?a s.left (rC b) λAi v j=>?_));have w:((iW (at' g 0):b8):cs) - 4000001=(at' g 0).getD 0:=by
  let(z,s):=ρ y u;have:=kP (s ▸ b);rw[s];show (((z+4000001).toNat:b8):cs) - 4000001=z;omega
 refine(_,1,Y,av Y,λl b=>?_);have B:(upd Ai l (.lst [V.int (((iW (at' g 0):b8):cs) - 4000001)])) l=O (.lst ((g.take 1).map ov)):=by
  rw[ae,w,ji u,<-mG y u];rfl
 have w:=v.new (o:=.lst [V.int (((iW (at' g 0):b8):cs) - 4000001)]) b;have R2:=j.new (o:=.lst [V.int (((iW (at' g 0):b8):cs) - 4000001)]) b;have s:=v.free j b;have u:=kX j b;let(b,j):=id R2;refine(r,b,1,j,Y,GV (gU (k:=5) R2 D hz ?a I (show f<2 ^ 5 by omega) λH3 v J=>?_));refine(_,1,Y,1,?o,?o,?_);rw[show ((?lg:cs) - 1).toNat=d by omega];refine⟨oK (λi σ A=>∃C:b5 V,σ=[O (.ref r),O (.int ?lg),O (.ref l),O (.int f),C]/\Kp r H A/\bB gt.cReader A r Aj (n+24+5+f * i)/\A l=O (.lst ((g.take (i+1)).map ov))) (bd,Y,w.trans v,J,v l _ u B) ?_ ?_⟩
 ·rintro i σ H4 q ⟨C,rfl,I,B,j⟩;let(J,K):=id B;have v:i<?lg:=?o
  have w:i+1<?lg:=?o
  have ex:=sg i q;have b:=a0 ex;let(q,_):=L _ b;have L:s8 ((g.take (i+1)).map ov) (-1)=O (.int ((at' g i).getD 0)):=by
   rw[ji v,b3,<-mG y v];exact oh _ _
  refine(.inl (Y,_,eb.of j),(1),Y,l,_,_,1,Y,eb.of j,L,?_);refine(r,J,1,K,Y,Kq Y (gU (k:=f) B D hz ?o (M i _ ex) (p _ b) λP v L=>?_));have b:=v l _ u j;refine((at' g (i+1)).getD 0 - (at' g i).getD 0,?_,_,1,Y,l,_,1,Y,b,?_,1,(I.trans v).put s,?_,?_)
  ·show [V.int (((bS ((at' g (i+1)).getD 0 - (at' g i).getD 0)).toNat:b8):cs)]=_;rw[la q]
  ·rw[ai,d8];exact bJ ?o
  ·rw[tj,<-r6];exact L.put b
  ·rw[ae,ji w,b3];show O (HO.lst (_++[V.int ((at' g i).getD 0+((at' g (i+1)).getD 0 - (at' g i).getD 0))]))=O (HO.lst (_++[ov (at' g (i+1))]));rw[mG y w,show (at' g i).getD 0+((at' g (i+1)).getD 0 - (at' g i).getD 0)=(at' g (i+1)).getD 0 by omega]
 ·rintro σ H4 ⟨C,rfl,I,B,j⟩;rw[<-G,dw]at j;refine x l H4 I s ?_ j;rw[show n+(24+(5+f * d))=n+24+5+f * d by omega];exact B
def U7(t:Ad):c3->Sp:=λx a H Q E=>∃j,bH[j]?=O x/\ng t j a H Q E
def VJ[T:Gd]:nE gP gw gK gm gb r_ 5 "READERS" ["reader","length"] o8 (U7 gt):=by
 let(a,d,n,e,g,p,(c,q,s),(B,u,v),(C,w,x),(D,z,A)):=T.tREADERS;refine(a,d,n,e,g,p,λy c=>?_);let(c,ne):=Ms y c;let(j,d):=ez c;have only:∀{i:b8},bH[i]?=O y->i=j:=λh=>eY iI h d;rcases xy d with⟨rfl,rfl⟩ |⟨rfl,rfl⟩ |⟨rfl,rfl⟩ |⟨rfl,rfl⟩ |⟨rfl,rfl⟩
 ·let(f,Ar,G,m,k,b):=vG;cases s.symm.trans m;exact(_,Ar,q,(G.mono ?a).imp (by rintro d H Q E ⟨i,c,h⟩;cases only c;exact X4 h),k,b)
 ·exact cx Y ne
 ·let(f,Ar,G,m,k,b):=QY;cases v.symm.trans m;exact(_,Ar,u,G.imp (by rintro d H Q E ⟨i,c,h⟩;cases only c;exact h),k,b)
 ·let(f,Ar,G,m,k,b):=ZO;cases x.symm.trans m;exact(_,Ar,w,(G.mono ?a).imp (by rintro d H Q E ⟨i,c,h⟩;cases only c;exact h),k,b)
 ·let(f,Ar,G,m,k,b):=Ro;cases A.symm.trans m;exact(_,Ar,z,(G.mono ?a).imp (by rintro d H Q E ⟨i,c,h⟩;cases only c;exact h),k,b)
theorem jv{a b:c3}(e:bq a.cps.1)(f:bq b.cps.1):bq (a++b).cps.toList:=λc d=>by
 rw[eD]at d;rcases ek.mp d with h |h
 ·exact e c h
 ·exact f c h
theorem Nt{l:U c3}(h:∀s∈l,bq s.cps.1):bq (bc l).cps.toList:=λc a=>by
 let(s,b,a):=g7.mp a;let(z,hz,Y):=cv.mp b;exact h z hz c a
theorem lO{f:α->c3}{l:U α}(h:∀a,bq (f a).cps.toList):bq (bc (l.map f)).cps.toList:=Nt λs b=>by
 grind
theorem g9(n k:b8):bq (cR n k).cps.toList:=wp n k
theorem wq(C:U cs):bq (eE C).cps.toList:=jv (g9 _ _) (lO λ_=>g9 _ _)
theorem W5(j:b8)(g:U OI):bq (dX j g).cps.toList:=by
 match j with
 |0=>exact lO λ_=>g9 _ _
 |2=>exact jv (jv (g9 _ _) (lO λ_=>g9 _ _)) (lO λ_=>g9 _ _)
 |3=>exact jv (g9 _ _) (wq _)
 |1 |j+4=>exact jv (g9 _ _) (wq _)
theorem RI(j:b8)(g:U OI):bq (e9 j g).cps.toList:=jv (jv (g9 _ _) (g9 _ _)) (W5 j g)
abbrev Ff:=b8×U OI
def Jl(b:Ff):Prop:=r3 b.2=bm/\b.1<5/\rm b.2 b.1≠.none/\b.1≠1
def bN(b:Ff):c3:=e9 b.1 b.2
theorem XH(f:α->c3)(l:U α)(i:b8)(a:α)(e:l[i]?=O a):At (bc (l.map f)).cps.toList (bc ((l.take i).map f)).length (f a).cps.toList:=by
 induction l generalizing i with
 |nil=>cases e
 |cons b r g=>
  cases i with
  |zero=>
   cases e;refine([],(bc (r.map f)).cps.toList,?_,Y);rw[ey,oS,eD];rfl
  |succ i=>
   let(d,c,h,j):=g i e;refine((f b).cps.toList++d,c,?_,?_)
   ·simp only[ey,oS,eD,h,mc]
   ·simp only[List.take_succ_cons,ey,oS,dL,cc,j];rfl
inductive To(t:Ad)(c:U V)(H:Hp)(Q:VK)(_E:XK):Prop
 |i(r:a_)(Aj:c3)(n:b8)(b:Ff)(_:c=[.ref r])(_:bB t.cReader H r Aj n)(_:bq Aj.cps.1)(_:?lAj<=16777216)(_:Jl b)(_:At Aj.cps.1 n (bN b).cps.toList)(_:∀(a l:a_)(A:Hp),Kp r H A->H a=bd->H l=bd->A a=O (.tup [.str (bH.getD b.1 ""),.ref l])->A l=O (.lst (b.2.map ov))->bB t.cReader A r Aj (n+(bN b).length)->Q (.ref a) A)
def Ot[T:Gd]:=cD T.D37 8 (To gt) λF=>by
 let(m,b,D,G,I):=lF;let(b,m,v,w,y):=VF;refine F.o ["reader","begin","number","kind","length","values"] λs m Aq b q H u Q E p h=>?_;let(r,Aj,n,(j,g),Y,R,A,hz,(b,f,c,u),q,J):=h;have b:r3 g=bm:=b;have f:j<5:=f;have c:rm g j≠.none:=c;let(d,m):=gI b;have m:=il b;have d:bH[j]?=O (bH.getD j ""):=by
  have h:j<?lbH:=f;simp[rl,h]
 generalize bH.getD j "" =x at d J;have ne:x ≠ "runs" :=λz=>u (eY iI (z ▸ d) Y);have f:=q.cut;have B:=q.le;rw[ee]at f;have C:(e9 j g).length=11+(dX j g).length:=by
  unfold e9;rw[dL,dL,c5,c5]
 have q:At Aj.cps.1 n (cq j 3++(cq (?lg - 1) 8++(dX j g).cps.toList)):=by
  have e:(e9 j g).cps.toList=cq j 3++(cq (?lg - 1) 8++(dX j g).cps.toList):=by
   unfold e9;rw[eD,eD,mc];rfl
  rw[<-e];exact q
 have m:=q.right;rw[gZ]at m;have u:=m.right;rw[gZ]at u;refine(_,(ak (aD 1 s (bp gK ?A Y))
  (ak (aD 2 s (aX ?A T.cr G D (p.mono ?a) I .nil bW (e0 (bn T.sv))))
  (ak (aI (aE tY ?C (aH (bR gK) ?r T.be z4 (e0 (dj T.kx)))) pQ
   aK)
  (ak (aD 3 s (l3 gK (dj T.kx) ?C))
  (ak (aD 4 s (aq aT (aX ?A T.cr G D (p.mono ?a) I .nil bW (e0 (bn T.sw))) ah))
  (ak (aD 5 s (VJ.pe p ap ?E (fH ?A ?G)))
  (ak (aI (PW.pt (fc (dQ (bY (vx.pe p ap (e0 ?H)))) (fB (aE eK (vE.pe p bW (fH ?E ?H)) (aX ?A T.cr w v (p.mono ?a) y .nil ap (e0 ?B)))))) pQ
   aK)
  (aj (ay (bP (fH ?E ?H))))))))))),?_)
 let(N,hR):=id R;refine(r,_,N,_,1,hR,T.cr,T.js,Y,?_);refine(r,N,1,hR,Y,GV (gU (k:=3) R A hz ?a q.left (show j<2 ^ 3 by omega) λAi s v=>?_));refine(gt.aKINDS,dI,Y,.inr (T.kJ _),_,1,Y,1,?_);refine dF (show ¬ ((?ldI:b8):cs)<=(j:cs) by show ¬ (5:cs)<=(j:cs);omega) ?_;have p:s8 dI (j:cs)=O (.str x):=cf (by unfold dI;rw[a',d];rfl);refine(gt.aKINDS,dI,_,1,Y,T.kJ _,p,?_);let(p,q):=id v;refine(r,p,1,q,Y,GV (gU (k:=8) v A hz ?a m.left (show ?lg - 1<2 ^ 8 by omega) λAn w R2=>?_));have p:((?lg - 1:b8):cs)+1=(?lg:cs):=?o
 refine(_,1,Y,x,Y,in4 _ (a0 d) ne,j,d,r,Aj,n+3+8,g,?_,R2,A,hz,b,c,u,λl H3 q m y v=>?_)
 ·show [V.ref r,V.int (((?lg - 1:b8):cs)+1)]=_;rw[p]
 have p:=(s.trans w).trans q;have q:=(s.trans w).free R2 m;have s:=kX R2 m;refine(l,g,Y,eb.of v,?o,λH4 s=>(1,?_));rw[b];refine ao ?_;have A:=y.same s;have w:=s _ _ v;refine(l,g,x,Y,ne,eb.of w,?o,λz=>(by rw[b]at z;cases z),λ_ z=>cx (a0 d) z,λ_ i m z=>?_,λ_ i m _ v u=>?_)
 ·cases eY iI m d;exact cx z c
 cases eY iI m d;have m:=A.same u;let(b,c):=id m;have v:n+3+8+(dX j g).length=n+(e9 j g).length:=by rw[C];omega
 rw[v]at m;refine(r,b,1,c,Y,r,Aj,n,n+(e9 j g).length,Y,m,hz,?o,B,?_);have b:(⟨((Aj.cps.toList.drop n).take (n+(e9 j g).length - n)).toArray⟩:c3)=e9 j g:=by
  apply nq;rw[Nat.add_sub_cancel_left];exact f
 rw[b];refine(Y,1,?_);rw[uK];refine ao ?_;refine((show 2<=bT by decide),λa b=>?_);have v:=(p.trans (Kp.of s)).trans (Kp.of (r:=r) u);have p:=u _ _ w;refine J a l _ (v.new b) (v.free m b) q ae ?_ (m.new b);rw[af (aC p b)];exact p
inductive vR(c H:Hp)(l:a_)(d:U Ff):Prop
 |i(X:U (a_×a_))(_:H l=O (.lst (X.map λa=>V.ref a.1)))(_:?lX=?ld)(_:(∀(i:b8)(a:a_×a_)(b:Ff),X[i]?=O a->d[i]?=O b->H a.1=O (.tup [.str (bH.getD b.1 ""),.ref a.2])/\H a.2=O (.lst (b.2.map ov))))(_:∀a∈X,c a.1=bd/\c a.2=bd)
inductive NW(c:U V)(H:Hp)(Q:VK)(_E:XK):Prop
 |i(a:U Ff)(_:c=[.str (bc (a.map bN))])(_:(∀b∈a,Jl b))(_:(bc (a.map bN)).length<=16777216)(_:∀(l:a_)(A:Hp),aa H A->H l=bd->vR H A l a->Q (.ref l) A)
theorem ww(b:Ff):0<(bN b).length:=by
 delta bN e9
 simp only[dL,dL,c5]
 lia
theorem sE{a:U Ff}{b:Ff}(h:a[i]?=O b):(bc ((a.take (i+1)).map bN)).length=(bc ((a.take i).map bN)).length+(bN b).length:=by
 rw[ei,h];simp only[b3,RF,dL]
 congr 1
 show (bc [bN b]).length=_;rw[oS];rfl
def vK[T:Gd]:=cD T.D38 9 NW λF=>by
 let(g,w,f,u,j):=S7;let(g,x,q,s,w):=ON;refine F.o ["bits","reader","blocks"] λG I Aq g S H B Q E x h=>?_;let(d,Y,C,hz,Z):=h;have B:bq (bc (d.map bN)).cps.toList:=lO (f:=bN) λb=>RI _ _;have g:=XH bN d;have p:bc ((d.take ?ld).map bN)=bc (d.map bN):=by rw[dw]
 generalize I:bc (d.map bN)=Aj at B g hz p;refine(_,(ak (aD 1 G (pK u f (x.mono ?a) Y T.zfw j .nil bW (e0 ?A)))
  (ak (aD 2 G (bO dJ))
  (ak (ul ev (bY (dZ ?B T.cr s q (x.mono ?a) w .nil ap))
   (aj (aV (bX gK d2 eH eL gE ?C (e0 (Ot.pe x ap (e0 ?B)))))))
  (aj (ay ?C))))),?_)
 refine λr N x f u=>?_;refine(r,N,Aj,Y,ae,hz,λ_ Ai u w=>(Y,?_),λz=>cx B z);have j:aa H Ai:=λb o e=>by
  rw[w b (aC e x),af (aC e x),af (aC e f)];exact e
 refine(av Y,λl f=>?_);have R2:=u.new (o:=.lst []) f;have w:aa H (upd Ai l (.lst [])):=aG j f;have I:(upd Ai l (.lst [])) l=O (.lst (([]:U (a_×a_)).map λa=>V.ref a.1)):=ae;have D:=j.free f;have q:=kX u f;refine uT (λσ A=>σ=[O (.str Aj),O (.ref r),O (.ref l)]/\aa H A/\∃i,i<=?ld/\bB gt.cReader A r Aj (bc ((d.take i).map bN)).length/\vR H A l (d.take i))
  (λ_ A=>match A r with |some (.ins _ _ [_,(_,.int n)])=>?lAj - n.toNat |_=>0) (Y,w,(0),ej _,R2,[],I,Y,λi a b e=>(by cases e),λa h=>(by cases h)) ?_
 rintro m σ H3 L ⟨rfl,J,i,w,u,P3⟩;let(f,j):=id u;have L:m=?lAj - (bc ((d.take i).map bN)).length:=by rw[L,j];simp[ut]
 refine(r,f,1,j,Y,r,Aj,1,u,hz,1,?_);by_cases c:i<?ld
 ·have ex:d[i]?=O d[i]:=ag c;have I:=g i _ ex;have g:=I.le;have f:=ww d[i];rw[dg (show (bc ((d.take i).map bN)).length<?lAj by
   have:(bc ((d.take i).map bN)).length+(bN d[i]).length<=?lAj:=g;omega)]
  refine aA (_,wN,?_);let(X,w,G,A3,A4):=P3;have G:?lX=i:=by rw[G,d8];omega
  refine(.inl (Y,_,eb.of w),r,Aj,_,d[i],Y,u,B,hz,C _ (d1 c),I,λa M H4 K s f A5 P S=>?_);have u:=K l _ q w;have A6:a≠l:=λz=>by rw[z,w]at s;cases s
  have ll:M≠l:=λz=>by rw[z,w]at f;cases f
  have R:=S.put (o:=.lst (X.map (λa=>V.ref a.1)++[.ref a])) u;rw[<-sE ex]at R;have I:(bN d[i]).length+(bc ((d.take i).map bN)).length<=?lAj:=by
   have:(bc ((d.take i).map bN)).length+(bN d[i]).length<=?lAj:=g;omega
  have q:=sE ex;have I:H r=bd:=x;refine(l,_,1,Y,u,?_,(Y,λb o e=>?_,i+1,?o,R,X++[(zzq a M)],?_,?_,λk z b x B=>?_,λz g=>?_),?_)
  ·rw[ai];have:i<?lAj:=by
    have u:∀k,k<=?ld->k<=(bc ((d.take k).map bN)).length:=by
     intro k;induction k with
     |zero=>intro _;exact ej _
     |succ k A7=>
      intro S;have e:d[k]?=O d[k]:=ag ?o;rw[sE e];have:=A7 ?o;have:=ww d[k];omega
    have:=u (i+1) ?o;rw[q]at this;omega
   rw[e2];omega
  ·have u:b≠r:=aC e I;rw[af (aC e D)];exact K b o u (J b o e)
  ·rw[ae,b3];rfl
  ·rw[cc,d8,G,f'];omega
  ·by_cases S:k<?lX
   ·rw[f1 S]at x;have u:(d.take i)[k]?=O b:=by
     rw[r7]at B ⊢;rw[d6 ?o]at B ⊢;exact B
    let(G,I):=A3 k z b x u;have S:z.1≠r:=λy=>by rw[y,j]at G;cases G
    have A3:z.2≠r:=λy=>by rw[y,j]at I;cases I
    have j:z.1≠l:=λy=>by rw[y,w]at G;cases G
    refine(?_,?_)
    ·rw[af j];exact K _ _ S G
    ·by_cases y:z.2=l
     ·rw[y,w]at I;have j:=HO.lst.inj (c_ I);let(w,_,_):=C b (a0 (show d[k]?=O b by rw[r7,d6 ?o]at u;exact u));have u:=il w;obtain⟨v,w,G⟩:∃v w,b.2=v::w:=List.exists_cons_of_length_pos u;rw[G]at j;cases X with
      |nil=>cases j
      |cons u w=>
       have:=(E' j).1;cases v <;> cases this
     ·rw[af y];exact K _ _ A3 I
   ·rw[ge ?o]at x;have u:k - ?lX=0:=by
     have:=(bg.mp x).1;simp at this;omega
    rw[u]at x;cases x;have u:k=i:=by
     have:=(bg.mp B).1;rw[d8]at this;omega
    subst u;rw[r7,d6 ?o,ex]at B;cases B;refine(?_,?_)
    ·show (upd H4 l _) a=_;rw[af A6];exact A5
    ·show (upd H4 l _) M=_;rw[af ll];exact P
  ·rcases ek.mp g with g |g
   ·exact A4 z g
   ·rw[d4.mp g];exact(J.free s,J.free f)
  ·let(w,u):=R;rw[u];show ?lAj - (((bc ((d.take (i+1)).map bN)).length:b8):cs).toNat<m;rw[e4,L,q];omega
 ·have u:i=?ld:=?o
  subst u;rw[p,c4 ?o];refine ao ?_;rw[dw]at P3;exact Z l H3 J D P3
theorem re(g:U OI):∀(b:b8)(l:U b8),EO ?lg b l->(dO g b l).flatten=g.drop b
 |b,[],h=>by
  have:b=?lg:=h;subst this;simp only[List.drop_length];rfl
 |b,e::r,h=>by
  have:=h.1;simp only[dO,j',re g e r h.2];have a:g.drop e=(g.drop b).drop (e - b):=by rw[List.drop_drop];congr 1;lia
  simp only[a,q7]
noncomputable def hV(g:U OI):U Ff:=(dO g 0 (dP g ?lg)).map λb=>(zzq (cP b) b)
theorem oz(g:U OI):bc ((hV g).map bN)=jU g:=by
 delta hV jU
 rw[d_];rfl
theorem wS(g:U OI):((hV g).map (·.2)).flatten=g:=by
 delta hV
 rw[d_];have:(dO g 0 (dP g ?lg)).map ((·.2) ∘ λb=>((zzq (cP b) b):Ff))=dO g 0 (dP g ?lg):=hH _;rw[this,re g 0 _ (oB g ?lg)];rfl
theorem wx(ok:o5 g=bm){b:U OI}(h:b∈dO g 0 (dP g ?lg)):r3 b=bm:=by
 let(i,c):=ez h;have a:=iK ok;have a:i<(dP g ?lg).length:=by
  have:=(bg.mp c).1
  rwa[j7]at this
 rw[oj g 0 _ i a]at c;cases c;let(c,d):=(oB g ?lg).at i a;exact rf (pD ok) ?l c d
theorem rE(ok:o5 g=bm):∀b∈hV g,Jl b:=λb a=>by
 let(c,e,Y):=cv.mp a;let(f,d):=qY c;have a:=wx ok e;have h:?lc<=8:=by
  have:=(List.sublist_flatten_of_mem e).length_le;rw[re g 0 _ (oB g ?lg)]at this;exact ce this (mH ok)
 exact(a,f,(by rw[d];intro z;cases z),yR (il a) h)
theorem wT(g:U OI):(hV g).length<=?lg:=by
 delta hV
 rw[ai,j7];exact rL g ?lg
theorem M8(ok:o5 g=bm):(jU g).length<=16777216:=by
 have c:=iK ok;have a:=xS (l:=(dO g 0 (dP g ?lg)).map iU) λs c=>by
  let(b,d,Y):=cv.mp c;let(c,s):=gI (wx ok d);exact wj ?l c
 rw[ai,j7]at a;have:=rL g ?lg
 delta jU
 rw[i6]
 lia
inductive RM(t:Ad)(a:U V)(H:Hp)(Q:VK)(E:XK):Prop
 |i(r n:cs)(_:a=[.int r,.int n])(_:(0<=r/\r<n->Q .non H))(_:(¬ (0<=r/\r<n)->E (.ref t.eNoRow) bd H))
def vq[T:Gd]:=cD T.D48 1 (RM gt) λF=>by
 refine F.oX ["row","size"] λc b Aq a s H d Q E e h=>?_;let(r,n,Y,d,c):=h;refine(_,(aj (aI (dQ (zP gL pH ah ?A ?B)) (aj (cU cY T.zbw Y ?r T.sh (e0 au)))
   aK)),?_)
 refine(_,1,Y,1,?_);by_cases a:0<=r
 ·refine dT a (_,1,Y,1,?_);by_cases b:r<n
  ·exact nF b (d (a,b))
  ·exact nT b (?a,c λz=>b z.2)
 ·refine dF a (1,?_);exact aA (?a,c λz=>a z.1)
inductive Sy(c:U V)(H:Hp)(Q:VK)(_E:XK):Prop
 |i(a:U Ff)(_:c=[.str (bc (a.map bN))])(_:(∀b∈a,Jl b))(_:(bc (a.map bN)).length<=16777216)(_:?la<=1000)(_:∀(l:a_)(A:Hp),aa H A->H l=bd->A l=O (.lst ((a.map (·.2)).flatten.map ov))->Q (.ref l) A)
theorem xA:∀(a:U Ff),(∀b∈a,Jl b)->((a.map (·.2)).flatten).length<=100 * ?la
 |[],_=>b2 _
 |b::r,h=>by
  have:=xA r λc a=>h c (dz _ a);have a:=(gI (h b ea).1).2
  grind
def RY[T:Gd]:=cD T.D49 10 Sy λF=>by
 refine F.o ["bits","values","kind","block"] λm w Aq g s H d Q E n h=>?_;let(d,Y,j,hz,g,G):=h;have g:=e2;refine(_,(ak (aD 1 m (bO dJ))
  (ak (dk ev Y (ba (vK.pe n ap (e0 ?A))) (dA gK (n:=2) Y (bv (aF 2 m) (bv (aF 3 m) dB)))
   (aj (aV (bX gK d2 n_ n' tK ?B (e0 ?E)))))
  (aj (ay ?B)))),?_)
 refine(av Y,λl f=>?_);have B:aa H (upd H l (.lst [])):=aa.new f;have g:(upd H l (.lst [])) l=O (.lst []):=ae;generalize upd H l (.lst [])=Ai at B g;refine(d,Y,j,hz,λlt An C m n=>?_);let(X,w,I,J,u):=n;have x:=C _ _ g;have n:l≠lt:=λz=>by rw[z]at g;rw[g]at m;cases m
 have s:∀a∈X,a.1≠l/\a.2≠l:=λa m=>by
  let(p,q):=u a m;exact(λz=>(by rw[z,g]at p;cases p),λz=>(by rw[z,g]at q;cases q))
 refine(lt,Y,(_,eb.of w),⟨fQ (K:=gK) (λk σ A=>∃u v:b5 V,σ=[O (.str (bc (d.map bN))),O (.ref l),u,v]/\(∀c o,c≠l->An c=O o->A c=O o)/\A l=O (.lst (((d.take k).map (·.2)).flatten.map ov)))
  (bd,bd,Y,λc o _ e=>e,x) (λk σ A m g=>by let(_,_,_,h,_):=g;exact eb.of (h _ _ ?yn w)) ?_ ?_⟩)
 ·rintro k y σ H3 w ⟨u,v,rfl,m,n⟩;have g:k<?lX:=by
   have:=(bg.mp w).1
   rwa[ai]at this
  rw[a',ag g]at w;cases w;have D:d[k]?=O (d[k]' ?o):=ag ?o;let(w,x):=J k X[k] _ (ag g) D;let(p,q):=s _ (d1 g);have w:=m _ _ p w;have x:=m _ _ q x;have g:d.take (k+1)=d.take k++[d[k]' ?o]:=by rw[ei,D];rfl
  have p:=xA (d.take (k+1)) λb d=>j b (qU d);rw[g,b3,k',cc,cc,d8]at p;refine(X[k].1,1,fx.of w,Y,_,1,_,1,Y,?_);refine(.inl (Y,_,eb.of n),l,X[k].2,_,1,Y,n,x,?_,_,1,λc o w e=>?_,?_)
  ·rw[ai,ai];simp only[ey,HM,j',FZ,f2,f']at p;omega
  ·rw[af w];exact m c o w e
  ·rw[ae,g,b3,k',b3];simp only[ey,HM,j',FZ,f2]
 ·rintro σ H3 ⟨u,v,rfl,m,n⟩;rw[ai,I,dw]at n;exact G l H3 (λb o e=>m b o (aC e f) (C _ _ (B _ _ e))) f n
def d7(Ak:a_)(H:Hp)(c:a_)(g:U OI):Prop:=∃N,H c=O (.ins Ak N [(zzq ("lying") (.str (jU g)))])
theorem d7.same(h:d7 Ak H c g)(s:aa H A):d7 Ak A c g:=by
 let(N,h):=h;exact(N,s _ _ h)
inductive R9(K:bI)(t:Ad)(a:U V)(H:Hp)(Q:VK)(E:XK):Prop
 |i(p N l:a_)(g:U OI)(_:a=[.ref p,.ref l])(_:H p=O (.ins t.cColumn N []))(_:eb K H l (g.map ov))(_:?lg<=8)(_:(o5 g=bm->∀A:Hp,d7 t.cColumn A p g->Kp p H A->Q .non A))(_:(o5 g=b1->∀A,aa H A->E (.ref t.eBadValue) bd A))
def u9[T:Gd]:=cI T.D50 10 (R9 gK gt) λF=>by
 refine F.oX ["self","values"] λd b Aq a s H e Q E c h=>?_;let(p,N,l,g,Y,b,d,e,f,j):=h;refine(_,(aj (cF ?A (qv.pe c bF (e0 ?B)) Y)),?_);refine(l,g,Y,d,e,λok Ai a=>?_,j);exact(p,gt.cColumn,N,1,a _ _ b,T.c9,T.lJ,?a,f ok _ (N,ae) ((Kp.of a).trans Kp.own))
inductive Mx(t:Ad)(a:U V)(H:Hp)(Q:VK)(_E:XK):Prop
 |i(c:a_)(g:U OI)(_:a=[.ref c])(_:d7 t.cColumn H c g)(_:o5 g=bm)(_:∀(l:a_)(A:Hp),aa H A->H l=bd->A l=O (.lst (g.map ov))->Q (.ref l) A)
def iR[T:Gd]:=cM T.D51 11 (Mx gt) λF=>by
 refine F.o ["self"] λe b Aq a s H q Q E d h=>?_;let(c,g,Y,(N,b),ok,q):=h;have a:=iK ok;have a:=wT g;refine(_,(aj (ay (RY.pe d ap (e0 (bp gK ?A Y))))),?_);refine(c,_,N,_,1,b,T.c9,T.lJ,Y,hV g,?_,rE ok,by rw[oz];exact M8 ok,?o,λl A d e a=>?_)
 ·rw[oz];rfl
 ·rw[wS]at a;exact q l A d e a
theorem R4(g:U OI)(k:b8)(o:OI):cj (g.map ov) k (ov o)=(cj g k o).map ov:=by
 delta cj
 simp_all
theorem Sa(g:U OI)(k:b8):(g.map ov).eraseIdx k=(g.eraseIdx k).map ov:=by
 simp only[tp,tp,b3,Hw,r0]
theorem ER(g:U OI)(k:b8)(o:OI):(g.map ov).set k (ov o)=(g.set k o).map ov:=?x
theorem x6{r:cs}(a:0<=r)(a:r<(n:cs)):Fd n r=O ?ir:=by
 delta Fd
 simp_all
theorem TJ{Ap:U OI}(h:o5 g=bm)(a:?lAp<=?lg)(a:∀v∈Ap,v∈g):o5 Ap=bm:=by
 have b:=mH h;refine y4 (ce ‹_› ‹_›) (dv.mpr λv b=>dv.mp (pD h) v (a v b))
theorem tW(h:o5 g=bm)(k:b8):o5 (g.eraseIdx k)=bm:=
 TJ h (zz _ _) λv a=>hL a
inductive Ze(t:Ad)(a:U V)(H:Hp)(Q:VK)(E:XK):Prop
 |i(c:a_)(r:cs)(o:OI)(g:U OI)(_:a=[.ref c,.int r,ov o])(_:d7 t.cColumn H c g)(_:o5 g=bm)(_:?lg<8)(_:(¬ (0<=r/\r<(?lg:cs)+1)->∀A,aa H A->E (.ref t.eNoRow) bd A))(_:(0<=r->r<(?lg:cs)+1->o5 (cj g ?ir o)=bm->∀A,Kp c H A->d7 t.cColumn A c (cj g ?ir o)->Q .non A))(_:(0<=r->r<(?lg:cs)+1->o5 (cj g ?ir o)=b1->∀A,aa H A->E (.ref t.eBadValue) bd A))
def vc[T:Gd]:=cM T.D52 12 (Ze gt) λF=>by
 let(b,m,d,j,f):=iR;refine F.oX ["self","row","value","values"] λm e Aq b s H n Q E a h=>?_;let(c,r,o,g,Y,(N,e),ok,b,n,p,q):=h;have b:=iK ok;have b:(g.map ov).length=?lg:=ai _;refine(_,(ak (aD 3 m (dZ ?A T.c9 j d (a.mono ?a) f .nil ap))
  (ak (aV (vq.pe a bF (fH ?B (aq aT (aH (bR gK) ?r T.be z4 (e0 ?E)) ah))))
  (ak (aV (bX gK d2 Ϟ ϟ TW ?E (fH ?B ?C)))
  (aj (cF ?A (qv.pe a bF (e0 ?E)) Y))))),?_)
 refine(c,N,1,e,Y,c,g,Y,(N,e),ok,λl Ai j m d=>?_);refine(l,1,.inl (eb.of d),_,1,Y,r,1,λa=>?_,λa=>n (by rw[b]at a;exact a) Ai j);rw[b]at a;refine(.inl (Y,_,eb.of d),l,_,r,1,Y,d,a.1,by rw[b];omega,by rw[b];omega,?_);rw[R4];have f:aa H (upd Ai l (.lst ((cj g ?ir o).map ov))):=pW j m;have n:(upd Ai l (.lst ((cj g ?ir o).map ov))) l=O (.lst ((cj g ?ir o).map ov)):=ae;have b:(cj g ?ir o).length<=8:=by
  unfold cj;rw[cc,d8,e_,he];omega
 refine(l,1,eb.of n,b,λj H3 d=>?_,λm H3 d=>q a.1 a.2 m H3 (f.trans d));exact(c,gt.cColumn,N,1,(f.trans d) _ _ e,T.c9,T.lJ,by show 1<1000;decide,p a.1 a.2 j _ ((Kp.of (f.trans d)).trans Kp.own) (N,ae))
inductive MZ(t:Ad)(a:U V)(H:Hp)(Q:VK)(E:XK):Prop
 |i(c:a_)(r:cs)(g:U OI)(_:a=[.ref c,.int r])(_:d7 t.cColumn H c g)(_:o5 g=bm)(_:(¬ (0<=r/\r<(?lg:cs))->∀A,aa H A->E (.ref t.eNoRow) bd A))(_:(0<=r->r<(?lg:cs)->∀A,Kp c H A->d7 t.cColumn A c (g.eraseIdx ?ir)->Q .non A))
def u8[T:Gd]:=cM T.D53 12 (MZ gt) λF=>by
 let(d,b,f,j,m):=iR;refine F.oX ["self","row","values"] λn d Aq a s H e Q E b h=>?_;let(c,r,g,Y,(N,e),ok,p,q):=h;have d:=iK ok;have d:(g.map ov).length=?lg:=ai _;refine(_,(ak (aD 2 n (dZ ?A T.c9 j f (b.mono ?a) m .nil ap))
  (ak (aV (vq.pe b bF (fH ?B (aH (bR gK) ?r T.be z4 (e0 ?C)))))
  (ak (aV (bX gK d2 yl ym yw ?C (e0 ?B)))
  (aj (cF ?A (qv.pe b bF (e0 ?C)) Y))))),?_)
 refine(c,N,1,e,Y,c,g,Y,(N,e),ok,λl Ai j m b=>?_);refine(l,1,.inl (eb.of b),r,1,λa=>?_,λa=>p (by rw[d]at a;exact a) Ai j);rw[d]at a;have f:w2 r (g.map ov).length=O ?ir:=by
  rw[d];exact (oZ (x6 a.1 a.2)).1
 refine(.inl (Y,_,eb.of b),l,_,r,?ir,ov (at' g ?ir),Y,Y,b,?o,?o,f,by rw[a',getD_at' ?o];rfl,?_);rw[Sa];have f:aa H (upd Ai l (.lst ((g.eraseIdx ?ir).map ov))):=pW j m;have m:(upd Ai l (.lst ((g.eraseIdx ?ir).map ov))) l=O (.lst ((g.eraseIdx ?ir).map ov)):=ae;have b:=tW ok ?ir;have d:=mH b;refine(l,1,eb.of m,?o,λn H3 j=>?_,λd=>(by rw[b]at d;cases d));exact(c,gt.cColumn,N,1,(f.trans j) _ _ e,T.c9,T.lJ,by show 1<1000;decide,q a.1 a.2 _ ((Kp.of (f.trans j)).trans Kp.own) (N,ae))
def asc(z:c3):Prop:=z.cps.all (· < 128)=bm
noncomputable def uH(z:c3):eg:=z.cps.toList.all λc=>decide (97<=c/\c<=122)
noncomputable def iO(m:cs):V->eg
 |.str z=>decide (1<=(?lz:cs)/\(?lz:cs)<=m) && uH z
 |_=>b1
def EN:V->Prop
 |.str z=>asc z/\?lz<=1000
 |.non=>sI
 |.int _=>sI
 |_=>fP
def jW:V->eg
 |.non=>bm
 |x=>iO 12 x
theorem T6:("a" : c3).cps.toList=[97]:=?r
theorem Ζ:("z" : c3).cps.toList=[122]:=?r
inductive Q_(a:U V)(H:Hp)(Q:VK)(_E:XK):Prop
 |i(z:c3)(_:a=[.str z])(_:asc z)(_:?lz<=1000)(_:∀A,aa H A->Q (.bl (uH z)) A)
theorem OO:(["sign"]:U c3).Nodup:=?k
def Sg[T:Gd]:=cD T.D54 1 Q_ λF=>by
 refine F.o ["text"] λe b Aq a s H d Q E f h=>?_;let(z,Y,b,hz,q):=h;have f:?lz.cps.toList=?lz:=ee;refine(_,(aj (ay (aH (jz gK Y) ?r T.i8 zb (e0 (bf (Ae:=["sign"]) (fr:=[bd]) (Rw ?A) (λAk As s H=>(aF 0 OO,bh,(mJ ze ze au ?A au)))))))),?_);refine(z,Y,b,lQ (λi a A=>A=H/\a=(z.cps.toList.take i).map λc=>V.bl (decide (97<=c/\c<=122))) (Y,Y) ?_ (dn (bJ hz)) ?_ ?_)
 ·rintro i a A b ⟨rfl,rfl⟩;exact(by rw[ai,d8];omega,λh=>h,λh=>h)
 ·rintro i x a Ai An b ⟨rfl,rfl⟩ ⟨rfl,c,e,rfl⟩;refine(Wk.set Y,tT (_,1,Y,1,?_));have d:((z.cps.toList.take (i+1)).map λc=>V.bl (decide (97<=c/\c<=122)))=((z.cps.toList.take i).map λc=>V.bl (decide (97<=c/\c<=122)))++[V.bl (decide (97<=c/\c<=122))]:=by rw[ei,e,b3];rfl
  rw[T6];rw[yo];by_cases e:c<97
  ·refine nF e (cw b (Y,?_));rw[d,c4 (λz=>?o)]
  ·refine nT e (_,1,Y,cw b (Y,?_));rw[Ζ];rw[yo,d];by_cases b:122<c
   ·rw[dg b,c4 (λz=>?o)];rfl
   ·rw[c4 b,dg ?o];rfl
 ·rintro a Ai ⟨rfl,rfl⟩ p b;refine(p,z.cps.toList.map λc=>decide (97<=c/\c<=122),Y,.of ?_,?_)
  ·rw[ae,<-f,dw,d_];rfl
  ·rw[l'];exact q _ (aa.new b)
inductive O5(K:bI)(a:U V)(H:Hp)(Q:VK)(_E:XK):Prop
 |i(x:V)(m:cs)(_:a=[x,.int m])(_:EN x)(_:∀A,aa H A->Q (.bl (iO m x)) A)
def vy[T:Gd]:=cD T.D55 2 (O5 gK) λF=>by
 refine F.o ["text","most"] λc b Aq a s H q Q E d h=>?_;let(x,m,Y,c,q):=h;have a:=e2;refine(_,(aj (ay (fW (aH (cJ gK) ?r T.cK z3 (fH ?A (fY T.yW ql))) (fW (mJ gL gL ah (aH oo ?r T.be z4 (e0 ?A)) ?B) (d0 (Sg.pe d ap (e0 ?A))))))),?_);cases x with
 |non=>exact(_,_,1,fR .non T.ins,1,ao (q _ (aa.refl _)))
 |int i=>exact(_,_,1,fR (.int i) T.iis,1,ao (q _ (aa.refl _)))
 |str z=>
  let(d,hz):=c;refine(_,_,1,fR (.str z) T.xY,1,aA (z,Y,?o,_,1,Y,1,?_));have e:iO m (.str z)=(decide (1<=(?lz:cs)/\(?lz)<=m) && uH z):=Y;rw[e]at q;by_cases a:(1)<=(?lz:cs)
  ·refine dT a (_,1,Y,1,?_);by_cases b:(?lz)<=m
   ·rw[dg b];rw[dg (Gv a b)]at q;exact aA (z,Y,d,hz,q)
   ·rw[c4 b];rw[c4 (λy=>b y.2)]at q;exact ao (q _ (aa.refl _))
  ·rw[c4 a];rw[c4 (λy=>a y.1)]at q;exact ao (1,ao (q _ (aa.refl _)))
 |_=>exact c.elim
inductive Mn(K:bI)(a:U V)(H:Hp)(Q:VK)(_E:XK):Prop
 |i(x:V)(_:a=[x])(_:EN x)(_:∀A,aa H A->Q (.bl (iO 12 x)) A)
def zc[T:Gd]{f:a_}(F:rS gK "is_written" "is_written" Mt f Ar):aN gP gw gK gm gb r_ 3 f Ar ["word"] (Mn gK):=by
 refine F.o ["word"] λq b Aq a s H d Q E c h=>?_;let(x,Y,a,q):=h;refine(_,(aj (ay (vy.pe c ap (fH ?A (bn T.zfG))))),?_);exact(x,(12),Y,a,q)
def Td[T:Gd]:=cD T.D56 3 (Mn gK) zc
inductive ω(K:bI)(a:U V)(H:Hp)(Q:VK)(_E:XK):Prop
 |i(x:V)(_:a=[x])(_:EN x)(_:∀A,aa H A->Q (.bl (jW x)) A)
def Wl[T:Gd]:=cD T.D57 4 (ω gK) λF=>by
 refine F.o ["word"] λc q Aq a s H d Q E b h=>?_;let(x,Y,a,q):=h;refine(_,(aj (ay (pL (eN c7 ?A a9) (d0 (Td.pe b ap (e0 ?A)))))),?_);refine(Y,1,?_);cases x with
 |non=>exact aA (q _ (aa.refl _))
 |int i=>exact ao (1,a,q)
 |str z=>exact ao (1,a,q)
 |_=>exact a.elim
noncomputable def uz:V->eg
 |.non=>bm
 |.int i=>o4 (O i)
 |_=>b1
inductive L5(K:bI)(a:U V)(H:Hp)(Q:VK)(_E:XK):Prop
 |i(z:c3)(_:a=[.str z])(_:Q (.bl b1) H)
def Z6[T:Gd]:=cD T.D1 1 (L5 gK) λF=>by
 refine F.o ["thing"] λq b Aq a s H c Q E d h=>?_;let(z,Y,q):=h;refine(_,(aj (ay (fW (aH (cJ gK) ?r T.cK z3 (fH ?A (fY T.mD z2))) (d0 (kW (aH (cJ gK) ?r T.cK z3 (fH ?A (fY T.tP zv)))))))),?_);exact(_,_,1,fR (.str z) T.isi,1,ao q)
inductive Oh(K:bI)(a:U V)(H:Hp)(Q:VK)(_E:XK):Prop
 |i(x:V)(_:a=[x])(_:EN x)(_:Q (.bl (uz x)) H)
theorem OA[T:Gd]{f:a_}(T:Txt gK gm gt)(qt:Fg gP gw gK gm gb r_ 1 "is_whole" ["thing"] (L5 gK))(F:rS gK "is_value" "is_value" uw f Ar):aN gP gw gK gm gb r_ 2 f Ar ["value"] (λb H Q _=>∃z:c3,b=[.str z]/\Q (.bl b1) H):=by
 refine F.o (len:=by rintro _ _ _ _ ⟨z,rfl,_⟩;rfl) ["value"] λq c Aq a s H b Q E d h=>?_;let(z,Y,q):=h;refine(_,(aj (ay (pL (eN c7 ?A a9) (d0 (fW (qt.pe d ap (e0 ?A)) (d0 (mJ gL gL (fz fE (bn T.oQ)) ?A (bn T.oQ)))))))),?_);exact(Y,1,ao (z,Y,1,ao q))
def Q3[T:Gd]:=cD T.D2 2 (Oh gK) λF=>by
 refine ((y8 F).or0 (OA T.toTxt Z6 F)).imp λa H Q E h=>?_;let(x,Y,a,q):=h;cases x with
 |non=>exact .inl (bd,Y,q)
 |int i=>exact .inl (O i,Y,q)
 |str z=>exact .inr (z,Y,q)
 |_=>exact a.elim
inductive U3(K:bI)(t:Ad)(b:U V)(H:Hp)(Q:VK)(_E:XK):Prop
 |i(a:a_)(x:V)(_:b=[.ref a,x])(_:EN x)(_:(((∃N fs,H a=O (.ins t.cColumn N fs))/\∀A,aa H A->Q (.bl (uz x)) A)\/((∃N fs,H a=O (.ins t.cWordColumn N fs))/\∀A,aa H A->Q (.bl (jW x)) A)))
def R1[T:Gd]:=cD T.D58 5 (U3 gK gt) λF=>by
 refine F.o ["part","value"] λd c Aq b s H e Q E q h=>?_;let(a,x,Y,b,h):=h;refine(_,(aj (ay (cT (bY (aH (cJ gK) ?r T.cK z3 (fH ?A (dj T.oP)))) (Wl.pe q ap (e0 ?B)) (Q3.pe q ap (e0 ?B))))),?_);rcases h with⟨⟨N,fs,h⟩,q⟩ |⟨⟨N,fs,h⟩,q⟩
 ·exact(_,_,1,kE h T.c9 T.uY T.kh T.sN,1,ao (x,Y,b,q _ (aa.refl _)))
 ·exact(_,_,1,kE h T.db T.u5 T.kh T.sO,1,aA (x,Y,b,q))
def mr(L:U a_)(H A:Hp):Prop:=∀b o,b∉L->H b=O o->A b=O o
theorem mr.of(s:aa H A):mr L H A:=λb o _ e=>s b o e
theorem mr.one(k:Kp c H A)(a:c∈L):mr L H A:=λb o d e=>k b o (λz=>d (z ▸ a)) e
theorem mr.trans(a:mr L Ai An)(b:mr L An H3):mr L Ai H3:=λx o c e=>b x o c (a x o c e)
theorem mr.put{o:HO}(a:c∈L):mr L H (upd H c o):=λb Aw d e=>by exact (af (show b≠c from λz=>d (z ▸ a))) ▸ e
theorem mr.mono{a:U a_}(k:mr L H A)(h:∀b∈L,b∈a):mr a H A:=λb o a e=>k b o (λz=>a (h b z)) e
noncomputable def eJ:b8->U c3->U (Key×V)
 |_,[]=>[]
 |n,z::r=>(zzq (.inr z) (.int n))::eJ (n+1) r
theorem R8(n:b8)(I:U c3)(z:c3):aO (eJ n I) (.inr z)=if z∈I then O (.int ((n+I.idxOf z:b8):cs)) else bd:=by
 induction I generalizing n with
 |nil=>rfl
 |cons y r a=>
  by_cases e:y=z
  ·subst e;rw[d6 ea,m2];exact eQ Y
  ·refine (dM (p:=(zzq (l0 y) _)) λq=>e (sF q)).trans ((a (n+1)).trans ?_)
   grind
theorem yY:∀(n:b8)(I:U c3)(z:c3),eJ n (I++[z])=eJ n I++[(zzq (.inr z) (.int ((n+?lI:b8):cs)))]
 |n,[],z=>rfl
 |n,y::r,z=>by
  show _::eJ (n+1) (r++[z])=_::(eJ (n+1) r++_);simp only[yY (n+1) r z,e_]
  grind
theorem tV:∀(n:b8)(I:U c3),(eJ n I).length=?lI
 |_,[]=>rfl
 |n,_::r=>by show (eJ (n+1) r).length+1=_;rw[tV];rfl
theorem yX:∀(n:b8)(I:U c3),(eJ n I).map (λa=>kV a.1)=I.map V.str
 |_,[]=>rfl
 |n,z::r=>by show kV (.inr z)::(eJ (n+1) r).map _=_;rw[yX];rfl
def bu(I:U c3):U (Key×V):=eJ 0 I
def fj(t:Ad)(H:Hp)(a c d:a_)(I:U c3)(C:U OI):Prop:=(∃N,H a=O (.ins t.cWordColumn N [(zzq ("column") (.ref c)),(zzq ("numbered") (.ref d))]))/\d7 t.cColumn H c C/\H d=O (.dK (bu I))
theorem fj.same{t:Ad}{H A:Hp}{a c d:a_}{I:U c3}{C:U OI}(h:fj t H a c d I C)(s:aa H A):fj t A a c d I C:=by
 let((N,b),e,f):=h;exact((N,s _ _ b),e.same s,s _ _ f)
inductive RE(t:Ad)(a:U V)(H:Hp)(Q:VK)(_E:XK):Prop
 |i(p N:a_)(_:a=[.ref p])(_:H p=O (.ins t.cWordColumn N []))(_:∀(c d:a_)(A:Hp),fj t A p c d [] []->Kp p H A->H c=bd->H d=bd->c≠d->Q .non A)
def UA[T:Gd]:=cI T.D59 12 (RE gt) λF=>by
 let(f,g,j,m,a):=u9;refine F.o ["self"] λn g Aq f s H u Q E q h=>?_;let(p,N,Y,n,w):=h;refine(_,(ak (cF ?A (pK m j (q.mono ?a) Y T.xJ a .nil bW (e0 (bO dJ))) Y)
  (aj (cF ?A kT Y))),?_)
 refine(av Y,λl s=>?_);intro c f g j m;have a:H c=bd:=by
  rw[<-g,af];intro z;rw[z,ae]at g;cases g
 have u:(upd (upd (upd H l (.lst [])) f (.own c)) c (.ins gt.cColumn f [])) l=O (.lst []):=by
  have q:=aC ae j;have v:=aC ae g;rw[af v,af q];exact ae
 have q:aa H (upd (upd (upd H l (.lst [])) f (.own c)) c (.ins gt.cColumn f [])):=aG (aG (aa.new s) j) (by rw[af (fU m)];exact g);refine(c,f,l,[],Y,ae,eb.of u,ej _,λ_ An j s=>(Y,?_),λz=>(by cases z));have f:=aC n a;have g:=s p _ f (q _ _ n);refine(p,gt.cWordColumn,N,1,g,T.db,T.lM,?a,λd hd=>?_);have g:=aC ae hd;let(u,n):=j;have j:An d=bd:=by rw[<-hd,af (fU g)]
 have m:=aC n j;refine(p,gt.cWordColumn,N,1,by rw[af g];exact ae,T.db,T.lN,by show 1<1000;decide,w c d _ ((N,ae),(u,?_),?_) (λb o v e=>?_) a ?_ m)
 ·rw[af ?yf,af m,af ?yf];exact n
 ·rw[af ?yg,ae];rfl
 ·have f:b≠d:=λz=>by
   subst z;have:=s b o (λz=>by rw[z,a]at e;cases e) (q _ _ e);rw[j]at this;cases this
  rw[af v,af f,af v];exact s b o (λz=>by rw[z,a]at e;cases e) (q _ _ e)
 ·cases hz:H d with
  |none=>rfl
  |some o=>
   have:=s d o ?ym (q _ _ hz);rw[j]at this;cases this
inductive Q9(t:Ad)(b:U V)(H:Hp)(Q:VK)(_E:XK):Prop
 |i(a c d:a_)(I:U c3)(C:U OI)(x:V)(_:b=[.ref a,x])(_:fj t H a c d I C)(_:?lI<=1000)(_:((x = .non/\Q .non H)\/∃z:c3,x = .str z/\(z∈I->Q (.int (I.idxOf z)) H)/\(z∉I->Q (.int ?lI) (upd H d (.dK (bu (I++[z])))))))
def YU[T:Gd]:=cM T.D60 1 (Q9 gt) λF=>by
 refine F.o ["self","word"] λg f Aq b s H j Q E m h=>?_;let(a,c,d,I,C,x,Y,((N,g),b,f),m,h):=h;refine(_,(aj (ay (cT (aE c7 ?B a9) a9 (bX gK o1 my m0 tL (bp gK ?A Y) (fH ?B (aH j9 ?r T.be z4 (e0 (bp gK ?A Y)))))))),?_);refine(Y,1,?_);rcases h with⟨rfl,q⟩ |⟨z,rfl,n,p⟩
 ·exact aA q
 ·have j:=R8 0 I z;have b:(bu I).length=?lI:=tV 0 I;refine ao (a,_,N,_,1,g,T.db,T.lN,Y,.inr (.inr (.inl (Y,.inl (_,f)))),a,_,N,_,1,g,T.db,T.lN,Y,d,1,f,d,_,.inr z,1,Y,f,λv e=>?_,λe=>(?_,?_))
  ·have e:aO (eJ 0 I) (.inr z)=O v:=e;rw[j]at e;by_cases f:z∈I
   ·rw[d6 f,kR]at e;cases e;exact n f
   ·rw[du f]at e;cases e
  ·rw[b];exact bJ m
  ·have g:aO (eJ 0 I) (.inr z)=bd:=e;rw[j]at g;by_cases f:z∈I
   ·rw[d6 f]at g;cases g
   ·have g:bQ (bu I) (.inr z) (.int ((bu I).length:cs))=bu (I++[z]):=by
     rw[mW _ e,b];have:=yY 0 I z;rw[kR]at this;exact ?ythis
    rw[g,b];exact p f
noncomputable def dC(I:U c3):OI->V
 |none=>.non
 |some i=>.str (I.getD ?ii "")
def inR(I:U c3)(C:U OI):Prop:=∀i:cs,O i∈C->0<=i/\i<?lI
inductive MH(t:Ad)(b:U V)(H:Hp)(Q:VK)(_E:XK):Prop
 |i(a c d:a_)(I:U c3)(C:U OI)(_:b=[.ref a])(_:fj t H a c d I C)(_:o5 C=bm)(_:inR I C)(_:∀(l:a_)(A:Hp),aa H A->H l=bd->A l=O (.lst (C.map (dC I)))->Q (.ref l) A)
theorem Px:(["number","words"]:U c3).Nodup:=?k
def nB[T:Gd]:=cM T.D61 12 (MH gt) λF=>by
 let(b,m,n,e,f):=iR;refine F.o ["self","words"] λj m Aq b s H u Q E p h=>?_;let(a,c,d,I,C,Y,W,ok,hR,q):=h;let((N,m),u,g):=id W;have b:=iK ok;refine(_,(ak (aD 1 j (fw (oq Y) ?r T.gG z5 (e0 (bp gK ?A Y))))
  (aj (ay (bf (Ae:=["number","words"]) (fr:=[bd,O 1]) (ba (dZ (bp gK ?A Y) T.c9 e n (p.mono ?a) f .nil ap)) (λAk As s H=>(aF 0 Px,bh,(cT (aE c7 ?A a9) a9 (nC gK ?B ?A)))))))),?_)
 refine(a,_,N,_,1,m,T.db,T.lN,Y,d,1,g,λe b=>?_);rw[show (bu I).map (λn=>kV n.1)=I.map V.str from yX 0 I];have f:aa H (upd H e (.lst (I.map V.str))):=aa.new b;have s:(upd H e (.lst (I.map V.str))) e=O (.lst (I.map V.str)):=ae;let(n,p):=u.same f;refine(a,_,N,_,1,f _ _ m,T.db,T.lM,Y,c,n,1,p,Y,c,C,Y,(n,p),ok,λu An j v b=>?_);have m:=j _ _ s;refine(u,Y,(_,eb.of b),eC (ys:=C) (G:=ov) (dC I) (eb.of b) ?o (λi o p H3 v n y=>(Wk.set Y,Y,1,?_)) λl H3 n g s=>q l _ ((f.trans j).trans n) ((f.trans j).free s) g);cases o with
 |none=>exact aA (y _ (.refl _))
 |some k=>
  let(k0,b):=hR k (a0 p);refine ao (e,_,_,.str (I.getD ?ik ""),Y,Y,eb.of (n _ _ m),cO k0 ?_,y _ (.refl _));rw[a',bb,ag (show ?ik<?lI by omega)];rfl
noncomputable def dh(I:U c3):V->U c3×OI
 |.str z=>if z∈I then (zzq I (O (I.idxOf z:cs))) else (zzq (I++[z]) (O (?lI:cs)))
 |_=>(zzq I bd)
inductive Xh(t:Ad)(b:U V)(H:Hp)(Q:VK)(_E:XK):Prop
 |i(a c d:a_)(r:cs)(x:V)(I:U c3)(C:U OI)(_:b=[.ref a,.int r,x])(_:fj t H a c d I C)(_:o5 C=bm)(_:?lI<=1000)(_:0<=r)(_:r<(?lC:cs)+1)(_:(x = .non\/∃z,x = .str z))(_:o5 (cj C ?ir (dh I x).2)=bm)(_:∀A,mr [c,d] H A->fj t A a c d (dh I x).1 (cj C ?ir (dh I x).2)->Q .non A)
def NN[T:Gd]:=cM T.D62 13 (Xh gt) λF=>by
 let(m,s,w,y,A):=vc;let(m,n,e,j,s):=YU;refine F.o ["self","row","word"] λq n Aq m u H b Q E v h=>?_;let(a,c,d,r,x,I,C,Y,W,ok,B,D,G,J,b,K):=h;let((N,m),(f,g),q):=id W;have n:=bL m g λz=>cx (show (2)=1 from eG qT (HO.ins.inj z).2.2) ?a;have u:=bL m q (by intro z;cases z);have p:=bL g q (by intro z;cases z);refine(_,(aj (aV (aX (bp gK ?A Y) T.c9 y w (v.mono ?a) A .nil bW (fH ?B (aX ?A T.db j e (v.mono ?a) s .nil ap (e0 ?C)))))),?_);have fin:∀(o) (Ai),d7 gt.cColumn Ai c C->mr [c,d] H Ai->o=(dh I x).2->Ai d=O (.dK (bu (dh I x).1))->∀An,Kp c Ai An->d7 gt.cColumn An c (cj C ?ir o)->Q .non An:=λo Ai y v w s An e j=>by
  subst w;refine K An (v.trans (mr.one e ?s)) ((N,e a _ n (v a _ (by simp[n,u]) m)),j,e d _ ?yp s)
 refine(a,_,N,_,1,m,T.db,T.lM,Y,c,f,1,g,Y,a,N,1,m,Y,a,c,d,I,C,x,Y,W,B,?_);have s:?lC<8:=by
  have:=mH b;unfold cj at this;rw[cc,d8,e_,he]at this;omega
 have m:∀{Z:Prop},¬ (0<=r/\r<(?lC)+1)->Z:=λh=>cx (D,G) h;rcases J with rfl |⟨z,rfl⟩
 ·refine .inl (Y,c,r,bd,C,Y,(f,g),ok,s,λh=>m h,λ_ _ _ An e j=>fin bd H (f,g) (mr.of (aa.refl _)) Y q An e j,λ_ _ z=>?_);have:o5 (cj C ?ir bd)=bm:=b;rw[this]at z;cases z
 ·refine .inr (z,Y,λu=>?_,λu=>?_)
  ·have n:dh I (.str z)=(zzq I (O (I.idxOf z:cs))):=d6 u;refine(c,r,O (I.idxOf z),C,Y,(f,g),ok,s,λh=>m h,λ_ _ _ An e j=>fin _ H (f,g) (mr.of (aa.refl _)) (by rw[n]) (by rw[n];exact q) An e j,λ_ _ z=>?_);rw[n]at b;rw[b]at z;cases z
  ·have n:dh I (.str z)=(zzq (I++[z]) (O (?lI:cs))):=du u;have q:(upd H d (.dK (bu (I++[z])))) c=O (.ins gt.cColumn f [(zzq ("lying") (.str (jU C)))]):=by rw[af p];exact g
   refine(c,r,O (?lI),C,Y,(f,q),ok,s,λh=>m h,λ_ _ _ An e j=>fin _ _ (f,q) (mr.put ?s) (by rw[n]) (by rw[n];exact ae) An e j,λ_ _ z=>?_);rw[n]at b;rw[b]at z;cases z
inductive WF(t:Ad)(b:U V)(H:Hp)(Q:VK)(_E:XK):Prop
 |i(a c d:a_)(r:cs)(I:U c3)(C:U OI)(_:b=[.ref a,.int r])(_:fj t H a c d I C)(_:o5 C=bm)(_:0<=r)(_:r<(?lC:cs))(_:∀A,Kp c H A->fj t A a c d I (C.eraseIdx ?ir)->Q .non A)
def N9[T:Gd]:=cM T.D63 13 (WF gt) λF=>by
 let(b,e,j,p,q):=u8;refine F.o ["self","row"] λf e Aq b g H m Q E s h=>?_;let(a,c,d,r,I,C,Y,((N,e),(m,b),n),ok,u,v,w):=h;have f:=bL e b λz=>cx (show (2)=1 from eG qT (HO.ins.inj z).2.2) ?a;have g:=bL b n (by intro z;cases z);refine(_,(aj (aV (aX (bp gK ?A Y) T.c9 p j (s.mono ?a) q .nil bW (e0 ?B)))),?_);exact(a,_,N,_,1,e,T.db,T.lM,Y,c,m,1,b,Y,c,r,C,Y,(m,b),ok,λh=>cx (u,v) h,λ_ _ An j p=>w An j ((N,j a _ f e),p,j d _ ?yg n))
theorem Nj[hQ Au](a l:U Au):(met a l).length=?la+?ll↔l.Nodup/\∀x∈l,x∉a:=by
 induction l generalizing a with
 |nil=>simp[met]
 |cons k r b=>
  have b:=b (if k∈a then a else a++[k]);have c:=pj (if k∈a then a else a++[k]) r;show (met (if k∈a then a else a++[k]) r).length=?la+(?lr+1)↔_;by_cases d:k∈a
  ·rw[d6 d]at c ⊢;constructor
   ·grind
   ·simp_all
  ·rw[du d]at b ⊢;have e:?la+(?lr+1)=(a++[k]).length+?lr:=by rw[cc];simp;lia
   simp only[e,b,hD]
   grind
theorem O_[hQ Au](l:U Au):(met [] l).length=?ll↔l.Nodup:=by
 have:=Nj [] l;simpa using this
theorem xq{a b:c3}(h:m3 (.str a) (.str b)=bm):a=b:=by
 exact eh h
abbrev p':=c3×c3
variable{hs:U p'}{h:p'}
noncomputable def jG(h:p'):eg:=iO 8 (.str h.1) && decide (h.2 = "number" \/ h.2 = "word")
def fg(H:Hp)(X:U a_)(hs:U p'):Prop:=?lX=?lhs/\∀(i:b8)(a:a_)(h:p'),X[i]?=O a->hs[i]?=O h->H a=O (.tup [.str h.1,.str h.2])
theorem fg.same(h:fg H X hs)(s:aa H A):fg A X hs:=(h.1,λi a x b c=>s _ _ (h.2 i a x b c))
noncomputable def fu(hs:U p'):eg:=decide (1<=?lhs/\?lhs<=8) && (hs.all jG && decide ((hs.map (·.1)).Nodup))
inductive Yp(K:bI)(a:U V)(H:Hp)(Q:VK)(_E:XK):Prop
 |i(p:a_)(h:p')(_:a=[.ref p])(_:H p=O (.tup [.str h.1,.str h.2]))(_:asc h.1)(_:h.1.length<=1000)(_:∀A,aa H A->Q (.bl (jG h)) A)
def YN[T:Gd]:=cD T.D64 3 (Yp gK) λF=>by
 refine F.o ["head"] λf c Aq a s H g Q E d h=>?_;let(p,(n,k),Y,a,f,g,q):=h;refine(_,(ak (aI (PW.pt (fc (dQ (bY (aH (cJ gK) ?r T.cK z3 (fH ?A (fY T.pC qp))))) (fB (aE eK (aH (bR gK) ?r T.be z4 (e0 ?A)) ah)))) (aj (ay di))
   aK)
  (aj (ay (fW (vy.pe d ap (fH (l3 gK ?A ah) (bn T.zfF))) (d0 (mK (iL gK) (l3 gK ?A ah) (bP (fH au au)) ?r)))))),?_)
 refine(_,_,1,fR (.tup a) T.xZ,1,ao (p,1,.inr (fx.of a),Y,1,ao ?_));refine(p,_,_,1,Y,fx.of a,Y,_,(8),Y,(f,g),λAi c=>(1,?_));have q:∀A,aa H A->Q (.bl (iO 8 (.str n) && decide (k = "number" \/ k = "word"))) A:=q;generalize iO 8 (.str n)=b at q ⊢;cases b with
 |false=>exact ao (q _ c)
 |true=>
  refine aA (p,_,_,1,Y,fx.of (c _ _ a),Y,(show 2<=bT by decide),λf d=>(f,1,.inr (fx.of ae),Y,Y,?_));have e:sH (.str k) [V.str "number",V.str "word"]=decide (k = "number" \/ k = "word"):=by
   unfold sH;rw[g0];simp only[hx,HN,r2,m6,g1];constructor
   ·rintro (h |h)
    ·exact .inl (xq h).symm
    ·exact .inr (xq h).symm
   ·rintro (h |h) <;> subst h
    ·exact .inl (jE Y)
    ·exact .inr (jE Y)
  rw[e];exact q _ (aG c d)
inductive NL(K:bI)(t:Ad)(a:U V)(H:Hp)(Q:VK)(E:XK):Prop
 |i(l:a_)(X:U a_)(hs:U p')(_:a=[.ref l])(_:eb K H l (X.map V.ref))(_:fg H X hs)(_:?lhs<=100)(_:(∀h∈hs,asc h.1/\h.1.length<=1000))(_:(fu hs=bm->∀A,aa H A->Q .non A))(_:(fu hs=b1->∀A,aa H A->E (.ref t.eBadTable) bd A))
theorem NF:(["head"]:U c3).Nodup:=?k
theorem yJ:(["name","kind"]:U c3).Nodup:=?k
def Og[T:Gd]:=cD T.D65 4 (NL gK gt) λF=>by
 refine F.oX ["heads"] λd m Aq e s H q Q E n h=>?_;let(l,X,hs,Y,c,e,u,d,v,g):=h;have p:(X.map V.ref).length=?lhs:=by rw[ai];exact e.1
 refine(_,(ak (aI (dQ (zP gL gL ah (aH (bR gK) ?r T.be z4 (e0 ?A)) (bn T.zfC))) (aj (cU cY T.uX Y ?r T.oO (e0 au)))
   aK)
  (ak (aI (dQ (bY (aH (jz gK Y) ?r T.i8 zb (e0 (bf (Ae:=["head"]) (fr:=[bd]) (ba ?A) (λAk As s H=>(aF 0 NF,bh,(YN.pe n ap (e0 ?A))))))))) (aj (cU cY T.uX Y ?r T.oO (e0 au)))
   aK)
  (aj (aI (aE eK (aH VR ?r T.be z4 (e0 (fw (VA gK Y) ?r T.zjr qb (e0 (bf (Ae:=["name","kind"]) (fr:=[bd,bd]) (ba ?A) (λAk As s H=>(dA gK (n:=2) Y (bv (aF 0 yJ) (bv (aF 1 yJ) dB)),bh,?A))))))) (aH (bR gK) ?r T.be z4 (e0 ?A))) (aj (cU cY T.uX Y ?r T.oO (e0 au)))
   aK)))),?_)
 refine(l,1,.inl c,_,1,Y,1,?_);rw[p];by_cases s:(1:cs)<=(?lhs:cs)
 ·refine dT s (_,1,Y,1,?_);by_cases j:(?lhs:cs)<=8
  ·refine nF j (l,Y,(_,c),lR (ys:=X) (G:=V.ref) (hs.map λh=>.bl (jG h)) (by simp[e.1]) c (by rw[<-ai (f:=V.ref)];omega) (λi a z n hz Ai w Z q y=>?_) λb An f j _=>(b,hs.map jG,Y,.of (by rw[j,d_];rfl),1,?_))
   ·rw[a']at hz;let(h,m,Y):=d3.mp hz;let(x,A):=d _ (a0 m);exact(Wk.set Y,tT (a,h,Y,(e.same q).2 i _ _ n m,x,A,y))
   rw[l',MV];cases q:hs.all jG with
   |false=>
    refine aA (by show 1<=bT;decide,g ?_ An f);unfold fu;rw[q,Bool.false_and,n4]
   |true=>
    refine ao (l,Y,(_,f.seq c),lR (ys:=X) (G:=V.ref) ((hs.map (·.1)).map V.str) (by simp[e.1]) (f.seq c) (by rw[<-ai (f:=V.ref)];omega) (λi a z n hz H3 w Z x y=>?_) λA H4 B d _=>?_)
    ·rw[d_,a']at hz;let(h,m,Y):=d3.mp hz;exact(a,1,fx.of ((e.same (f.trans x)).2 i _ _ n m),Y,_,1,_,1,Y,(Wk.set Y).trans (Wk.set Y),tT (y _ (.refl _)))
    refine(A,hs.map (·.1),Y,eb.of d,by rw[ai];exact u,λn e=>?_);have m:=aG (o:=nQ n (met [] (hs.map (·.1))).length) (f.trans B) e;have e:=pj [] (hs.map (·.1));rw[ai]at e;refine(n,1,ae,by simp at e;omega,l,1,.inl (m.seq c),Y,1,?_);rw[hO,p];have e:=O_ (hs.map (·.1));rw[ai]at e;by_cases d:(hs.map (·.1)).Nodup
    ·refine nF (show ((met [] (hs.map (·.1))).length:cs)=(?lhs:cs) by rw[e.mpr d]) (v ?_ _ m);unfold fu;rw[dg ?o,q,dg d];rfl
    ·refine nT (show ¬ ((met [] (hs.map (·.1))).length:cs)=(?lhs:cs) from λz=>d (e.mp ?o)) (by show 1<=bT;decide,g ?_ _ m);unfold fu;rw[c4 d,n4,n4]
  ·refine nT j (by show 1<=bT;decide,g ?_ _ (aa.refl _));unfold fu;rw[c4 ?o];rfl
 ·refine dF s (1,aA (by show 1<=bT;decide,g ?_ _ (aa.refl _)));unfold fu;rw[c4 ?o];rfl
inductive PM where
 |num(g:U OI)
 |wrd(I:U c3)(C:U OI)
variable{fs:U (PM->PM)}
def PM.col:PM->U OI
 |.num g=>g
 |.wrd _ C=>C
noncomputable def PM.cells:PM->U V
 |.num g=>g.map ov
 |.wrd I C=>C.map (dC I)
def PM.ok:PM->Prop
 |.num g=>o5 g=bm
 |.wrd I C=>o5 C=bm/\inR I C/\?lI<=1000
def PM.takes:PM->V->eg
 |.num _=>uz
 |.wrd _ _=>jW
def PM.at(t:Ad)(H:Hp)(a:a_)(As:U a_):PM->Prop
 |.num g=>d7 t.cColumn H a g/\As=[a]
 |.wrd I C=>∃c d,fj t H a c d I C/\As=[a,c,d]
noncomputable def Hz:V->OI
 |.int i=>O i
 |_=>bd
noncomputable def PM.put(x:V):PM->PM
 |.num g=>.num (g++[Hz x])
 |.wrd I C=>.wrd (dh I x).1 (C++[(dh I x).2])
noncomputable def PM.drop(k:b8):PM->PM
 |.num g=>.num (g.eraseIdx k)
 |.wrd I C=>.wrd I (C.eraseIdx k)
theorem PM.keep{p:PM}(h:p.at t H a As)(k:mr L H A)(hd:∀b∈As,b∉L):p.at t A a As:=by
 cases p with
 |num g=>
  let((N,h),Y):=h;exact((N,k _ _ (hd a ?s) h),Y)
 |wrd I C=>
  let(c,d,((N,e),(f,j),m),Y):=h;exact(c,d,((N,k _ _ (hd a ?s) e),(f,k _ _ (hd c ?s) j),k _ _ (hd d ?s) m),Y)
theorem PM.kind{p:PM}(h:p.at t H a As)(e:b∈As):(∃Ak N fs,H b=O (.ins Ak N fs)/\?lfs<=2)\/∃kvs,H b=O (.dK kvs):=by
 cases p with
 |num g=>
  let((N,h),Y):=h;rw[d4.mp e];exact .inl (_,_,_,h,av Y)
 |wrd I C=>
  let(c,d,((N,f),(n,j),m),Y):=h;simp only[bG,dH,f8]at e;rcases e with rfl |rfl |rfl
  ·exact .inl (_,_,_,f,av Y)
  ·exact .inl (_,_,_,j,av Y)
  ·exact .inr (_,m)
abbrev aU:=a_×U a_×PM
variable{B:U aU}{q:aU}
def j0(t:Ad)(H:Hp)(B:U aU):Prop:=(∀q∈B,q.2.2.at t H q.1 q.2.1)/\((B.map (·.2.1)).flatten).Nodup
noncomputable def cz(C:U c3)(B:U aU):U (Key×V):=(C.zip B).map λq=>(zzq (.inr q.1) (.ref q.2.1))
theorem zm{z:c3}(h:z∉C):aO (cz C B) (.inr z)=bd:=by
 induction C generalizing B with
 |nil=>rfl
 |cons n r a=>cases B with
  |nil=>rfl
  |cons q B=>exact (dM (p:=(zzq (l0 n) _)) λe=>h (sF e ▸ .head _)).trans (a λm=>h (.tail _ m))
theorem QQ(h:?lC=?lB)(z:c3)(q:aU):cz (C++[z]) (B++[q])=cz C B++[(zzq (.inr z) (.ref q.1))]:=by
 delta cz
 rw[G1 h,b3];rfl
structure bM(t:Ad)(H:Hp)(tb pd ll:a_)(o:hg)(ns:U c3)(ps:U aU)(living:U cs)(coming:cs):Prop where
 tab:∃dx,H tb=O (.ins t.cTable dx [(zzq ("parts") (.ref pd)),(zzq ("living") (.ref ll)),(zzq ("coming") (.int coming))])
 dic:H pd=O (.frz o (.dK (cz ns ps)))
 liv:H ll=O (.lst (living.map V.int))
 par:j0 t H ps
 len:ns.length=ps.length
noncomputable def gF(h:p'):PM:=if h.2 = "word" then .wrd [] [] else .num []
inductive M_(K:bI)(t:Ad)(a:U V)(H:Hp)(Q:VK)(E:XK):Prop
 |i(p N l:a_)(X:U a_)(hs:U p')(_:a=[.ref p,.ref l])(_:H p=O (.ins t.cTable N []))(_:H l=O (.lst (X.map V.ref)))(_:fg H X hs)(_:?lhs<=100)(_:(∀h∈hs,asc h.1/\h.1.length<=1000))(_:(fu hs=b1->∀A,aa H A->E (.ref t.eBadTable) bd A))(_:(fu hs=bm->∀(A:Hp)(pd ll:a_)(o:hg)(B:U aU),bM t A p pd ll o (hs.map (·.1)) B [] 0->B.map (·.2.2)=hs.map gF->(∀q∈B,∀b∈q.2.1,H b=bd/\b≠pd)->H ll=bd->H pd=bd->ll≠pd->Kp p H A->Q .non A))
def S3[T:Gd]:=cI T.D66 14 (M_ gK gt) λF=>by
 let(s,I,g,w,M):=UA;let(s,I,a,f,j):=u9;refine F.oX ["self","columns","name","kind"] λJ m Aq I u H v Q E s h=>?_;let(p,N,l,X,hs,Y,L,I,A4,m,u,v,A8):=h;have C:=gB s;refine(_,(ak (aV (Og.pe s bF (e0 ?B)))
  (ak (cF ?A kT Y)
  (ak (PS.nox (dk ev Y (ba ?B) (dA gK (n:=2) Y (bv (aF 2 J) (bv (aF 3 J) dB)))
   (aj (uj C (bp gK ?A Y) ?C (cT (aE aW ?E au) (ub w g (s.mono ?a) Y T.oP M .nil ap) (pK f a (s.mono ?a) Y T.xJ j .nil bW (e0 (bO dJ)))) Y))))
  (ak (RH (cF ?A (bO dJ) Y))
  (aj (cF ?A ah Y)))))),?_)
 refine(l,X,hs,Y,eb.of I,A4,m,u,λgood Ai w=>?_,v);have A8:=A8 good;intro pd s;have J:(upd Ai pd (.dK [])) p=O (.ins gt.cTable N []):=by rw[af (aC (w _ _ L) s)];exact w _ _ L
 refine(p,gt.cTable,N,1,J,T.a8,T.iz,by show 0<1000;decide,?_);have J:l≠p:=bL I L (by intro z;cases z);have M:(hs.map (·.1)).Nodup:=by
  unfold fu at good;rw[eB,eB]at good;exact eh good.2.2
 have C:H pd=bd:=w.free s;have D:p≠pd:=aC (w _ _ L) s;have g:Kp p H (upd (upd Ai pd (.dK [])) p (.ins gt.cTable N [(zzq ("parts") (.ref pd))])):=λb o a e=>by
  rw[af a,af (aC (w _ _ e) s)];exact w _ _ e
 have R:(upd (upd Ai pd (.dK [])) p (.ins gt.cTable N [(zzq ("parts") (.ref pd))])) p=O (.ins gt.cTable N [(zzq ("parts") (.ref pd))]):=ae;have w:(upd (upd Ai pd (.dK [])) p (.ins gt.cTable N [(zzq ("parts") (.ref pd))])) pd=O (.dK []):=by rw[af ?yD];exact ae
 have s:∀{A:Hp},Kp p H A->A l=O (.lst (X.map V.ref)):=λk=>k l _ J I;refine(l,Y,(_,eb.of (s g)),⟨fQ (K:=gK) (a:=l) (B:=X.map V.ref) (λi σ A=>∃(S Z:b5 V)(B:U aU),σ=[O (.ref p),O (.ref l),S,Z]/\Kp p H A/\A p=O (.ins gt.cTable N [(zzq ("parts") (.ref pd))])/\A pd=O (.dK (cz ((hs.map (·.1)).take i) B))/\j0 gt A B/\B.map (·.2.2)=(hs.take i).map gF/\(∀q∈B,∀b∈q.2.1,H b=bd/\b≠pd)/\?lB=i)
  (bd,bd,[],Y,g,R,w,(λq f=>(by cases f),GQ),Y,λq f=>(by cases f),Y) (λi σ A I L=>by let(_,_,_,_,k,_):=L;exact eb.of (s k)) ?_ ?_⟩)
 ·rintro i x σ v w ⟨S,Z,B,rfl,P,g,j,⟨A5,A9⟩,G,u,m⟩;have s:i<?lX:=by
   have:=(bg.mp w).1
   rwa[ai]at this
  have I:i<?lhs:=by rw[<-A4.1];exact s
  rw[a',ag s]at w;cases w;have A6:hs[i]?=O hs[i]:=ag I;have I:=A4.2 i _ _ (ag s) A6;have AF:=P _ _ (bL I L (by intro z;cases z)) I;have K:(hs.map (·.1)).take (i+1)=(hs.map (·.1)).take i++[hs[i].1]:=by rw[ei,a',A6];rfl
  have A7:hs[i].1∉(hs.map (·.1)).take i:=by
   have:=M;rw[<-q7 (i+1) (hs.map (·.1)),K,mc]at this;exact λz=>(hn.mp this).2.2 _ z _ (hh _ (List.mem_singleton_self _)) Y
  have AA:((hs.map (·.1)).take i).length=?lB:=by rw[d8,ai];omega
  have step:∀(x:a_)(As:U a_)(H3:Hp),aa v H3->(gF hs[i]).at gt H3 x As->(∀b∈As,v b=bd)->As.Nodup->∃H4,iq H3 pd (.str hs[i].1) (.ref x) H4/\∃(S Z:b5 V)(B:U aU),[O (V.ref p),O (V.ref l),O (V.str hs[i].1),O (V.str hs[i].2)]=[O (.ref p),O (.ref l),S,Z]/\Kp p H H4/\H4 p=O (.ins gt.cTable N [(zzq ("parts") (.ref pd))])/\H4 pd=O (.dK (cz ((hs.map (·.1)).take (i+1)) B))/\j0 gt H4 B/\B.map (·.2.2)=(hs.take (i+1)).map gF/\(∀q∈B,∀b∈q.2.1,H b=bd/\b≠pd)/\?lB=i+1:=by
   intro x As H3 J AB s AC;have M:=J _ _ j;have AD:(cz ((hs.map (·.1)).take i) B).length<bT:=by
    unfold cz;rw[ai,hF];exact bJ ?o
   have I:∀b∈As,b≠pd:=λb a z=>by
    have:=s b a;rw[z,j]at this;cases this
   have AE:∀b∈As,H b=bd:=λb a=>by
    cases hz:H b with
    |none=>rfl
    |some o=>
     by_cases A3:b=p
     ·have:=s b a;rw[A3,g]at this;cases this
     ·have:=P b o A3 hz;rw[s b a]at this;cases this
   refine(_,iq.k (k:=.inr hs[i].1) M AD,_,_,B++[(zzq x (zzq As (gF hs[i])))],Y,λb o a e=>?_,?_,?_,(λq f=>?_,?_),?_,λq f=>?_,?_)
   ·rw[af (λz=>by rw[z,C]at e;cases e)];exact J _ _ (P b o a e)
   ·rw[af D];exact J _ _ g
   ·rw[ae,mW _ (zm A7),K,QQ AA]
   ·have A3:mr [pd] v (upd H3 pd (.dK (bQ (cz ((hs.map (·.1)).take i) B) (.inr hs[i].1) (.ref x)))):=(mr.of J).trans (mr.put ?s);rcases ek.mp f with h |h
    ·exact PM.keep (A5 q h) A3 λb a=>by simp[(u q h b a).2]
    ·rw[d4.mp h];exact PM.keep AB (mr.put (L:=[pd]) ?s) λb a=>by simp[I b a]
   ·rw[b3,k'];have A3:(([(zzq x (zzq As (gF hs[i])))]:U aU).map (·.2.1)).flatten=As:=?s
    rw[A3];refine hn.mpr (A9,AC,λb a c AA z=>?_);subst z;let(AB,A3,A7):=g7.mp a;let(q,f,Y):=cv.mp A3;have:=s b AA;rcases PM.kind (A5 q f) A7 with⟨_,_,_,e,_⟩ |⟨_,e⟩ <;> rw[e]at this <;> cases this
   ·rw[b3,G,ei,A6,b3];rfl
   ·rcases ek.mp f with h |h
    ·exact u q h
    ·rw[d4.mp h];exact λb a=>(AE b a,I b a)
   ·rw[cc,m];rfl
  refine(_,1,fx.of AF,Y,_,1,_,1,Y,?_);refine(Y,1,?_);have un:∀{y z:a_}{o:HO}{s:Hp},(upd s z o) y=bd->y≠z/\s y=bd:=λ{y z o s} h=>by
   have n:y≠z:=λe=>by rw[e,ae]at h;cases h
   rw[af n]at h;exact(n,h)
  by_cases A3:hs[i].2 = "word"
  ·rw[show decide (V.str hs[i].2=V.str "word")=bm by rw[A3,uK]];refine aA λx I w s A7=>(x,I,Y,ae,λc d H3 W AA A6 M AB=>(Y,?_))
   let(c1,AF):=un A6;let(A6,AG):=un M;have J:aa v H3:=λb o e=>AA b o (aC e w) (by rw[af (aC e w),af (aC e s)];exact e);let(H4,AC,AD):=step x [x,c,d] H3 J (by unfold gF;rw[d6 A3];exact(c,d,W,Y)) (λb a=>by
    simp only[bG,dH,f8]at a;rcases a with rfl |rfl |rfl
    ·exact w
    ·exact (un AF).2
    ·exact (un AG).2) (by simp[c1.symm,?yA6,AB])
   exact(p,_,N,_,1,J _ _ g,T.a8,T.iz,Y,pd,H4,Y,AC,AD)
  ·rw[lg A3];refine ao (av Y,λA6 M x I w s A7=>?_);let(A7,AB):=un w;have A7:aa v (upd v A6 (.lst [])):=aa.new M;have AF:(upd (upd (upd v A6 (.lst [])) I (.own x)) x (.ins gt.cColumn I [])) A6=O (.lst []):=by
    rw[af (aC ae w),af (aC ae s)];exact ae
   refine(x,I,A6,[],Y,ae,eb.of AF,ej _,λ_ H3 AG AA=>(Y,?_),λz=>(by cases z));have J:aa v H3:=λb o e=>AA b o (aC (A7 _ _ e) w) (by rw[af (aC (A7 _ _ e) w),af (aC (A7 _ _ e) s)];exact A7 _ _ e);let(H4,AC,AD):=step x [x] H3 J (by unfold gF;rw[du A3];exact(AG,Y)) (λb a=>by rw[d4.mp a];exact AB) ?s;exact(p,_,N,_,1,J _ _ g,T.a8,T.iz,Y,pd,H4,Y,AC,AD)
 ·rintro σ v ⟨S,Z,B,rfl,P,g,j,⟨A5,A9⟩,G,u,m⟩;have s:(X.map V.ref).length=?lhs:=by rw[ai];exact A4.1
  rw[s]at m G j;have K:(hs.map (·.1)).take ?lhs=hs.map (·.1):=hv (by rw[ai];exact b2 _);rw[K]at j;rw[dw]at G;refine(av Y,λll s=>?_);have w:p≠ll:=aC g s;have I:pd≠ll:=aC j s;have J:(upd v ll (.lst [])) p=O (.ins gt.cTable N [(zzq ("parts") (.ref pd))]):=by rw[af w];exact g
  refine(p,gt.cTable,N,1,J,T.a8,T.fk,by show 1<1000;decide,pd,cz (hs.map (·.1)) B,by rw[af ?yD,af I];exact j,λo=>?_);refine(p,gt.cTable,N,1,by rw[af D];exact ae,T.a8,T.qN,by show 2<1000;decide,?_);have J:∀b,b≠p->b≠pd->∀z,v b=O z->(upd (upd (upd (upd v ll (.lst [])) p (.ins gt.cTable N (cV "living" (.ref ll) [(zzq ("parts") (.ref pd))]))) pd (.frz o (.dK (cz (hs.map (·.1)) B)))) p (.ins gt.cTable N (cV "coming" (.int 0) (cV "living" (.ref ll) [(zzq ("parts") (.ref pd))])))) b=O z:=λb g R z e=>by
   rw[af g,af R,af g,af (aC e s)];exact e
  have AE:∀q∈B,∀b∈q.2.1,b≠p:=λq f b a z=>by
   have:=(u q f b a).1;rw[z,L]at this;cases this
  have M:H ll=bd:=by
   cases hz:H ll with
   |none=>rfl
   |some o=>
    have:=P ll o ?yw hz;rw[s]at this;cases this
  refine A8 _ pd ll o B ((N,ae),?_,?_,(λq f=>?_,A9),by rw[ai,m]) G u M C ?yI λb z a e=>?_
  ·rw[af ?yD];exact ae
  ·rw[af ?yw,af ?yI,af ?yw];exact ae
  ·exact PM.keep (L:=[p,pd]) (A5 q f) (λb z a e=>by
    simp only[bG,dH,f8,Es]at a;exact J b a.1 a.2 z e) λb a=>by simp[AE q f b a,(u q f b a).2]
  ·have R:b≠pd:=λz=>by rw[z,C]at e;cases e
   exact J b a R z (P b z a e)
theorem WL{z:c3}(f:C.Nodup)(c:C[i]?=O z)(d:B[i]?=O q):aO (cz C B) (.inr z)=O (.ref q.1):=by
 induction C generalizing B i with
 |nil=>cases c
 |cons n r g=>cases B with
  |nil=>cases d
  |cons p B=>cases i with
   |zero=>cases c;cases d;exact eQ Y
   |succ i=>
    let(a,b):=hD.mp f;exact (dM (p:=(zzq (l0 n) _)) λe=>a (sF e ▸ a0 c)).trans (g b c d)
theorem xV(n:cs)(l:U cs):sH (.int n) (l.map V.int)=decide (n∈l):=by
 delta sH
 rw[g0,hZ];simp only[g1];constructor
 ·rintro⟨v,a,e⟩;let(m,b,Y):=cv.mp a;exact (q_.mp e) ▸ b
 ·intro h;exact(_,cv.mpr (n,h,Y),jE Y)
theorem yk:∀{l:U cs}{n y:cs}{m:b8},m<l.idxOf n->l[m]?=O y->y≠n
 |[],n,y,m,_,h=>by cases h
 |a::r,n,y,m,b,h=>by
  by_cases e:a=n
  ·subst e;rw[m2]at b;omega
  ·have c:(a ==n)=b1:=ha.mpr e;rw[ux,c]at b;cases m with
   |zero=>cases h;exact e
   |succ k=>exact yk (m:=k) ?x h
theorem sQ(l:U cs):(l.map V.int).all bz=bm:=by
 rw[dv];intro x a;let(i,_,Y):=cv.mp a;rfl
theorem j0.same(h:j0 t H B)(s:aa H A):j0 t A B:=(λq a=>PM.keep (L:=[]) (h.1 q a) (mr.of s) λb _=>?s,h.2)
theorem bM.same{t:Ad}{H A:Hp}{Am pd ll:a_}{o:hg}{C:U c3}{B:U aU}{u:U cs}{P:cs}(h:bM t H Am pd ll o C B u P)(s:aa H A):bM t A Am pd ll o C B u P:=by
 let((N,a),b,c,d,e):=h;exact((N,s _ _ a),s _ _ b,s _ _ c,d.same s,e)
inductive MD(t:Ad)(a:U V)(H:Hp)(Q:VK)(E:XK):Prop
 |i(Am pd ll:a_)(o:hg)(C:U c3)(B:U aU)(u:U cs)(P:cs)(z:c3)(_:a=[.ref Am,.str z])(_:bM t H Am pd ll o C B u P)(_:C.Nodup)(_:(∀(i:b8)(q:aU),C[i]?=O z->B[i]?=O q->Q (.ref q.1) H))(_:(z∉C->E (.ref t.eNoColumn) bd H))
def lG[T:Gd]:=cM T.D67 1 (MD gt) λF=>by
 refine F.oX ["self","name"] λe b Aq a s H d Q E c h=>?_;let(Am,pd,ll,o,C,B,u,P,z,Y,((N,d),e,a,b,f),g,j,m):=h;have a:=gB c;have b:d9 H pd (.str z) (aO (cz C B) (.inr z)):=.inl (_,.inr z,.inr (o,e),Y,Y);refine(_,(ak (aI (um (T' a ?B (bp gK ?A Y))) (aj (cU cY T.zqn Y ?r T.xL (e0 au)))
   aK)
  (aj (ay (fX a (bp gK ?A Y) ?B (λ_ _=>rfl))))),?_)
 refine(Am,_,N,_,1,d,T.a8,T.iz,Y,pd,1,b,1,?_);by_cases hz:z∈C
 ·let(i,c):=ez hz;have a:i<?lB:=by rw[<-f];exact (bg.mp c).1
  have e:=WL g c (ag a);rw[e]at b ⊢;exact ao (Am,_,N,_,1,d,T.a8,T.iz,Y,pd,1,b,j i _ c (ag a))
 ·rw[zm hz];exact aA (?a,m hz)
inductive Qr(t:Ad)(a:U V)(H:Hp)(Q:VK)(E:XK):Prop
 |i(Am pd ll:a_)(o:hg)(C:U c3)(B:U aU)(u:U cs)(P n:cs)(_:a=[.ref Am,.int n])(_:bM t H Am pd ll o C B u P)(_:(n∈u->Q (.int (u.idxOf n)) H))(_:(n∉u->E (.ref t.eNoRow) bd H))
def QT[T:Gd]:=cM T.D68 1 (Qr gt) λF=>by
 refine F.oX ["self","number"] λc b Aq a s H d Q E e h=>?_;let(Am,pd,ll,o,C,B,u,P,n,Y,((N,c),a,b,d,g),e,f):=h;refine(_,(ak (aI (iN (zi gK) ?B (bp gK ?A Y) ?r) (aj (cU cY T.zbw Y ?r T.sh (e0 au)))
   aK)
  (aj (ay (bX gK d2 lj lm px (bp gK ?A Y) (e0 ?B))))),?_)
 refine(Am,_,N,_,1,c,T.a8,T.fk,Y,ll,1,.inl (eb.of b),Y,sQ _,1,?_);rw[xV];by_cases a:n∈u
 ·rw[dg a];have d:=e5 a;refine ao (Am,_,N,_,1,c,T.a8,T.fk,Y,.inl (Y,_,eb.of b),ll,_,_,u.idxOf n,Y,Y,b,sQ _,Y,(.int n,?_,jE Y),λm z g hz=>?_,e a)
  ·rw[a',ag d,n6 d];rfl
  ·rw[a']at hz;cases b:u[m]? with
   |none=>rw[b]at hz;cases hz
   |some y=>
    rw[b]at hz;cases hz;exact ha.mpr (yk g b)
 ·exact nT a (?a,f a)
inductive Xr(t:Ad)(a:U V)(H:Hp)(Q:VK)(_E:XK):Prop
 |i(Am pd ll:a_)(o:hg)(C:U c3)(B:U aU)(u:U cs)(P:cs)(_:a=[.ref Am])(_:bM t H Am pd ll o C B u P)(_:∀(l:a_)(A:Hp),aa H A->H l=bd->A l=O (.lst (u.map V.int))->Q (.ref l) A)
def Xf[T:Gd]:=cM T.D69 1 (Xr gt) λF=>by
 refine F.o ["self"] λc b Aq a s H d Q E e h=>?_;let(Am,pd,ll,o,C,B,u,P,Y,((N,b),a,c,d,e),q):=h;refine(_,(aj (ay (fw (rq gK) ?r T.gG z5 (e0 (bp gK ?A Y))))),?_);exact(Am,_,N,_,1,b,T.a8,T.fk,Y,ll,1,.inl (eb.of c),λl a=>q l _ (aa.new a) a ae)
noncomputable def gA(B:U aU)(g:U V):eg:=decide (?lg=?lB) && ((B.zip g).all λq=>q.1.2.2.takes q.2)
theorem tZ(h:?lC=?lB)(a:i<?lB):∃k,(cz C B)[i]?=O (zzq k (.ref B[i].1)):=by
 have a:i<?lC:=?x
 refine(.inr C[i],?_)
 delta cz
 simp_all
theorem t5(h:?lC=?lB):(cz C B).length=?lB:=by
 delta cz
 grind
theorem PM.cls{p:PM}(h:p.at t H a As):(∃N fs,H a=O (.ins t.cColumn N fs)/\p.takes=uz)\/(∃N fs,H a=O (.ins t.cWordColumn N fs)/\p.takes=jW):=by
 cases p with
 |num g=>
  let((N,h),_):=h;exact .inl (_,_,h,Y)
 |wrd I C=>
  let(c,d,((N,b),_),_):=h;exact .inr (_,_,b,Y)
inductive Tp(K:bI)(t:Ad)(a:U V)(H:Hp)(Q:VK)(E:XK):Prop
 |i(Am pd ll:a_)(o:hg)(C:U c3)(B:U aU)(u:U cs)(P:cs)(l:a_)(g:U V)(_:a=[.ref Am,.ref l])(_:bM t H Am pd ll o C B u P)(_:H l=O (.lst g))(_:(∀x∈g,EN x))(_:?lg<=100)(_:?lB<=100)(_:?lu<64)(_:(gA B g=bm->∀A,aa H A->Q .non A))(_:(gA B g=b1->∀A,aa H A->E (.ref t.eBadRow) bd A))
theorem yE:(["part","value"]:U c3).Nodup:=?k
def Qj[T:Gd]:=cM T.D70 6 (Tp gK gt) λF=>by
 refine F.oX ["self","values"] λA5 S Aq n X H AC Q E A3 h=>?_;let(Am,pd,ll,o,C,B,u,P,l,g,Y,TA,e,A4,n,S,A5,A6,G):=h;let((N,p),f,s,A7,I):=id TA;have v:(u.map V.int).length=?lu:=ai _;have a:=t5 I;refine(_,(ak (aI (aE aW (aH (bR gK) ?r T.be z4 (e0 (bp gK ?A Y))) (bn T.xP)) (aj (cU cY T.uW Y ?r T.oN (e0 au)))
   aK)
  (ak (aI (aE eK (aH (bR gK) ?r T.be z4 (e0 ?B)) (aH NY ?r T.be z4 (e0 (bp gK ?A Y)))) (aj (cU cY T.uW Y ?r T.oN (e0 au)))
   aK)
  (aj (aI (dQ (bY (aH (jz gK Y) ?r T.i8 zb (e0 (bf (Ae:=["part","value"]) (fr:=[bd,bd]) (zy gK ?r T.iJ (fH (ud (bp gK ?A Y)) ?B)) (λAk As X H=>(dA gK (n:=2) Y (bv (aF 0 yE) (bv (aF 1 yE) dB)),bh,(R1.pe A3 ap (fH ?A ?B))))))))) (aj (cU cY T.uW Y ?r T.oN (e0 au)))
   aK)))),?_)
 refine(Am,_,N,_,1,p,T.a8,T.fk,Y,ll,1,.inl (eb.of s),Y,1,?_);rw[hO,v,c4 (show ¬ (?lu:cs)=64 by omega)];refine ao (l,1,.inl (eb.of e),Am,_,N,_,1,p,T.a8,T.iz,Y,pd,1,.inr (o,f),Y,1,?_);rw[hO,a];by_cases J:?lg=?lB
 ·refine nF (show (?lg:cs)=(?lB:cs) by omega) (Am,_,N,_,1,p,T.a8,T.iz,Y,pd,1,.inr (o,f),λw c=>(w,pd,o,cz C B,l,g,Y,ae,?_,eb.of ?_,?_))
  ·rw[af (aC f c)];exact f
  ·rw[af (aC e c)];exact e
  have n:aa H (upd H w (iw w pd)):=aa.new c;have c:((B.zip g).map λq=>V.bl (q.1.2.2.takes q.2)).length=?lB:=by rw[ai,hF];omega
  refine QZ ((B.zip g).map λq=>V.bl (q.1.2.2.takes q.2)) n ?o (λi A d=>(λh=>(d _ _ f,by rw[a,<-c];exact h,g,_,eb.of (d _ _ e),ag ?o),λh=>(d _ _ f,g,eb.of (d _ _ e),.inl (by rw[a,<-c];exact h)))) (λi z hz x An H3 AD Z d A8 y=>?_) λb H3 j s _=>(b,(B.zip g).map λq=>q.1.2.2.takes q.2,Y,.of (by rw[s,d_];rfl),1,?_)
  ·let(K,D,Y,A9):=A8;let(k,AE,AF,L,M,Y):=A9 g (eb.of (d _ _ e));rw[a']at hz;let(q,AA,Y):=d3.mp hz;let(R,m):=gp.mp AA;let(c,n):=bg.mp R;let(e,a):=tZ I c;rw[a,n]at L;cases L;rw[m]at M;cases M;have j:aa H (upd An K (.tup [V.ref q.1.1,q.2])):=aG d D;refine(K,1,fx.of ae,Y,_,1,_,1,Y,(Wk.set Y).trans (Wk.set Y),tT (q.1.1,q.2,Y,A4 _ (a0 m),?_));rcases PM.cls ((A7.same j).1 _ (a0 R)) with⟨c,d,a,e⟩ |⟨c,d,a,e⟩
   ·exact .inl ((c,d,a),λH4 f=>by rw[<-e];exact y _ (j.trans f))
   ·exact .inr ((c,d,a),λH4 f=>by rw[<-e];exact y _ (j.trans f))
  rw[l'];have AB:gA B g=(B.zip g).all (λq=>q.1.2.2.takes q.2):=by unfold gA;rw[dg J];rfl
  show if (!((B.zip g).all (λq=>q.1.2.2.takes q.2)))=bm then _ else _
  rw[<-AB];cases c:gA B g with
  |true=>exact ao (A6 c _ j)
  |false=>exact aA (by show 1<=bT;decide,G c _ j)
 ·refine nT (show ¬ (?lg:cs)=(?lB:cs) by omega) (by show 1<=bT;decide,G ?_ _ (aa.refl _));unfold gA;rw[c4 J];rfl
noncomputable def cS:b8->U aU->U (PM->PM)->U aU
 |i+1,q::r,f::s=>(zzq q.1 (zzq q.2.1 (f q.2.2)))::cS i r s
 |_,B,_=>B
theorem pq:∀(i:b8)(B:U aU)(fs:U (PM->PM)),(cS i B fs).length=?lB
 |0,_,_=>rfl
 |_+1,[],_=>rfl
 |_+1,_::_,[]=>rfl
 |i+1,q::r,f::s=>by show (cS i r s).length+1=_;rw[pq];rfl
theorem yu{f:PM->PM}(a:B[i]?=O q)(b:fs[i]?=O f):(cS i B fs)[i]?=O q/\cS (i+1) B fs=(cS i B fs).set i (zzq q.1 (zzq q.2.1 (f q.2.2))):=by
 induction i generalizing B fs with
 |zero=>cases B with
  |nil=>cases a
  |cons p r=>cases fs with
   |nil=>cases b
   |cons Ao s=>cases a;cases b;exact(Y,Y)
 |succ i c=>cases B with
  |nil=>cases a
  |cons p r=>cases fs with
   |nil=>cases b
   |cons Ao s=>exact((c a b).1,eG (_ :: ·) (c a b).2)
theorem pk:∀(i:b8)(B:U aU)(fs:U (PM->PM)),(cS i B fs).map (λq=>(zzq q.1 q.2.1))=B.map (λq=>(zzq q.1 q.2.1))
 |0,_,_=>rfl
 |_+1,[],_=>rfl
 |_+1,_::_,[]=>rfl
 |i+1,q::r,f::s=>by show _::(cS i r s).map _=_::_;rw[pk]
noncomputable def FP(Am ll:a_)(B:U aU):U a_:=Am::ll::(B.map (·.2.1)).flatten
theorem xH{a:U aU}(h:a.map (λq=>(zzq q.1 q.2.1))=B.map (λq=>(zzq q.1 q.2.1))):(a.map (·.2.1)).flatten=(B.map (·.2.1)).flatten:=by
 have:=eG (GR Kl) h;simp only[d_,d_]at this;exact eG List.flatten this
theorem pJ:∀{C:U c3}{B a:U aU},a.map (λq=>(zzq q.1 q.2.1))=B.map (λq=>(zzq q.1 q.2.1))->cz C a=cz C B
 |[],_,_,_=>rfl
 |_::_,[],[],_=>rfl
 |_::_,[],_::_,h=>by cases h
 |_::_,_::_,[],h=>by cases h
 |n::r,q::B,b :: a,h=>by
  let(c,d):=E' h;show (zzq (l0 n) (V.ref b.1))::cz r a=(zzq (l0 n) (V.ref q.1))::cz r B;rw[pJ d,(Ϡ c).1]
theorem ZC{l:U (U a_)}{a b:U a_}{x:a_}(d:l.flatten.Nodup)(e:l[i]?=O a)(f:l[j]?=O b)(h:i≠j)(g:x∈a)(m:x∈b):fP:=by
 induction l generalizing i j with
 |nil=>cases e
 |cons c r n=>
  have d:=hn.mp d;cases i <;> cases j
  ·exact h Y
  ·cases e;exact d.2.2 x g x (g7.mpr (b,a0 f,m)) Y
  ·cases f;exact d.2.2 x m x (g7.mpr (a,a0 e,g)) Y
  ·exact n d.2.1 e f λz=>h (by rw[z])
theorem bM.upd{o:hg}(h:bM t H Am pd ll o C B u P){pm:PM}(g:B[i]?=O q)(k:mr q.2.1 H H3)(m:pm.at t H3 q.1 q.2.1):bM t H3 Am pd ll o C (B.set i (zzq q.1 (zzq q.2.1 pm))) u P:=by
 let((N,s),v,w,(x,f),y):=h;have n:=x q (a0 g);have a:(B.set i (zzq q.1 (zzq q.2.1 pm))).map (λq=>(zzq q.1 q.2.1))=B.map (λq=>(zzq q.1 q.2.1)):=by
  simp only[List.map_set];apply F4;intro j;rw[F5];by_cases e:i=j
  ·subst e;have p:=(bg.mp g).1
   simp_all
  ·rw[du e]
 have z:Am∉q.2.1:=λc=>by
  rcases PM.kind n c with⟨Ak,d,fs,e,p⟩ |⟨kvs,e⟩
  ·simp_all
  ·rw[s]at e;cases e
 have A:pd∉q.2.1:=λc=>by
  rcases PM.kind n c with⟨Ak,d,fs,e,p⟩ |⟨kvs,e⟩ <;> rw[v]at e <;> cases e
 have D:ll∉q.2.1:=λc=>by
  rcases PM.kind n c with⟨Ak,d,fs,e,p⟩ |⟨kvs,e⟩ <;> rw[w]at e <;> cases e
 refine((N,k _ _ z s),by exact (pJ a) ▸ (k _ _ A v),k _ _ D w,(λp n=>?_,by rw[xH a];exact f),by rw[List.length_set];exact y);let(j,a):=ez n;rw[F5]at a;by_cases e:i=j
 ·rw[d6 e]at a
  split at a
  ·cases a;exact m
  ·cases a
 ·rw[du e]at a;refine PM.keep (x p (a0 a)) k λb c n=>?_;exact ZC f (by rw[a',a];rfl) (by rw[a',g];rfl) (fU e) c n
theorem bM.apart{o:hg}(h:bM t H Am pd ll o C B u P)(a:q∈B)(c:b∈q.2.1)(hz:b=Am\/b=ll\/b=pd):fP:=by
 let((N,j),m,n,(f,g),p):=h;rcases PM.kind (f q a) c with⟨Ak,d,fs,e,a⟩ |⟨kvs,e⟩
 ·grind
 ·grind
theorem OU(a b c v:V):cV "coming" v ([(zzq ("parts") a),(zzq ("living") b),(zzq ("coming") c)]:U (c3×V))=([(zzq ("parts") a),(zzq ("living") b),(zzq ("coming") v)]:U (c3×V)):=Y
theorem oW(g:U OI)(o:OI):cj g ?lg o=g++[o]:=by
 delta cj
 grind
theorem pE{o:OI}(h:o5 g=bm)(a:?lg<8)(a:o4 o=bm):o5 (g++[o])=bm:=
 y4 (by simp only[cc,f'];assumption) (by simp only[List.all_append,pD h,jy,a];rfl)
theorem pI(h:uz x=bm):x=ov (Hz x)/\o4 (Hz x)=bm:=by
 cases x <;> first |exact(Y,Y) |exact(Y,h) |cases h
theorem uU(h:jW x=bm):x = .non\/∃z,x = .str z:=by
 cases x <;> first |exact .inl Y |exact .inr ⟨_,Y⟩ |cases h
theorem yQ(x:V)(h:?lI<=1000):o4 (dh I x).2=bm:=by
 cases x with
 |str z=>
  show o4 (if z∈I then (zzq I (O (I.idxOf z:cs))) else (zzq (I++[z]) (O (?lI)))).2=bm
  split
  ·have:=e5 ‹z∈I›;exact dg ?l
  ·show decide (_/\_)=bm;exact dg ?l
 |_=>rfl
inductive Zw(K:bI)(t:Ad)(a:U V)(H:Hp)(Q:VK)(E:XK):Prop
 |i(Am pd ll:a_)(o:hg)(C:U c3)(B:U aU)(u:U cs)(P:cs)(l:a_)(g:U V)(_:a=[.ref Am,.ref l])(_:bM t H Am pd ll o C B u P)(_:H l=O (.lst g))(_:l≠ll)(_:(∀x∈g,EN x))(_:?lg<=100)(_:?lB<=100)(_:?lu<8)(_:(∀q∈B,q.2.2.ok/\q.2.2.col.length=?lu))(_:(gA B g=bm->∀A,mr (FP Am ll B) H A->bM t A Am pd ll o C (cS ?lB B (g.map PM.put)) (u++[P]) (P+1)->Q (.int P) A))(_:(gA B g=b1->∀A,aa H A->E (.ref t.eBadRow) bd A))
def SO[T:Gd]:=cM T.D71 14 (Zw gK gt) λF=>by
 let(n,L,f,p,w):=Qj;let(n,s,L,M,y):=vc;let(n,s,D,G,J):=NN;refine F.oX ["self","values","part","value","number"] λK s Aq n X H v Q E S h=>?_;let(Am,pd,ll,o,C,B,u,P,l,g,Y,TA,n,m,A9,X,Z,A3,A4,A5,AA):=h;let((N,A6),A7,s,AB,A8):=id TA;have s:=t5 A8;have v:l∉FP Am ll B:=λj=>by
  unfold FP at j;rcases bG.mp j with z |j
  ·rw[z,A6]at n;cases n
  rcases bG.mp j with z |j
  ·exact m z
  let(As,m,j):=g7.mp j;let(q,R,Y):=cv.mp m;rcases PM.kind (AB.1 q R) j with⟨_,_,_,e,_⟩ |⟨_,e⟩ <;> rw[n]at e <;> cases e
 refine(_,(ak (aV (aX ?A T.a8 p f (S.mono ?a) w .nil bF (e0 ?B)))
  (ak (PS.nox (dk ev Y (zy gK ?r T.iJ (fH (ud (bp gK ?A Y)) ?B)) (dA gK (n:=2) Y (bv (aF 2 K) (bv (aF 3 K) dB)))
   (aj (aV (PE.alt (aX ?C T.c9 M L (S.mono ?a) y .nil bW (fH (aH (bR gK) ?r T.be z4 (e0 (bp gK ?A Y))) ?E)) (aX ?C T.db G D (S.mono ?a) J .nil ap (fH (aH (bR gK) ?r T.be z4 (e0 (bp gK ?A Y))) ?E)))))))
  (ak (aD 4 K (bp gK ?A Y))
  (ak (aV (bX gK d2 eH eL gE (bp gK ?A Y) (e0 ?G)))
  (ak (uk ?A ah sP)
  (aj (ay ?G))))))),?_)
 refine(Am,N,1,A6,Y,Am,pd,ll,o,C,B,u,P,l,g,Y,TA,n,A9,X,Z,c2 A3 ?a,λgood Ai f=>?_,AA);have A5:=A5 good;obtain⟨L,S⟩:?lg=?lB/\(B.zip g).all (λq=>q.1.2.2.takes q.2)=bm:=by
  unfold gA at good;rw[eB]at good;exact(eh good.1,good.2)
 have L:=TA.same f;have L:mr (FP Am ll B) H Ai:=mr.of f;refine(Am,_,N,_,1,f _ _ A6,T.a8,T.iz,Y,pd,1,.inr (o,f _ _ A7),λw p=>(w,pd,o,cz C B,l,g,Y,ae,?_,eb.of ?_,?_))
 ·rw[af (aC (f _ _ A7) p)];exact f _ _ A7
 ·rw[af (aC (f _ _ n) p)];exact f _ _ n
 have L:aa H (upd Ai w (iw w pd)):=aG f p;generalize upd Ai w (iw w pd)=An at L;refine rW (n:=?lB) (λi σ A=>∃w y:b5 V,σ=[O (.ref Am),O (.ref l),w,y,bd]/\mr (FP Am ll B) H A/\bM gt A Am pd ll o C (cS i B (g.map PM.put)) u P) (bd,bd,Y,mr.of L,TA.same L) ?_ ?_ ?_
 ·rintro i σ A p ⟨w,y,rfl,k,D⟩;have hd:=D.2;rw[pJ (pk _ _ _)]at hd;have f:=k l _ v n;exact(λh=>(hd,by rw[s];exact h,g,_,eb.of f,ag ?o),λh=>(hd,g,eb.of f,.inl (by rw[s];exact h)))
 ·rintro i x σ H3 H4 p ⟨w,y,rfl,k,D⟩ ⟨s,L,rfl,X⟩;let(k0,Z,J,f,M,Y):=X g (eb.of (k l _ v n));let(X,n):=tZ A8 p;rw[n]at f;cases f;have f:i<?lg:=?o
  rw[ag f]at M;cases M;have v:aa H3 (upd H3 s (.tup [V.ref B[i].1,g[i]])):=aa.new L;have L:=D.same v;have M:=k.trans (mr.of (L:=FP Am ll B) v);have n:(upd H3 s (.tup [V.ref B[i].1,g[i]])) s=O (.tup [V.ref B[i].1,g[i]]):=ae;generalize upd H3 s (.tup [V.ref B[i].1,g[i]])=H4 at v L M n;refine(s,1,fx.of n,Y,_,1,_,1,Y,?_);have n:B[i]?=O B[i]:=ag p;let(X,J):=yu (i:=i) (B:=B) (fs:=g.map PM.put) n (by rw[a',ag f];rfl);have s:=L.par.1 _ (a0 X);have v:B[i].2.2.takes g[i]=bm:=dv.mp S (zzq (B[i]) (g[i])) (a0 (i:=i) (gp (z:=(zzq (B[i]) (g[i]))) |>.mpr (n,ag f)));let(S,n):=A4 _ (d1 p);have m:∀b∈B[i].2.1,b∈FP Am ll B:=λb j=>dz _ (dz _ (g7.mpr (_,cv.mpr (_,d1 p,Y),j)));have fin:∀(pm:PM)(p:Hp),mr B[i].2.1 H4 p->pm.at gt p B[i].1 B[i].2.1->pm=B[i].2.2.put g[i]->∃w y:b5 V,[O (V.ref Am),O (V.ref l),O (V.ref B[i].1),O g[i],bd]=[O (.ref Am),O (.ref l),w,y,bd]/\mr (FP Am ll B) H p/\bM gt p Am pd ll o C (cS (i+1) B (g.map PM.put)) u P:=λpm p G f K=>by
   refine(_,1,M.trans (G.mono m),?_);rw[J,<-K];exact L.upd X G f
  let((J,m),_,K,_,_):=id L;have L:(u.map V.int).length=?lu:=ai _;generalize B[i]=f at s v S n fin;let(a,As,pm):=f;cases pm with
  |num Ap=>
   let((Z,A3),f):=s;have n:?lAp=?lu:=n;let(A4,X):=pI v;refine .inl (a,Z,1,A3,Y,Am,_,J,_,1,m,T.a8,T.fk,Y,ll,1,.inl (eb.of K),a,(?lu:cs),Hz g[i],Ap,?_,(Z,A3),S,?o,λh=>cx (?o,?o) h,λ_ _ _ p G M=>?_,λ_ _ z=>?_)
   ·rw[L,<-A4];rfl
   ·have M:=M;rw[e4,<-n,oW]at M;have f:As=[a]:=f;exact fin (.num (Ap++[Hz g[i]])) p (mr.one G (by show a∈As;rw[f];simp)) (M,f) Y
   ·rw[e4,<-n,oW,pE S ?o X]at z;cases z
  |wrd I X=>
   let(c,d,W,f):=s;let(s,Z,M):=S;have n:?lX=?lu:=n;let((Z,A3),_):=id W;refine .inr (a,Z,1,A3,Y,Am,_,J,_,1,m,T.a8,T.fk,Y,ll,1,.inl (eb.of K),a,c,d,(?lu:cs),g[i],I,X,?_,W,s,M,?o,?o,uU v,?_,λp G S=>?_)
   ·rw[L];rfl
   ·rw[e4,<-n,oW];exact pE s ?o (yQ g[i] M)
   ·rw[e4,<-n,oW]at S;have f:As=[a,c,d]:=f;exact fin (.wrd (dh I g[i]).1 (X++[(dh I g[i]).2])) p (G.mono (by intro b j;show b∈As;rw[f];simp at j ⊢;rcases j with rfl |rfl <;> simp)) (c,d,S,f) Y
 ·rintro σ H3 ⟨w,y,rfl,k,D⟩;let((f,n),s,p,v,L):=id D;have M:Am≠ll:=bL n p (by intro z;cases z);have X:pd≠Am:=bL s n (by intro z;cases z);have S:pd≠ll:=bL s p (by intro z;cases z);refine(Am,_,f,_,1,n,T.a8,T.qN,Y,?_);refine(Am,_,f,_,1,n,T.a8,T.fk,Y,.inl (Y,_,eb.of p),ll,_,1,Y,p,by rw[ai];exact bJ ?o,?_);have m:(upd H3 ll (.lst (u.map V.int++[V.int P]))) Am=O (.ins gt.cTable f [(zzq ("parts") (.ref pd)),(zzq ("living") (.ref ll)),(zzq ("coming") (.int P))]):=by rw[af M];exact n
  refine(Am,_,f,_,1,m,T.a8,T.qN,Y,_,1,Y,f,_,m,by show 3<1000;decide,?_);rw[OU];refine A5 _ (k.trans ((mr.put (by unfold FP;simp)).trans (mr.put (by unfold FP;simp)))) ((f,ae),?_,?_,(λq R=>?_,v.2),L)
  ·rw[af X,af S];exact s
  ·rw[af ?yM,ae,b3];rfl
  ·refine PM.keep (L:=[ll,Am]) (v.1 q R) ((mr.put ?s).trans (mr.put ?s)) λb j f=>?_;simp only[bG,dH,f8]at f;exact D.apart R j (by rcases f with z |z <;> simp[z])
theorem xt:∀(l:U cs)(k:b8),(l.map V.int).eraseIdx k=(l.eraseIdx k).map V.int
 |[],_=>rfl
 |_::_,0=>rfl
 |a::r,k+1=>by show V.int a::(r.map V.int).eraseIdx k=V.int a::(r.eraseIdx k).map V.int;rw[xt]
theorem iC(p:PM):?lp.cells=?lp.col:=by cases p <;> exact ai _
theorem Vs{p:PM}(h:k<?lp.col):p.cells[k]?=O (p.cells.getD k .non):=by
 have h:k<?lp.cells:=by rw[iC];exact h
 simp_all
inductive P8(t:Ad)(a:U V)(H:Hp)(Q:VK)(E:XK):Prop
 |i(Am pd ll:a_)(o:hg)(C:U c3)(B:U aU)(u:U cs)(P n:cs)(_:a=[.ref Am,.int n])(_:bM t H Am pd ll o C B u P)(_:?lB<=100)(_:?lu<=64)(_:(∀q∈B,q.2.2.ok/\q.2.2.col.length=?lu))(_:(n∉u->E (.ref t.eNoRow) bd H))(_:(n∈u->∀A,mr (FP Am ll B) H A->bM t A Am pd ll o C (cS ?lB B (er ?lB (PM.drop (u.idxOf n)))) (u.eraseIdx (u.idxOf n)) P->Q .non A))
def YJ[T:Gd]:=cM T.D72 14 (P8 gt) λF=>by
 let(f,y,e,g,j):=QT;let(f,y,m,p,v):=u8;let(f,K,w,y,D):=N9;refine F.oX ["self","number","place","part"] λL K Aq f s H J Q E G h=>?_;let(Am,pd,ll,o,C,B,u,P,n,Y,TA,f,K,J,S,s):=h;let((N,M),K,f,X,R):=id TA;have f:=t5 R;refine(_,(ak (aD 2 L (aX ?A T.a8 g e (G.mono ?a) j .nil bF (e0 ?B)))
  (ak (PS.nox (dk ev Y (Rn (ud (bp gK ?A Y))) (aF 3 L)
   (aj (aV (PE.alt (aX ?E T.c9 p m (G.mono ?a) v .nil bW (e0 ?C)) (aX ?E T.db y w (G.mono ?a) D .nil ap (e0 ?C)))))))
  (aj (aV (bX gK d2 yl ym yw (bp gK ?A Y) (e0 ?C)))))),?_)
 refine(Am,N,1,M,Y,Am,pd,ll,o,C,B,u,P,n,Y,TA,λe=>?_,S);have s:=s e;have G:=e5 e;generalize u.idxOf n=k at s G;refine(Am,_,N,_,1,M,T.a8,T.iz,Y,pd,1,.inr (o,K),λg e=>(g,pd,o,cz C B,Y,ae,?_,?_))
 ·rw[af (aC K e)];exact K
 have y:aa H (upd H g (iw g pd)):=aa.new e;refine rW (n:=?lB) (λi σ A=>∃j:b5 V,σ=[O (.ref Am),O (.int n),O (.int k),j]/\mr (FP Am ll B) H A/\bM gt A Am pd ll o C (cS i B (er ?lB (PM.drop k))) u P) (bd,Y,mr.of y,TA.same y) ?_ ?_ ?_
 ·rintro i σ A e ⟨j,rfl,kk,v⟩;have hd:=v.2;rw[pJ (pk _ _ _)]at hd;exact(λh=>(hd,by rw[f];exact h),λh=>(hd,by rw[f];exact h))
 ·rintro i x σ H3 H4 e ⟨j,rfl,kk,K⟩ ⟨rfl,k0,f⟩;let(g,y):=tZ R e;rw[y]at f;cases f;have f:=ag e;let(L,M):=yu (i:=i) (B:=B) f (by rw[pa,d6 e]);have g:=K.par.1 _ (a0 L);let(w,p):=J _ (d1 e);have y:∀b∈B[i].2.1,b∈FP Am ll B:=λb D=>dz _ (dz _ (g7.mpr (_,cv.mpr (_,d1 e,Y),D)));have fin:∀(pm:PM)(f:Hp),mr B[i].2.1 H4 f->pm.at gt f B[i].1 B[i].2.1->pm=B[i].2.2.drop k->∃j:b5 V,[O (V.ref Am),O (V.int n),O (V.int k),O (V.ref B[i].1)]=[O (.ref Am),O (.int n),O (.int k),j]/\mr (FP Am ll B) H f/\bM gt f Am pd ll o C (cS (i+1) B (er ?lB (PM.drop k))) u P:=λpm f m e J=>by
   refine(1,kk.trans (m.mono y),?_);rw[M,<-J];exact K.upd L m e
  generalize B[i]=y at g w p fin;let(a,As,pm):=y;cases pm with
  |num Ap=>
   let((y,K),e):=g;have p:?lAp=?lu:=p;have e:As=[a]:=e;exact .inl (a,y,1,K,Y,a,(k:cs),Ap,Y,(y,K),w,λh=>cx (?o,?o) h,λ_ _ f m J=>fin (.num (Ap.eraseIdx k)) f (mr.one m (by show a∈As;rw[e];simp)) (J,e) Y)
  |wrd I y=>
   let(c,d,W,e):=g;let(g,K,J):=w;have p:?ly=?lu:=p;have e:As=[a,c,d]:=e;let((K,p),_):=id W;exact .inr (a,K,1,p,Y,a,c,d,(k:cs),I,y,Y,W,g,?o,?o,λf m J=>fin (.wrd I (y.eraseIdx k)) f (mr.one m (by show c∈As;rw[e];simp)) (c,d,J,e) Y)
 ·rintro σ H3 ⟨j,rfl,kk,v⟩;let((g,f),j,e,m,y):=id v;have K:Am≠ll:=bL f e (by intro z;cases z);have J:pd≠ll:=bL j e (by intro z;cases z);have w:(u.map V.int).length=?lu:=ai _;have p:w2 (k:cs) (u.map V.int).length=O k:=by
   rw[w];exact (oZ (x6 ?o ?o)).1
  refine(Am,_,g,_,1,f,T.a8,T.fk,Y,.inl (Y,_,eb.of e),ll,_,(k:cs),k,V.int u[k],Y,Y,e,?o,?o,p,by rw[a',ag G];rfl,?_);have e:=xt u k;rw[e];refine s _ (kk.trans (mr.put (by unfold FP;simp))) ((g,by rw[af K];exact f),by rw[af J];exact j,ae,(λq p=>?_,m.2),y);refine PM.keep (L:=[ll]) (m.1 q p) (mr.put ?s) λb D e=>?_;rw[d4]at e;exact v.apart p D (.inr (.inl e))
noncomputable def E1:U c3:=["a","b","age","abcdefgh","zz"]
theorem SF:E1.Nodup:=?k
theorem VO:∀z∈E1,iO 8 (.str z)=bm:=?k
theorem Yu:∀z∈E1,z.cps.all (· < 128)=bm/\?lz<=1000:=?k
def LH(hs:U p'):Prop:=1<=?lhs/\?lhs<=3/\∃r:b8,∀(j:b8)(h:p'),hs[j]?=O h->E1[(j+r) % 5]?=O h.1/\(h.2 = "number" \/ h.2 = "word")
theorem LH.mem(L:LH hs)(c:h∈hs):h.1∈E1/\(h.2 = "number" \/ h.2 = "word"):=by
 let(_,_,r,a):=L;let(j,b):=ez c;exact(a0 (a j h b).1,(a j h b).2)
theorem LH.nodup(L:LH hs):(hs.map (·.1)).Nodup:=by
 let(_,b,r,a):=L;rw[List.nodup_iff_pairwise_ne,kS];intro i j b c d e;simp only[ai]at b c;simp only[F_,F_]at e;have d:=(a i _ (ag b)).1;have b:=(a j _ (ag c)).1;rw[<-e]at b;have:=eY SF d b
 lia
theorem LH.good(L:LH hs):fu hs=bm:=by
 delta fu
 rw[dg (L.1,ce L.2.1 ?a),dg L.nodup];have:hs.all jG=bm:=dv.mpr λh c=>by
  let(a,b):=L.mem c
  delta jG
  simp only[VO _ a,dg b];rfl
 rw[this];rfl
noncomputable def iE(h:p')(x:V):eg:=if h.2 = "word" then jW x else uz x
theorem Ue(i:b8)(m:cs):((0+(i:cs)+m) % 5).toNat=(i+(m % 5).toNat) % 5:=by
 rw[th,<-Int.add_emod_emod];let(j,a):=A' (fi m (b:=5) ?a);rw[a];rfl
inductive Qs(K:bI)(a:U V)(H:Hp)(Q:VK)(_E:XK):Prop
 |i(p:a_)(C:U cs)(k:cs)(_:a=[.ref p,.int k])(_:eb K H p (C.map V.int))(_:∀(l:a_)(X:U a_)(hs:U p')(A:Hp),aa H A->H l=bd->A l=O (.lst (X.map V.ref))->fg A X hs->LH hs->Q (.ref l) A)
def vA[T:Gd]:=cD T.D99 4 (Qs gK) λF=>by
 refine F.o ["_law_script","_law_k","_law_names","_law_found_here","_law_j"] λd N Aq c s H y Q E g h=>?_;let(p,C,k,Y,x,q):=h;refine gz (_,(mU 2 d (im (aS au (aS au (aS au (aS au (aS au gM)))))) (bi (aD 3 d (bO dJ))
  (bi (dk ev Y (gO ?r T.eZ (e0 (aq aT ah (aq bV (fF.pe g ap (fH ?A ?B)) ah)))) (aF 4 d)
   (aj (aV (bX gK d2 eH eL gE ?E (e0 (bP (fH (nC gK ?C (aq bV (aq aT ?G (fF.pe g ap (fH ?A (aq aT ?B ah)))) ah)) (nC gK (bO (fH au au)) (aq bV (fF.pe g ap (fH ?A (aq aT (aq aT ?B ah) ?G))) ah)))))))))
  (pR (ay ?E))))),?_)
 refine(av Y,λd c=>?_);have N:aa H (upd H d (.lst (E1.map V.str))):=aa.new c;have f:(upd H d (.lst (E1.map V.str))) d=O (.lst (E1.map V.str)):=ae;show eF _ _ _ (upd H d (.lst (E1.map V.str))) _;generalize upd H d (.lst (E1.map V.str))=Ai at N f;refine(av Y,λb c=>?_);have m:aa Ai (upd Ai b (.lst [])):=aa.new c;have y:(upd Ai b (.lst [])) b=O (.lst (([]:U a_).map V.ref)):=ae;have g:=m _ _ f;have D:d≠b:=aC f c;have f:=N.free c;show eF _ _ _ (upd Ai b (.lst [])) _;generalize upd Ai b (.lst [])=An at m y g;have c:=N.trans m;have N:=fi (mix C k) (b:=3) ?a;have N:=fl (mix C k) (b:=3) ?a;refine(p,C,1,c.seq x,_,1,Y,by show (0:cs)<3;decide,_,1,Y,1,by show -2 ^ 62<=1+mix C k % 3;omega,by show 1+mix C k % 3<2 ^ 62;omega,?_);obtain⟨N,m,B,K⟩:∃N:b8,1+mix C k % 3=N/\1<=N/\N<=3:=((1+mix C k % 3).toNat,?o,?o,?o)
 dsimp only;rw[m,e4];have N:=fi (mix C (k+1)) (b:=5) ?a;refine⟨oK (λi σ A=>∃(G:b5 V)(X:U a_)(hs:U p'),σ=[O (.ref p),O (.int k),O (.ref d),O (.ref b),G]/\aa H A/\A d=O (.lst (E1.map V.str))/\A b=O (.lst (X.map V.ref))/\fg A X hs/\?lhs=i/\∀(j:b8)(h:p'),hs[j]?=O h->E1[(j+(mix C (k+1) % 5).toNat) % 5]?=O h.1/\(h.2 = "number" \/ h.2 = "word"))
  (bd,[],[],Y,c,g,y,(Y,λi a h e=>(by cases e)),Y,λj h e=>(by cases e)) ?_ ?_⟩
 ·rintro i σ H3 N ⟨G,X,hs,rfl,v,m,w,n,c,s⟩;have g:=fi (0+(i:cs)+mix C (k+1)) (b:=5) ?a;have N:=fl (0+(i:cs)+mix C (k+1)) (b:=5) ?a;have y:=Ue i (mix C (k+1));have hz:((0+(i:cs)+mix C (k+1)) % 5).toNat<?lE1:=by show _<5;omega
  obtain⟨u,I⟩:∃u,E1[((0+(i:cs)+mix C (k+1)) % 5).toNat]?=O u:=(_,ag hz)
  have N:s8 (E1.map V.str) ((0+(i:cs)+mix C (k+1)) % 5)=O (.str u):=cO g (by rw[a',I];rfl);rw[y]at I;obtain⟨g,y,J⟩:∃g:c3,s8 [V.str "number",V.str "word"] (mix C (k+2+(0+(i:cs))) % 2)=O (.str g)/\(g = "number" \/ g = "word"):=by
   rcases (show mix C (k+2+(0+(i:cs))) % 2=0\/mix C (k+2+(0+(i:cs))) % 2=1 by omega) with e |e <;> rw[e]
   ·exact(1,.inl Y)
   ·exact(1,.inr Y)
  refine(.inl (Y,_,eb.of w),_,1,Y,p,C,1,v.seq x,_,1,Y,_,1,Y,by show (0:cs)<5;decide,d,_,_,1,Y,eb.of m,N,av Y,λB K=>?_);have L:aa H3 (upd H3 B (.lst [V.str "number",V.str "word"])):=aa.new K;refine(_,1,Y,_,1,Y,p,C,1,(v.trans L).seq x,_,1,Y,by show (0:cs)<2;decide,B,_,_,1,Y,eb.of ae,y,(show 2<=bT by decide),λN d=>?_);have y:=aG (o:=.tup [V.str u,V.str g]) L d;have M:=y _ _ w;have x:(upd (upd H3 B (.lst [V.str "number",V.str "word"])) N (.tup [V.str u,V.str g])) N=O (.tup [V.str u,V.str g]):=ae;have K:N≠b:=λz=>by rw[z,L _ _ w]at d;cases d
  refine(b,_,1,Y,M,by rw[ai,n.1];exact bJ ?o,O (.int (0+(i:cs))),X++[N],hs++[(zzq u g)],Y,pW (v.trans y) f,?_,?_,(?_,λj a h d B=>?_),?_,λj h e=>?_)
  ·rw[af D];exact y _ _ m
  ·rw[ae,b3];rfl
  ·rw[cc,cc,n.1];rfl
  ·rcases jF d with d |⟨rfl,rfl⟩ <;> rcases jF B with B |⟨g,rfl⟩
   ·have N:=y _ _ (n.2 j a h d B);rw[af (λz=>by rw[z,M]at N;cases N)];exact N
   ·have:=(bg.mp d).1;rw[n.1,<-g]at this;exact cx this (fS _)
   ·have:=(bg.mp B).1;rw[n.1]at this;exact cx this (fS _)
   ·rw[af K];exact x
  ·rw[cc,c];rfl
  ·rcases jF e with e |⟨rfl,rfl⟩
   ·exact s j h e
   ·rw[c];exact(I,J)
 ·rintro σ H3 ⟨G,X,hs,rfl,v,m,w,n,c,s⟩;exact q b X hs H3 v f w n (?o,?o,_,s)
theorem ue{g:U V}{z:cs}(b:0<=z)(a:z<?lg):∃v,s8 g z=O v/\v∈g:=by
 have a:?iz<?lg:=?x
 exact(g[?iz],cO b (ag a),d1 a)
noncomputable def y6:V->eg
 |.str z=>z.cps.all (· < 128) && decide (?lz<=1000)
 |.non=>bm
 |.int _=>bm
 |_=>b1
theorem y7(h:y6 x=bm):EN x:=by
 cases x with
 |str z=>
  have h:(z.cps.all (· < 128) && decide (?lz<=1000))=bm:=h;simp only[eB]at h;exact(h.1,eh h.2)
 |non=>trivial
 |int i=>trivial
 |_=>cases h
noncomputable def uV:U V:=[.str "a", .str "b", .str "ab", .str "zz", .non,.str "abcdefghijkl", .str "ba"]
theorem Zv:∀x∈uV,y6 x=bm/\jW x=bm:=by
 intro x a
 delta uV at a
 simp only[bG,dH,f8]at a;rcases a with rfl |rfl |rfl |rfl |rfl |rfl |rfl <;> decide +kernel
inductive TM(K:bI)(a:U V)(H:Hp)(Q:VK)(_E:XK):Prop
 |i(p:a_)(C:U cs)(k:cs)(z:c3)(_:a=[.ref p,.int k,.str z])(_:eb K H p (C.map V.int))(_:∀(x:V)(A:Hp),aa H A->EN x->iE (zzq ("") z) x=bm->Q x A)
def NX[T:Gd]:=cD T.D100 4 (TM gK) λF=>by
 refine F.o ["_law_script","_law_k","_law_kind","_law_number"] λb c Aq a s H e Q E d h=>?_;let(p,C,k,z,Y,a,q):=h;refine gz (_,(bi (aD 3 b (fF.pe d ap (fH ?A ?B)))
  (zO (aE aW ?C au) (iM (mM (kH gK) (im (aS au (aS au (aS au (aS au (aS a9 (aS au (aS au gM)))))))) (aq bV ?E ah) (λ_ _=>rfl)))
  (iM (mM (kH gK) (im (aS ah (aS ah (aS ah (aS a9 (aS (fz fE ah) (aS ah (aS ah (aS (aq bV (aq gJ ?E ah) ah) gM))))))))) (aq bV ?E ah) (λ_ _=>rfl))))),?_)
 refine(p,C,1,a,?_);generalize mix C k=m;refine(Y,1,?_);by_cases b:z = "word"
 ·rw[b,uK];let(v,d,c):=ue (g:=uV) (z:=m % 7) (fi _ ?a) (fl _ ?a);let(a,f):=Zv v c;refine aA (av Y,λl e=>(_,1,Y,by show (0:cs)<7;decide,l,_,_,1,Y,eb.of ae,d,q v _ (aa.new e) (y7 a) ?_));unfold iE;rw[d6 b];exact f
 ·rw[lg b];have c0:=fi (m / 8) (b:=30) ?a;have c1:=fl (m / 8) (b:=30) ?a;let(v,d,c):=ue (g:=[.int 0,.int 1,.int 2,.non,.int (-5),.int 4000000,.int 1,.int (m / 8 % 30)]) (z:=m % 8) (fi _ ?a) (fl _ ?a);have a:EN v/\uz v=bm:=by
   simp only[bG,dH,f8]at c;rcases c with rfl |rfl |rfl |rfl |rfl |rfl |rfl |rfl
   ·exact(trivial,Y)
   ·exact(trivial,Y)
   ·exact(trivial,Y)
   ·exact(trivial,Y)
   ·exact(trivial,Y)
   ·exact(trivial,Y)
   ·exact(trivial,Y)
   ·exact(trivial,dg ?o)
  refine ao ((5),Y,_,1,Y,(?a,?a),_,1,Y,by show (0:cs)<30;decide,av Y,λl e=>(_,1,Y,by show (0:cs)<8;decide,l,_,_,1,Y,eb.of ae,d,q v _ (aa.new e) a.1 ?_));unfold iE;rw[du b];exact a.2
def lI(hs:U p')(g:U V):Prop:=?lg=?lhs/\(∀x∈g,EN x)/\∀(i:b8)(h:p')(x:V),hs[i]?=O h->g[i]?=O x->iE h x=bm
inductive VT(K:bI)(a:U V)(H:Hp)(Q:VK)(_E:XK):Prop
 |i(p l:a_)(C:U cs)(k:cs)(X:U a_)(hs:U p')(_:a=[.ref p,.int k,.ref l])(_:eb K H p (C.map V.int))(_:H l=O (.lst (X.map V.ref)))(_:fg H X hs)(_:?lhs<=3)(_:∀(lr:a_)(g:U V)(A:Hp),aa H A->H lr=bd->A lr=O (.lst g)->lI hs g->Q (.ref lr) A)
theorem QP:(["_law_j","_law_script","_law_k","_law_columns_here"]:U c3).Nodup:=?k
def Ql[T:Gd]:=cD T.D101 5 (VT gK) λF=>by
 refine F.o ["_law_script","_law_k","_law_columns_here"] λc g Aq d a H f Q E b h=>?_;let(p,l,C,k,X,hs,Y,v,s,g,d,q):=h;have d:(X.map V.ref).length=?lhs:=by rw[ai];exact g.1
 refine(_,(aj (ay (bf (Ae:=["_law_j","_law_script","_law_k","_law_columns_here"]) (fr:=[bd,O 0,O 1,O 2]) (gO ?r T.eZ (e0 (aH (bR gK) ?r T.be z4 (e0 ?C)))) (λAk As a H=>(aF 0 QP,bh,(NX.pe b ap (aJ ?B (fH (aq aT ?C ?A) (l3 gK (nC gK ?E ?A) ah))))))))),?_);refine(l,1,.inl (eb.of s),1,?o,?o,?_);rw[e4,d];refine⟨kj (λi a A=>aa H A/\?la=i/\(∀x∈a,EN x)/\∀(j:b8) (h) (x),hs[j]?=O h->a[j]?=O x->iE h x=bm) (aa.refl _,Y,λx d=>(by cases d),λj h x _ e=>(by cases e)) (λi a A f b=>g3 b.2.1) (dn (bJ ?o)) ?_ ?_⟩
 ·rintro i a Ai f ⟨c,b,m,n⟩;have d:i<?lX:=by rw[g.1];exact f
  have u:=ag f;have w:=(g.same c).2 i _ _ (ag d) u;have z:s8 (X.map V.ref) (0+(i))=O (.ref X[i]):=by
   rw[th];exact cf (by rw[a',ag d];rfl)
  refine(Wk.set Y,tT (_,1,Y,l,_,_,1,Y,eb.of (c _ _ s),z,_,_,_,1,Y,fx.of w,Y,p,C,_,hs[i].2,Y,c.seq v,λx An B D G=>cw f (c.trans B,?_,λy I=>?_,λj h y d g=>?_)))
  ·rw[cc,b];rfl
  ·rcases ek.mp I with h |h
   ·exact m y h
   ·rw[d4.mp h];exact D
  ·rcases jF g with g |⟨rfl,rfl⟩
   ·exact n j h y d g
   ·rw[b,u]at d;cases d;exact G
 ·rintro a Ai ⟨c,b,m,n⟩ lr d;exact q lr a _ (aG c d) (c.free d) ae (b,m,n)
theorem yn:∀{l:U c3}{n y:c3}{m:b8},m<l.idxOf n->l[m]?=O y->y≠n
 |[],n,y,m,_,h=>by cases h
 |a::r,n,y,m,b,h=>by
  by_cases e:a=n
  ·subst e;rw[m2]at b;omega
  ·have c:(a ==n)=b1:=ha.mpr e;rw[ux,c]at b;cases m with
   |zero=>cases h;exact e
   |succ k=>exact yn (l:=r) (m:=k) ?x h
theorem U5(l:U c3):(l.map V.str).all bz=bm:=by
 rw[dv];intro x a;let(i,_,Y):=cv.mp a;rfl
inductive qm(H:Hp)(a:a_):Prop
 |i(X:U a_)(hs:U p')(_:H a=O (.lst (X.map V.ref)))(_:fg H X hs)(_:?lhs<=100)(_:(∀h∈hs,asc h.1/\h.1.length<=1000))(_:fu hs=b1)
theorem qm.same{H A:Hp}{a:a_}(h:qm H a)(s:aa H A):qm A a:=by
 let(X,hs,b,c,d,e,f):=h;exact(X,hs,s _ _ b,c.same s,d,e,f)
def Kt(H A:Hp):Prop:=∀b o,H b=O o->A b=O o\/(∃B,o = .tbl B)\/(∃x y,o = .frz x y)\/∃kvs,o = .dK kvs
theorem cX(s:aa H A):Kt H A:=λb o e=>.inl (s b o e)
theorem Kt.tup(k:Kt H A){g:U V}(e:H a=O (.tup g)):A a=O (.tup g):=(k a _ e).elim id λz=>by grind
theorem Kt.lst(k:Kt H A){g:U V}(e:H a=O (.lst g)):A a=O (.lst g):=(k a _ e).elim id λz=>by grind
theorem Kt.ins(k:Kt H A){fs:U (c3×V)}(e:H a=O (.ins Ak N fs)):A a=O (.ins Ak N fs):=(k a _ e).elim id λz=>by rcases z with⟨_,z⟩ |⟨_,_,z⟩ |⟨_,z⟩ <;> cases z
def zD:f3->FF
 |.Lambda _ _ _ p=>p
 |_=>((0),(0),(0),(0))
noncomputable def VQ:f3->f3
 |.Call _ [_,l] _ _=>l
 |e=>e
noncomputable def Mh:eo->f3
 |.Expr e _=>e
 |.Assign _ e _=>e
 |_=>.Constant .none 0 ((0),(0),(0),(0))
noncomputable def sX(s:eo)(i:b8):FF:=zD (VQ (Mh ((ci s).getD i (.Pass ((0),(0),(0),(0))))))
noncomputable def o9(x:c3):c3:=x ++ ".<locals>." ++ "<lambda>"
abbrev Mr:c3:=o9 "check_question_of"
abbrev Yj:FF:=sX Lg 0
abbrev Lc:c3:=o9 "marked_values"
abbrev RR:FF:=sX LB 1
abbrev Kn:c3:=o9 "Table.places_where"
abbrev LP(i:b8):FF:=sX Mm i
def ZU:f3->f3
 |.Call _ _ (k::_) _=>k.2
 |e=>e
noncomputable def Xs(i:b8):eo->U eo
 |.If _ a b _=>if i=0 then a else b
 |_=>[]
abbrev Ky:c3:=o9 "Table.sorted_by"
abbrev Md(i:b8):FF:=zD (ZU (Mh ((Xs i ((ci LN).getD 2 (.Pass ((0),(0),(0),(0))))).getD 0 (.Pass ((0),(0),(0),(0))))))
noncomputable def GU(t:Ad):U (a_×FF×c3):=[(zzq t.p_check_question_of (zzq Yj Mr)),(zzq t.p_marked_values (zzq RR Lc)),(zzq t.p_Table_places_where (zzq (LP 0) Kn)),(zzq t.p_Table_places_where (zzq (LP 1) Kn)),(zzq t.p_Table_sorted_by (zzq (Md 0) Ky)),(zzq t.p_Table_sorted_by (zzq (Md 1) Ky))]
def nf(t:Ad)(H:Hp):Prop:=∀e∈GU t,dW H e.1 e.2.1 e.2.2
noncomputable def nv(t:Ad):U a_:=(GU t).map (·.1)
theorem gf(t:Ad)(i:b8)(h:zzp (i<6) zz1):(GU t)[i]∈GU t:=d1 _
def RT(t:Ad)(H A:Hp):Prop:=(∀b o,b∉nv t->H b=O o->A b=O o)/\(nf t H->nf t A)
theorem x0.same{q:c3}(x:x0 H c q)(s:aa H A):x0 A c q:=x.mono λo e=>s _ _ e
theorem π{q:c3}(x:dW H p Az q)(s:aa H A):dW A p Az q:=
 by let(B,e,t,h):=x;exact(B,s _ _ e,t,h.imp id λ⟨c,f,d⟩=>(c,f,x0.same d s))
theorem nf.same(a:nf t H)(s:aa H A):nf t A:=λe m=>π (a e m) s
theorem RT.refl(t:Ad)(H:Hp):RT t H H:=(λ_ _ _ e=>e,id)
theorem RT.of(s:aa H A):RT t H A:=(λb o _ e=>s b o e,λa=>a.same s)
theorem RT.trans(a:RT t H A)(b:RT t A An):RT t H An:=(λc o n e=>b.1 c o n (a.1 c o n e),λd=>b.2 (a.2 d))
theorem nf.tab(a:nf t H)(c:b∈nv t):∃B,H b=O (.tbl B):=by
 let(e,m,Y):=cv.mp c;exact(_,(a e m).choose_spec.1)
theorem RT.keep(r:RT t H A)(a:nf t H){o:HO}(e:H b=O o)(n:∀B,o≠.tbl B):A b=O o:=r.1 b o (λc=>by let(B,z):=a.tab c;rw[e]at z;cases z;exact n B Y) e
theorem RT.kt(r:RT t H A)(a:nf t H):Kt H A:=λb o e=>by
 cases o with
 |tbl B=>exact .inr (.inl (B,Y))
 |_=>exact .inl (r.keep a e nofun)
inductive Tr(α:Type) where
 |lf(x:α) |neg (q:Tr α) |two (e:eg) (q r:Tr α) |bad (w:c3) (a:U V)
structure Lf where
 α:Type
 at':Hp->a_->α->Prop
 kt:∀{H H':Hp}{a:a_}{x:α},Kt H H'->at' H a x->at' H' a x
 tup:∀{H:Hp}{a:a_}{x:α},at' H a x->∃w xs,H a=O (.tup (.str w::xs))/\xs.length<=1000/\JL.lookup w=bd
noncomputable def jw(e:eg):c3:=if e=bm then "either" else "both"
def bD(L:Lf)(H:Hp):a_->Tr L.1->Prop
 |a,.lf x=>L.at' H a x
 |a,.neg q=>∃b,H a=O (.tup [.str "not", .ref b])/\bD L H b q
 |a,.two e q r=>∃b c,H a=O (.tup [.str (jw e),.ref b,.ref c])/\bD L H b q/\bD L H c r
 |a,.bad w d=>H a=O (.tup (.str w::d))/\?ld<=1000/\∃n:b8,JL.lookup w=O (.int n)/\n≠?ld+1
theorem bD.kt{L:Lf}{H A:Hp}(k:Kt H A){q:Tr L.1}{a:a_}(h:bD L H a q):bD L A a q:=by
 induction q generalizing a with
 |lf _=>exact L.kt k h
 |neg q d=>let(b,e,h):=h;exact(b,k.tup e,d h)
 |two _ q r i j=>let(b,c,e,d,f):=h;exact(b,c,k.tup e,i d,j f)
 |bad _ _=>let(e,r):=h;exact(k.tup e,r)
noncomputable def n8{α:Type}(c:α->b5 a_)(z:a_):b8->Tr α->b5 a_
 |d,.lf x=>if 6<d then O z else c x
 |d,.neg q=>if 6<d then O z else n8 c z (d+1) q
 |d,.two _ q r=>if 6<d then O z else (n8 c z (d+1) q).or (n8 c z (d+1) r)
 |_,.bad _ _=>O z
noncomputable def Tr.parts  : Tr α->U (Tr α)
 |.neg q=>[q] |.two _ q r=>[q,r] |_=>[]
theorem wL{c:α->b5 a_}(h:6<d):∀q:Tr α,n8 c z d q=O z
 |.lf _=>by rw[n8,d6 h]
 |.neg _=>by rw[n8,d6 h]
 |.two _ _ _=>by rw[n8,d6 h]
 |.bad _ _=>rfl
theorem bD.form{L:Lf}(c:L.1->b5 a_)(z:a_):∀{q:Tr L.1},bD L H a q->∃w g,H a=O (.tup (.str w::g))/\?lg<=1000/\
  ((∃x,q = .lf x/\L.at' H a x/\JL.lookup w=bd)\/∃n:b8,JL.lookup w=O (.int n)/\((n≠?lg+1/\∃Aw s,q = .bad Aw s)\/
   (n=?lg+1/\∃bs:U a_,g=bs.map V.ref/\?lbs=?lq.parts/\?lbs<=2/\(∀(i:b8) b p,bs[i]?=O b->q.parts[i]?=O p->bD L H b p)/\∀d,d<=6->n8 c z d q=q.parts.findSome? (n8 c z (d+1)))))
 |.lf x,h=>let⟨w,g,e,l,j⟩:=L.tup h;(w,g,e,l,.inl (x,Y,h,j))
 |.neg q,⟨b,e,h⟩=>(_,_,e,av Y,.inr ((2),Y,.inr (Y,[b],Y,Y,av Y,λi b p f m=>by match i,f,m with |0,f,m=>cases f;cases m;exact h,λd hd=>by rw[n8,du (t4 ‹_›),Tr.parts,nc];cases n8 c z (d+1) q <;> rfl)))
 |.two e q r,⟨b,y,A,u,v⟩=>(_,_,A,av Y,.inr ((3),by cases e <;> rfl,.inr (Y,[b,y],Y,Y,av Y,λi b p f m=>by
   match i,f,m with
   |0,f,m=>cases f;cases m;exact u
   |1,f,m=>cases f;cases m;exact v,λd hd=>by rw[n8,du (t4 ‹_›),Tr.parts,nc,nc];cases n8 c z (d+1) q <;> cases n8 c z (d+1) r <;> rfl)))
 |.bad w s,⟨e,l,n,u,v⟩=>(w,s,e,l,.inr (n,u,.inl (v,w,s,Y)))
theorem OS{f:α->b5 Ax}{l:U α}{p:α}(h:l[i]?=O p)(k:∀(k:b8) q,k<i->l[k]?=O q->f q=bd)(z:(f p).isSome=bm):l.findSome? f=f p:=by
 induction l generalizing i with
 |nil=>cases h
 |cons y r a=>
  rw[nc];cases i with
  |zero=>cases h;cases e:f p;rw[e]at z;cases z;rfl
  |succ i=>rw[k 0 y (Nat.zero_lt_succ _) Y];exact a h λj q a=>k (j+1) q (Nat.succ_lt_succ a)
theorem ly(x:V)(g:U V):dE (x::g) (O 1) bd=g:=L2.u1 (x::g) ?s
theorem lA(x:V)(g:U V):¬ (HT.nz (x::g).length 0 (O 1)=0/\HT.nz (x::g).length (x::g).length bd=(x::g).length):=λh=>nomatch h.1
inductive PQ(b:U V)(H:Hp)(Q:VK)(_E:XK):Prop
 |i(a:a_)(x:c3)(g:U V)(_:b=[.ref a])(_:H a=O (.tup (.str x::g)))(_:Q (.bl (JL.lookup x).isSome) H)
def qr[T:Gd]:=cD T.D73 1 PQ λF=>by
 refine F.o ["asked"] λd c Aq b s H e Q E f h=>?_;let(a,x,g,Y,b,q):=h;refine(_,(aj (ay (T2 (T.hJ.pin (l3 gK ?A ah))))),?_);exact(a,_,_,1,Y,fx.of b,cO ?a Y,x,Y,q)
theorem xB{l:a_}(h:Gb gK H l)(f:nf gt H)(r:RT gt H A):Gb gK A l:=h.elim .inl λ⟨a,b,c,d,e⟩=>.inr (a,b,c,d,r.keep f e nofun)
inductive Jh(P:f0)(w:gl)(K:bI)(Al:c3->b5 b0)(b:fy)(t:Ad)(L:Lf)(c:L.1->b5 a_)(k0:b8)(H:Hp)(l:a_):Prop
 |i(Ar:i3)(B:U c3)(d:Sp)(_:Gb K H l)(_:aN P w K Al b (tu P w) k0 l Ar B d)(_:cp K Ar B [])(_:∀(Ai:Hp)(a:a_)(x:L.1)(Q:VK)(E:XK),RT t H Ai->L.at' Ai a x->
  (c x=bd->∀An,RT t Ai An->Q .non An)->(∀Ak,c x=O Ak->∀An,RT t Ai An->E (.ref Ak) bd An)->d [.ref a] Ai Q E)
theorem Jh.rt[T:Gd]{L:Lf}{c:L.1->b5 a_}{l:a_}(h:Jh gP gw gK gm gb gt L c k0 H l)(e:nf gt H)(r:RT gt H A):Jh gP gw gK gm gb gt L c k0 A l:=
 by let(Ar,B,d,v,F,b,h):=h;exact(Ar,B,d,xB v e r,F,b,λAi a x Q E f=>h Ai a x Q E (r.trans f))
inductive Pq(P:f0)(w:gl)(K:bI)(Al:c3->b5 b0)(b:fy)(t:Ad)(L:Lf)(c:L.1->b5 a_)(k0 m:b8)(e:U V)(H:Hp)(Q:VK)(E:XK):Prop
 |i(a l:a_)(d:b8)(q:Tr L.1)(_:e=[.ref a,.int d,.ref l])(_:bD L H a q)(_:7<=d+m)(_:d<=7)(_:nf t H)(_:Jh P w K Al b t L c k0 H l)(_:n8 c t.eBadQuestion d q=bd->∀A,RT t H A->Q .non A)(_:∀Ak,n8 c t.eBadQuestion d q=O Ak->∀A,RT t H A->E (.ref Ak) bd A)
def RA(P:f0)(w:gl)(K:bI)(Al:c3->b5 b0)(a:fy)(t:Ad)(L:Lf)(c:L.1->b5 a_)(k0:b8):b8->Sp
 |0=>λ_ _ _ _=>fP
 |m+1=>Pq P w K Al a t L c k0 m
def X1[T:Gd](L:Lf)(c:L.1->b5 a_)(k0:b8)(N:1<=k0):=rD T.D75 k0 7 (RA gP gw gK gm gb gt L c k0) λm M F=>by
 refine F.oX ["asked","depth","check_simple","part"] λAD AE Aq N AI H AJ Q E P h=>?_;let(a,l,d,q,Y,N,hd,AE,TT,Ak,R,w):=h;let(x,g,j,S,X):=N.form c gt.eBadQuestion;refine(_,(ak (aI (aE fv ?B (bn T.zfH)) (aj (cU cY T.jX Y ?r T.i5 (e0 au)))
   aK)
  (ak (aI (PW.pt (fc (dQ (bY (aH (cJ gK) ?r T.cK z3 (fH ?A (fY T.pC qp))))) (fc (aE aW (aH (bR gK) ?r T.be z4 (e0 ?A)) ah) (fB (dQ (bY (aH (cJ gK) ?r T.cK z3 (fH (l3 gK ?A ah) (fY T.yW ql))))))))) (aj (cU cY T.jX Y ?r T.i5 (e0 au)))
   aK)
  (aj (aI (dQ (bY (qr.pe P ap (e0 ?A) ?o))) (aj (aV (ua gP gw gK gm gb k0 P bF (e0 ?A) (pv 2) ?o)))
   (aj (aI (aE eK (aH (bR gK) ?r T.be z4 (e0 ?A)) (T.hJ.pix (l3 gK ?A ah))) (aj (cU cY T.jX Y ?r T.i5 (e0 au)))
   (aj (dk B3 Y (jP (gN (k8 gK) ?A (eP ah) jd)) (aF 3 AD)
   (aj (aV (M.pe P bF (aJ ?E (fH (aq aT ?B ah) ?C)) ?o))))))))))),?_)
 refine(_,1,Y,1,?_);by_cases A9:6<d
 ·exact dT (by omega:(6:cs)<d) (?a,w _ (wL A9 q) _ (RT.refl _ _))
 rw[c4 (by omega:¬ (6:cs)<d)];refine(_,_,1,fR (.tup j) T.xZ,1,ao (a,1,.inr (fx.of j),Y,1,?_));refine ao (a,_,_,1,Y,fx.of j,cO ?a Y,_,_,1,fR (.str _) T.xY,1,ao ?_);refine(a,_,1,j,1,?_);rcases X with⟨y,rfl,AF,N⟩ |⟨n,AA,X⟩
 ·rw[N];let(Z,A3,A4,v,G,C,AG):=Ak;have N:n8 c gt.eBadQuestion d (.lf y)=c y:=by rw[n8,du A9]
  rw[N]at R w;exact aA (l,Z,A3,A4,Y,v,G,C,v,AG H a y _ _ (RT.refl _ _) AF R w)
 rw[AA];refine ao (a,1,.inr (fx.of j),a,_,_,1,Y,fx.of j,cO ?a Y,x,1,AA,Y,1,?_);rcases X with⟨AH,_,_,rfl⟩ |⟨rfl,bs,rfl,B,N,A5,D⟩
 ·rw[show (!decide (V.int (((V.str x::g).length:b8):cs)=V.int (n:cs)))=bm by
   rw[c4 λy=>AH (by have:=V.int.inj y;rw[e_]at this;omega)];rfl]
  exact aA (?a,w _ Y _ (RT.refl _ _))
 ·rw[show (!decide (V.int (((V.str x::bs.map V.ref).length:b8):cs)=V.int (((bs.map V.ref).length+1:b8):cs)))=b1 by simp];have D:=D d ?o;refine ao ((1),Y,a,1,fx.of j,lA _ _,λpt A6=>(pt,Y,(_,fx.of ae),⟨?_⟩));have N:dE (V.str x::bs.map V.ref) (O 1) bd=bs.map V.ref:=ly _ _;rw[N];have I:RT gt H (upd H pt (.tup (bs.map V.ref))):=.of (aa.new A6);have AB:(upd H pt (.tup (bs.map V.ref))) pt=O (.tup (bs.map V.ref)):=ae;generalize upd H pt (.tup (bs.map V.ref))=Ai at I AB;have T1:=I.2 TT;refine xG (K:=gK) (B:=bs.map V.ref) (λi σ A=>∃A7,σ=[O (.ref a),O (.int d),O (.ref l),A7]/\RT gt Ai A/\∀(k:b8) p,k<i->q.parts[k]?=O p->n8 c gt.eBadQuestion (d+1) p=bd) (bd,Y,RT.refl _ _,λk p h=>cx h (Nat.not_lt_zero _)) ?_ ?_ ?_
  ·rintro i σ A _ ⟨_,_,u,_⟩;exact fx.of (u.keep T1 AB nofun)
  ·rintro i y σ A S ⟨A7,rfl,u,J⟩;rw[a']at S;let(b,C,Y):=d3.mp S;have N:i<?lq.parts:=by rw[<-B];exact (bg.mp C).1
   have s:=ag N;obtain⟨AC,rfl⟩:∃AC,m=AC + 1:=(m - 1,?o)
   have K:=I.trans u;refine(_,1,Y,b,l,d+1,q.parts[i],Y,(A5 i b _ C s).kt (K.kt TT),?o,?o,K.2 TT,Ak.rt TT K,λz H3 A8=>(1,u.trans A8,λk p f e=>?_),λN z H3 A8=>w N ?_ H3 (K.trans A8))
   ·rcases Nat.lt_succ_iff_lt_or_eq.mp f with h |rfl
    ·exact J k p h e
    ·rw[s]at e;cases e;exact z
   ·rw[D,OS s (λk p h e=>J k p h e) (by rw[z];rfl),z]
  ·rintro σ A ⟨A7,rfl,u,J⟩;refine R ?_ A (I.trans u);rw[D,n7];intro p N;let(k,f):=ez N;refine J k p ?_ f;have:=(bg.mp f).1;rw[ai,B];exact this
inductive UP(P:f0)(w:gl)(K:bI)(Al:c3->b5 b0)(b:fy)(t:Ad)(L:Lf)(c:L.1->b5 a_)(k0:b8)(d:U V)(H:Hp)(Q:VK)(E:XK):Prop
 |i(a l:a_)(q:Tr L.1)(_:d=[.ref a,.ref l])(_:bD L H a q)(_:nf t H)(_:Jh P w K Al b t L c k0 H l)(_:n8 c t.eBadQuestion 1 q=bd->∀A,RT t H A->Q .non A)(_:∀Ak,n8 c t.eBadQuestion 1 q=O Ak->∀A,RT t H A->E (.ref Ak) bd A)
def CJ[T:Gd](L:Lf)(c:L.1->b5 a_)(k0:b8)(d:1<=k0):=cD T.D74 (k0+8) (UP gP gw gK gm gb gt L c k0) λF=>by
 refine F.oX ["asked","check_simple"] λg e Aq b s H j Q E f h=>?_;let(a,l,q,Y,b,TT,Ak,e,g):=h;refine(_,(aj (aV ((X1 L c k0 d).pe f bF (aJ ?A (fH ah ?B)) ?o))),?_);exact(a,l,(1),q,Y,b,?a,?a,TT,Ak,e,g)
inductive Sm where
 |zero(b:eg) |one (k:b8) (v:V) |among (a:U V) |bad (w:c3) (a:U V)
noncomputable def ND:b8->c3
 |0 => "is" |1 => "below" |_ => "above"
noncomputable def zw(b:eg):c3:=if b=bm then "all" else "none"
noncomputable def Sm.things:Sm->U V
 |.one _ v=>[v] |.among a=>a |_=>[]
def jr(H:Hp)(a:a_):Sm->Prop
 |.zero b=>H a=O (.tup [.str (zw b)])
 |.one k v=>H a=O (.tup [.str (ND k),v])
 |.among c=>∃l,H a=O (.tup [.str "among", .ref l])/\H l=O (.lst c)/\?lc<=1000
 |.bad w c=>H a=O (.tup (.str w::c))/\?lc<=1000/\JL.lookup w=bd/\SL.lookup w≠O (.int (?lc+1:b8))
theorem jr.kt(k:Kt H A): ∀{s:Sm},jr H a s->jr A a s
 |.zero _,e=>k.tup e
 |.one _ _,e=>k.tup e
 |.among _,⟨l,s,b,z⟩=>(l,k.tup s,k.lst b,z)
 |.bad _ _,⟨e,r⟩=>(k.tup e,r)
theorem jr.flat   : ∀{s:Sm},jr H a s->(∃b,s = .among b)\/(∃w b,s = .bad w b)\/∃w,H a=O (.tup (.str w::s.things))/\w ≠ "among" /\ JL.lookup w=bd/\SL.lookup w=O (.int (?ls.things+1:b8))/\?ls.things<=1
 |.zero bm,e=>.inr (.inr (_,e,?a,Y,Y,av Y))
 |.zero b1,e=>.inr (.inr (_,e,?a,Y,Y,av Y))
 |.one 0 _,e=>.inr (.inr (_,e,?a,Y,Y,av Y))
 |.one 1 _,e=>.inr (.inr (_,e,?a,Y,Y,av Y))
 |.one (_+2) _,e=>.inr (.inr (_,e,(by decide:("above" : c3) ≠ "among"),Y,Y,av Y))
 |.among b,_=>.inl (b,Y)
 |.bad w b,_=>.inr (.inl (w,b,Y))
def LQ(G:V->Prop):Lf where
 α:=Sm
 at' H a s:=jr H a s/\∀v∈s.things,G v
 kt k h:=(h.1.kt k,h.2)
 tup {H a s} h:=by
  let(h,_):=h;rcases h.flat with⟨s,rfl⟩ |⟨w,s,rfl⟩ |⟨w,e,_,j,_,l⟩
  ·let(l,e,_):=h;exact(_,_,e,av Y,Y)
  ·exact(w,s,h.1,h.2.1,h.2.2.1)
  ·exact(w,_,e,ce l (av Y),j)
def cQ(z:a_):Sm->b5 a_
 |.bad _ _=>O z
 |_=>bd
theorem ZP{x:c3}{v:V}(h:SL.lookup x=O v):∃n:b8,v = .int n:=by
 have:=fo h;simp only[SL,bG,dH,f8,F']at this;rcases this with⟨_,e⟩ |⟨_,e⟩ |⟨_,e⟩ |⟨_,e⟩ |⟨_,e⟩ |⟨_,e⟩
 ·exact((1),e)
 ·exact((1),e)
 all_goals exact((2),e)
inductive TZ(b:U V)(H:Hp)(Q:VK)(_E:XK):Prop
 |i(a:a_)(s:Sm)(_:b=[.ref a])(_:jr H a s)(_:∀w b,s≠.bad w b)(_:∀(l:a_) g,s = .among g->H l=O (.lst g)->Q (.ref l) H)(_:∀(p:a_),(∀g,s≠.among g)->H p=bd->Q (.ref p) (upd H p (.tup s.things)))
def vJ[T:Gd]:=cD T.D76 1 TZ λF=>by
 refine F.o ["simple"] λf d Aq b s H c Q E j h=>?_;let(a,q,Y,d,m,n,s):=h;refine(_,(ak (aI (aE aW (l3 gK ?A ah) au) (ak (aI (dQ (bY (aH (cJ gK) ?r T.cK z3 (fH (l3 gK ?A ah) (fY T.gG z5))))) pQ
   aK)
  (aj (ay (l3 gK ?A ah))))
   aK)
  (aj (ay (gN (k8 gK) ?A (eP ah) jd)))),?_)
 rcases d.flat with⟨c,rfl⟩ |⟨w,c,rfl⟩ |⟨w,b,f,_⟩
 ·let(l,b,j,_):=d;refine(a,_,_,1,Y,fx.of b,Y,Y,1,aA ?_);refine(a,_,_,1,Y,fx.of b,Y,_,_,1,fR (.lst j) T.ill,1,ao ?_);exact(a,_,_,1,Y,fx.of b,Y,n l c Y j)
 ·exact cx Y (m w c)
 ·refine(a,_,_,1,Y,fx.of b,cO ?a Y,Y,1,?_);refine dF (λz=>f (V.str.inj z)) ((1),Y,a,1,fx.of b,lA _ _,λp c=>?_);rw[ly];exact s p (λg z=>by subst z;let(l,e,_):=d;rw[b]at e;cases e;exact f Y) c
inductive Mb(P:f0)(w:gl)(K:bI)(Al:c3->b5 b0)(a:fy)(G:V->Prop)(H:Hp)(Ao:a_):Prop
 |i(Ar:i3)(B:U c3)(b:Sp)(_:Gb K H Ao)(_:aN P w K Al a r_ 3 Ao Ar B b)(_:cp K Ar B [])(_:∀(v:V)(Ai:Hp)(Q:VK)(E:XK),G v->(∀An,aa Ai An->Q (.bl bm) An)->b [v] Ai Q E)
theorem oJ{l:a_}(h:Gb gK H l)(s:aa H A):Gb gK A l:=h.elim .inl λ⟨a,b,c,d,e⟩=>.inr (a,b,c,d,s _ _ e)
inductive LC(P:f0)(w:gl)(K:bI)(Al:c3->b5 b0)(b:fy)(t:Ad)(G:V->Prop)(c:U V)(H:Hp)(Q:VK)(E:XK):Prop
 |i(a Ao:a_)(s:Sm)(_:c=[.ref a,.ref Ao])(_:(LQ G).at' H a s)(_:Mb P w K Al b G H Ao)(_:cQ t.eBadQuestion s=bd->∀A,aa H A->Q .non A)(_:∀Ak,cQ t.eBadQuestion s=O Ak->∀A,aa H A->E (.ref Ak) bd A)
theorem Rg:(["thing","is_good"]:U c3).Nodup:=?k
def η[T:Gd](G:V->Prop):=cD T.D78 4 (LC gP gw gK gm gb gt G) λF=>by
 refine F.oX ["simple","is_good"] λD I Aq c s H j Q E d h=>?_;let(a,Ao,q,Y,(f,A3),Ak,c,J):=h;refine(_,(ak (aI (PW.pt (fc (um (T.hS.pnin (l3 gK ?A ah))) (fB (aE eK (aH (bR gK) ?r T.be z4 (e0 ?A)) (T.hS.pix (l3 gK ?A ah)))))) (aj (cU cY T.jX Y ?r T.i5 (e0 au)))
   aK)
  (aj (aI (dQ (bY (aH (jz gK Y) ?r T.i8 zb (e0 (bf (Ae:=["thing","is_good"]) (fr:=[bd,O 1]) (PI.alt (ba (vJ.pe d ap (e0 ?A))) (jP (vJ.pe d ap (e0 ?A)))) (λAk As s H=>(aF 0 Rg,bh,(ua gP gw gK gm gb 3 d ap (e0 ?A) (pv 1) ?o)))))))) (aj (cU cY T.jX Y ?r T.i5 (e0 au)))
   aK))),?_)
 have hz:?lq.things<=1000:=by
  rcases f.flat with⟨j,rfl⟩ |⟨w,j,rfl⟩ |⟨_,_,_,_,_,l⟩
  ·let(_,_,_,z):=f;exact z
  ·exact ej _
  ·omega
 obtain⟨x,g,s,m⟩:∃x g,H a=O (.tup (.str x::g))/\((SL.lookup x=O (.int (?lg+1:b8))/\cQ gt.eBadQuestion q=bd)\/(SL.lookup x≠O (.int (?lg+1:b8))/\cQ gt.eBadQuestion q=O gt.eBadQuestion)):=by
  rcases f.flat with⟨j,rfl⟩ |⟨w,j,rfl⟩ |⟨w,e,_,_,h,_⟩
  ·let(l,e,_):=f;exact(_,_,e,.inl (Y,Y))
  ·exact(_,_,f.1,.inr (f.2.2.2,Y))
  ·refine(_,_,e,.inl (h,?_));cases q with
   |bad D j=>cases f.1.symm.trans (show H a=O (.tup [.str w]) from e);exact cx h f.2.2.2
   |_=>rfl
 refine(a,_,_,1,Y,fx.of s,cO ?a Y,x,Y,1,?_);rcases m with⟨m,K⟩ |⟨m,K⟩
 ·rw[m];refine ao (a,1,.inr (fx.of s),a,_,_,1,Y,fx.of s,cO ?a Y,x,1,m,Y,1,?_);rw[show (!decide (V.int (((V.str x::g).length:b8):cs)=V.int ((?lg+1:b8):cs)))=b1 by simp];refine ao ?_;have A4:=c K;let(u,B,C,L,A5,M,A6):=Ak;have A7:∀w j,q≠.bad w j:=λw j z=>by subst z;cases K
  have fin:∀(Ai:Hp),aa H Ai->∀c:a_,Ai c=bd->∃(p:a_)(bs:U eg),[V.ref c]=[.ref p]/\eb gK (upd Ai c (.lst (er ?lq.things (.bl bm)))) p (bs.map V.bl)/\bs.all id=bm:=λAi d c f=>by
   refine(c,er ?lq.things bm,Y,.of ?_,?_)
   ·rw[ae,List.map_replicate]
   ·rw[dv];intro b M;exact yv M
  have am:(∃g,q = .among g)\/∀g,q≠.among g:=by cases q <;> first |exact .inl ⟨_,Y⟩ |exact .inr nofun
  rcases am with⟨Ap,rfl⟩ |I
  ·refine .inl (a,1,f,A7,λl j e m=>(l,Y,(_,eb.of m),⟨oA (B:=j) (λi c A=>aa H A/\c=er i (.bl bm)) (aa.refl _,Y) ?_ ?_ ?_ ?_⟩),λp z=>cx Y (z Ap))
   all_goals cases e
   ·rintro i c A A8 ⟨d,rfl⟩;exact(eb.of (d _ _ m),by rw[j3];exact b2 _)
   ·exact dn (bJ hz)
   ·rintro i x c A N j ⟨d,rfl⟩;refine(Wk.set Y,tT (Ao,u,B,C,Y,oJ L d,A5,M,oJ L d,A6 _ A _ _ (A3 x (a0 N)) λAn P=>cw j (d.trans P,?_)));rw[E9]
   ·rintro c A ⟨d,rfl⟩ q f;let(p,bs,R,S,X):=fin A d q f;refine(p,bs,R,S,?_);rw[X];exact(1,ao (A4 _ (aG d f)))
  ·refine .inr (a,q,Y,f,A7,λl g z=>cx z (I g),λD _ Z=>(D,Y,(_,fx.of ae),⟨?_⟩));have I:aa H (upd H D (.tup q.things)):=aa.new Z;have Z:(upd H D (.tup q.things)) D=O (.tup q.things):=ae;generalize upd H D (.tup q.things)=D at I Z;refine rJ (B:=q.things) (λi c A=>aa D A/\c=er i (.bl bm)) (aa.refl _,Y) ?_ ?_ ?_ ?_
   ·rintro i c A A8 ⟨d,rfl⟩;exact(fx.of (d _ _ Z),by rw[j3];exact b2 _)
   ·exact dn (bJ hz)
   ·rintro i x c A N j ⟨d,rfl⟩;refine(Wk.set Y,tT (Ao,u,B,C,Y,oJ L (I.trans d),A5,M,oJ L (I.trans d),A6 _ A _ _ (A3 x (a0 N)) λAn P=>cw j (d.trans P,?_)));rw[E9]
   ·rintro c A ⟨d,rfl⟩ q f;let(p,bs,R,S,X):=fin A (I.trans d) q f;refine(p,bs,R,S,?_);rw[X];exact(1,ao (A4 _ (aG (I.trans d) f)))
 ·have J:=J _ K _ (aa.refl _);cases j:SL.lookup x with
  |none=>exact aA (aA (by show 1<=bT;decide,J))
  |some v=>
   let(n,Y):=ZP j;refine ao (a,1,.inr (fx.of s),a,_,_,1,Y,fx.of s,cO ?a Y,x,1,j,Y,1,?_);rw[show (!decide (V.int (((V.str x::g).length:b8):cs)=V.int (n:cs)))=bm by
    rw[c4 λy=>m (by rw[j];exact eG O ?yy)];rfl]
   exact aA (by show 1<=bT;decide,J)
theorem pV{o:HO}(s:aa (del H c) A)(n:H c=O o):aa H (upd A c o):=λb Aw e=>by
 by_cases a:b=c
 ·subst a;rw[n]at e;cases e;exact ae
 ·rw[af a];exact s b Aw (by rw[cB a];exact e)
theorem i0{o:hg}(n:H c=O (lS o c)):Kt H (del H c):=λb Aw e=>by
 by_cases a:b=c
 ·subst a;rw[n]at e;cases e;exact .inr (.inr (.inl (_,1)))
 ·exact .inl ((cB a) ▸ e)
theorem Y'{q:c3}(x:dW H p Az q)(f:H c=O (lS Av c))(g:Av.3 = .cell (O Aw)):dW (del H c) p Az q:=by
 let(B,b,m,h):=x;refine(B,by rw[cB λz=>by simp only[z,f]at b;cases b];exact b,m,h.imp id λ⟨d,n,e,s,t,a,j,r⟩=>(d,n,e,s,t,?_,j,r));rw[cB λz=>by
  rw[z,f]at a;injection a with a
  injection a with a _
  rw[a,j]at g;cases g]
 exact a
theorem nf.del(a:nf t H)(b:H c=O (lS Av c))(d:Av.3 = .cell (O Aw)):nf t (del H c):=λe m=>Y' (a e m) b d
theorem mZ(r:RT t (upd Ai c (lS Av c)) An)(n:Ai c=bd)(d:Av.3 = .cell (O Aw)):RT t Ai (del An c):=by
 refine(λb o f e=>?_,λg=>?_)
 ·have a:=aC e n;rw[cB a];exact r.1 b o f (by rw[af a];exact e)
 ·have a:nf t (upd Ai c (lS Av c)):=g.same (aa.new n);exact (r.2 a).del (r.keep a ae nofun) d
theorem uu(r:RT t (del H c) H4)(a:H c=O (lS Av c))(d:Av.3 = .cell (O Aw))(n:H4 c=bd):RT t H (upd H4 c (lS Av c)):=by
 refine(λb o f e=>?_,λg=>(r.2 (g.del a d)).same (aa.new n));by_cases z:b=c
 ·subst z;rw[a]at e;cases e;exact ae
 ·rw[af z];exact r.1 b o f (by rw[cB z];exact e)
theorem Qt{a:a_}{q:c3}{b:fK b0}(x:dW H p Az q)(s:qH a H A)(e:H a=O (.tbl b))(n:p≠a):dW A p Az q:=by
 let(B,a,b,h):=x;refine(B,s _ _ n a,b,h.imp id λ⟨c,d,h⟩=>(c,d,?_));let(Av,b,t,a,r):=h;exact(Av,b,t,s _ _ (λz=>by rw[z,e]at a;cases a) a,r)
def Nd(t:Ad):Prop:=∀e∈GU t,∀f∈GU t,e.1=f.1->e.2.2=f.2.2
theorem Vc(Ao:a_->c3)(h:∀e∈GU t,e.2.2=Ao e.1):Nd t:=λe m f a z=>by rw[h e m,h f a,z]
theorem kZ{e:a_×FF×c3}(m:e∈GU t)(d:Nd t)(c:qH e.1 H A)(k:∀p,dW H e.1 p e.2.2->dW A e.1 p e.2.2):RT t H A:=
 (λb o g q=>c b o (λz=>g (z ▸ g_ m)) q,λa f n=>by
  by_cases z:f.1=e.1
  ·have q:=a f n;rw[z,d f n e m z]at q ⊢;exact k _ q
  ·exact Qt (a f n) c (a e m).choose_spec.1 z)
inductive Jm(P:f0)(w:gl)(K:bI)(Al:c3->b5 b0)(a:fy)(G:V->Prop)(Ao:a_):Prop
 |i(Ar:i3)(B:U c3)(b:Sp)(_:∃Av c Ar d,K.lookup Ao=O (Av,c,.func Ar,d))(_:aN P w K Al a r_ 3 Ao Ar B b)(_:cp K Ar B [])(_:∀(v:V)(Ai:Hp)(Q:VK)(E:XK),G v->(∀An,aa Ai An->Q (.bl bm) An)->b [v] Ai Q E)
theorem Jm.gds{G:V->Prop}{Ao:a_}(h:Jm gP gw gK gm gb G Ao)(H:Hp):Mb gP gw gK gm gb G H Ao:=by let(Ar,B,a,v,F,b,h):=h;exact(Ar,B,a,.inl v,F,b,h)
abbrev dm(t:Ad)(q:Tr Sm):b5 a_:=n8 (cQ t.eBadQuestion) t.eBadQuestion 1 q
inductive SD(P:f0)(w:gl)(K:bI)(Al:c3->b5 b0)(b:fy)(t:Ad)(G:V->Prop)(c:U V)(H:Hp)(Q:VK)(E:XK):Prop
 |i(a Ao:a_)(q:Tr Sm)(_:c=[.ref a,.ref Ao])(_:bD (LQ G) H a q)(_:nf t H)(_:Jm P w K Al b G Ao)(_:dm t q=bd->∀A,RT t H A->Q .non A)(_:∀Ak,dm t q=O Ak->∀A,RT t H A->E (.ref Ak) bd A)
def kO[T:Gd]:Nd gt:=Vc (λa=>if a=gt.p_check_question_of then Mr else if a=gt.p_marked_values then Lc else if a=gt.p_Table_places_where then Kn else Ky) (by simp[GU,T.ne])
def CQ[T:Gd](G:V->Prop):=M7 T.D77 14 (SD gP gw gK gm gb gt G) λF=>by
 refine F.o ["question","is_good"] λb Aq c s H u Q E g h=>?_;let(a,Ao,q,Y,B,j,C,D,I):=h;refine(_,(aj (aV ((CJ (LQ G) (cQ gt.eBadQuestion) 5 ?a).peZ (i:=1) (y := "is_good") g bF LV (fH ?A (kU Y Y F.2 T.B)) Y Y Y Y))),?_);refine(j _ (gf gt 0),λAi l b w kt LH=>(1,λAv Aw f y J=>?_));have m:=kZ (gf gt 0) kO b kt;have u:=m.2 j;let(pm,d,b,n,A):=LH;have d:aa Ai (upd Ai (?ss+1) (lS Av (?ss+1))):=aa.new f;have p:(upd Ai (?ss+1) (lS Av (?ss+1))) (?ss+1)=O (lS Av (?ss+1)):=ae;have b:∀An,RT gt (upd Ai (?ss+1) (lS Av (?ss+1))) An->RT gt H (del An (?ss+1)):=λAn r=>m.trans (mZ r f y);have f:=u.same d;refine(a,l,q,Y,B.kt ((m.trans (.of d)).kt j),f,?_,λz An u=>D z _ (b An u),λAk z An u=>I Ak z _ (b An u));have j:=lY (Ab:=gP) (w:=gw) (K:=gK) (mg:=gm) (base:=gb) n "simple" 4 (λv z=>LC gP gw gK gm gb gt G [v,z]) ?S (@zZ gP gw) (λAq c s H v z Q E g h=>?T.B) (λb w=>match b,w with |[_],_=>rfl)
 case S=>exact(Y,Y,Y,?a,Y,?a,.inl (Y,λ_ _=>rfl))
 case T.B=>
  refine(_,(η G).pe g zn (fH ?A ?B),?_);exact h
 refine(_,_,_,.inr (_,_,_,_,d _ _ n),j.1,j.2,λH3 m u g s b c w B=>?_);have s:=b.keep f p nofun;exact(.ref m,.ref Ao,Av,Aw,Y,(b.keep f (d _ _ n) nofun,(x0.same A d).mono λo e=>(x0.same A d).elim λ_ x=>x.elim λ_ x=>x.elim λ_ x=>by cases x.1.symm.trans e;exact b.keep f e nofun),s,y,J,m,Ao,u,Y,(LQ G).kt (i0 s) c,C.gds _,λz H4 g _=>w z _ (.of (pV g s)),λAk z H4 g _=>B Ak z _ (.of (pV g s)))
def GI(v:V):Prop:=∃n,v = .int n
def GW(v:V):Prop:=∃z,v = .str z/\EN v/\iO 12 v=bm
def Cm(G:V->Prop):Prop:=∀x v,G x->G v->fG x v
theorem wQ:Cm GI:=by rintro _ _ ⟨a,e⟩ ⟨b,f⟩;exact .inl (a,b,e,f)
theorem NG:Cm GW:=by rintro _ _ ⟨a,e,_⟩ ⟨b,f,_⟩;exact .inr (a,b,e,f)
noncomputable def lP:b8->V->V->eg
 |0,x,v=>decide (x=v)
 |1,x,v=>ltV x v
 |_,x,v=>ltV v x
noncomputable def Sm.holds:Sm->V->eg
 |.zero bm,_=>bm
 |.zero b1,x=>decide (x = .non)
 |.one k v,x=>if x = .non then b1 else lP k x v
 |.among a,x=>if x = .non then b1 else sH x a
 |.bad _ _,_=>b1
inductive Lj(t:Ad)(G:V->Prop)(b:U V)(H:Hp)(Q:VK)(E:XK):Prop
 |i(a:a_)(q:Tr Sm)(_:b=[.ref a])(_:bD (LQ G) H a q)(_:nf t H)(_:dm t q=bd->∀A,RT t H A->Q .non A)(_:∀Ak,dm t q=O Ak->∀A,RT t H A->E (.ref Ak) bd A)
def vo[T:Gd]:=cD T.D79 15 (Lj gt GI) λF=>by
 let(Ao,c,b,J,f):=T.D1;have g:Jm gP gw gK gm gb GI Ao:=by
  let(Av,j,_,_,_,_,_,_,d,_,lk,_):=J.1;exact(b,_,_,(Av,j,b,d,lk),(y9 J).mono ?a,f,λv Ai Q E ⟨n,e⟩ q=>(n,by rw[e],q _ (aa.refl _)))
 refine F.oX ["question"] λj d Aq b s H J Q E f h=>?_;let(a,q,Y,b,d,j,J):=h;refine(_,(aj (aV ((CQ GI).pe f bF (fH ?A (dj c))))),?_);exact(a,Ao,q,Y,b,d,g,j,J)
def vp[T:Gd]:=cD T.D80 15 (Lj gt GW) λF=>by
 let(Ao,c,b,J,f):=T.D56;have g:Jm gP gw gK gm gb GW Ao:=by
  let(Av,j,_,_,_,_,_,_,d,_,lk,_):=J.1;exact(b,_,_,(Av,j,b,d,lk),zc J,f,λv Ai Q E ⟨z,e,m,n⟩ q=>(v,Y,m,λA s=>by rw[n];exact q A s))
 refine F.oX ["question"] λj d Aq b s H m Q E f h=>?_;let(a,q,Y,b,d,j,m):=h;refine(_,(aj (aV ((CQ GW).pe f bF (fH ?A (dj c))))),?_);exact(a,Ao,q,Y,b,d,g,j,m)
inductive VX(G:V->Prop)(b:U V)(H:Hp)(Q:VK)(_E:XK):Prop
 |i(a:a_)(s:Sm)(x:V)(_:b=[.ref a,x])(_:(LQ G).at' H a s)(_:∀w b,s≠.bad w b)(_:x = .non\/G x)(_:Q (.bl (s.holds x)) H)
def CA[T:Gd](G:V->Prop)(m:Cm G):=cD T.D81 1 (VX G) λF=>by
 refine F.o ["simple","value"] λM D Aq n N H s Q E I h=>?_;let(a,q,x,Y,(d,u),J,y,k):=h;have n:=gB I;refine(_,(ak (aI (aE aW (l3 gK ?A ah) au) (aj (ay di))
   aK)
  (ak (aI (aE aW (l3 gK ?A ah) au) (aj (ay (eN c7 ?B a9)))
   aK)
  (ak (aI (aE c7 ?B a9) (aj (ay di))
   aK)
  (ak (aI (aE aW (l3 gK ?A ah) au) (aj (ay (eN aW ?B (l3 gK ?A ah))))
   aK)
  (ak (aI (aE aW (l3 gK ?A ah) au) (aj (ay (eN zf ?B (l3 gK ?A ah))))
   aK)
  (ak (aI (aE aW (l3 gK ?A ah) au) (aj (ay (eN zd ?B (l3 gK ?A ah))))
   aK)
  (aj (ay (mK (iL gK) ?B (l3 gK ?A ah) ?r))))))))),?_)
 have A:∀v,G v->v≠.non:=λv h z=>by rcases m v v h h with⟨_,_,e,_⟩ |⟨_,_,e,_⟩ <;> (rw[z]at e;cases e)
 cases q with
 |bad w s=>exact cx Y (J w s)
 |zero b=>
  cases b with
  |true=>exact(a,_,_,1,Y,fx.of d,Y,Y,1,aA k)
  |false=>exact(a,_,_,1,Y,fx.of d,Y,Y,1,ao (a,_,_,1,Y,fx.of d,Y,Y,1,aA (Y,k)))
 |one c v=>
  have K:=u v (.head _);rcases y with rfl |j
  ·match c,d with
   |0,d=>exact(a,_,_,1,Y,fx.of d,Y,Y,1,ao (a,_,_,1,Y,fx.of d,Y,Y,1,ao (Y,1,aA k)))
   |1,d=>exact(a,_,_,1,Y,fx.of d,Y,Y,1,ao (a,_,_,1,Y,fx.of d,Y,Y,1,ao (Y,1,aA k)))
   |_+2,d=>exact(a,_,_,1,Y,fx.of d,Y,Y,1,ao (a,_,_,1,Y,fx.of d,Y,Y,1,ao (Y,1,aA k)))
  have f:=A x j;have k:Q (.bl (lP c x v)) H:=by rw[<-show (Sm.one c v).holds x=lP c x v from du f];exact k
  have p:=m x v j K
  match c,d,k with
  |0,d,k=>
   refine(a,_,_,1,Y,fx.of d,Y,Y,1,ao (a,_,_,1,Y,fx.of d,Y,Y,1,ao (Y,1,?_)));exact dF f (a,_,_,1,Y,fx.of d,Y,Y,1,aA (a,_,_,1,Y,fx.of d,Y,p.y1,k))
  |1,d,k=>
   refine(a,_,_,1,Y,fx.of d,Y,Y,1,ao (a,_,_,1,Y,fx.of d,Y,Y,1,ao (Y,1,?_)));exact dF f (a,_,_,1,Y,fx.of d,Y,Y,1,ao (a,_,_,1,Y,fx.of d,Y,Y,1,aA (a,_,_,1,Y,fx.of d,Y,p,k)))
  |_+2,d,k=>
   refine(a,_,_,1,Y,fx.of d,Y,Y,1,ao (a,_,_,1,Y,fx.of d,Y,Y,1,ao (Y,1,?_)));exact dF f (a,_,_,1,Y,fx.of d,Y,Y,1,ao (a,_,_,1,Y,fx.of d,Y,Y,1,ao (a,_,_,1,Y,fx.of d,Y,Y,1,aA (a,_,_,1,Y,fx.of d,Y,p,k))))
 |among C=>
  let(l,g,L,hz):=d;refine(a,_,_,1,Y,fx.of g,Y,Y,1,ao (a,_,_,1,Y,fx.of g,Y,Y,1,ao (Y,1,?_)));rcases y with rfl |j
  ·exact aA k
  have f:=A x j;have k:Q (.bl (sH x C)) H:=by rw[<-show (Sm.among C).holds x=sH x C from du f];exact k
  have B:∀v,G v->bz v=bm:=λv h=>by rcases m v v h h with⟨_,_,rfl,_⟩ |⟨_,_,rfl,_⟩ <;> rfl
  refine dF f (a,_,_,1,Y,fx.of g,Y,Y,1,ao (a,_,_,1,Y,fx.of g,Y,Y,1,ao (a,_,_,1,Y,fx.of g,Y,Y,1,ao (a,_,_,1,Y,fx.of g,Y,?_))));exact(l,1,.inl (eb.of L),B x j,dv.mpr λv d=>B v (u v d),k)
noncomputable def Tr.holds{α Ax:Type}(a:α->Ax->eg):Tr α->Ax->eg
 |.lf x,b=>a x b
 |.neg q,b=>!q.holds a b
 |.two e q r,b=>if e=bm then q.holds a b || r.holds a b else q.holds a b && r.holds a b
 |.bad _ _,_=>b1
theorem gh{x y:c3}{g:U V}(e:H a=O (.tup (.str x::g)))(b:H a=O (.tup (.str y::Ap))):x=y:=?x
theorem Ra{f r:Ax->eg}{b:U Ax}(c:H a=O (.lst ((b.map f).map V.bl)))(hz:?lb<=1000)(d:∀o A (R:VK),R (.bl (r o)) A->A1 [O (.bl (f o))] A R)(k:∀A p,aa H A->A p=O (.lst ((b.map r).map V.bl))->Q (.ref p) A):
  ff [bd] (Fe gK a) (eF 0) jT A1 σ H Q:=
 eC (ys:=b) (G:=λo=>.bl (f o)) (λo=>.bl (r o)) (by rw[d_]at c;exact eb.of c) hz (λi o _ A b s y=>(Wk.set Y,d o _ _ (y _ (.refl _)))) λp A s h _=>k A p s (by rw[h,d_];rfl)
theorem wV{f Ao r:Ax->eg}{c:U Ax}(h:H a=O (.lst ((c.map f).map V.bl)))(j:H b=O (.lst ((c.map Ao).map V.bl)))(hz:?lc<=1000)(m:∀o A (R:VK),R (.bl (r o)) A->A1 [O (.bl (f o)),O (.bl (Ao o))] A R)(k:∀A p,aa H A->A p=O (.lst ((c.map r).map V.bl))->Q (.ref p) A):
  ff [bd,bd] (I1 gK a b) (si gK 2 (se (eF 0) (se (eF 1) xK))) jT A1 σ H Q:=by
 refine⟨rK (B:=(c.map f).map V.bl) (ys:=(c.map Ao).map V.bl) (λi d A=>aa H A/\d=((c.take i).map r).map V.bl) (aa.refl _,Y) ?lc ?s ?_ (dn (bJ hz)) ?_ ?_⟩
 ·rintro i d A g ⟨e,rfl⟩;exact(eb.of (e _ _ h),eb.of (e _ _ j),by grind)
 ·rintro i x y d A n h j g ⟨e,rfl⟩ q;simp[ag g]at h j;subst h j;refine(n,1,fx.of ae,Y,_,1,_,1,Y,(Wk.set Y).trans (Wk.set Y),tT (m c[i] _ _ (cw g (aG e q,?_))));simp only[List.take_succ,ag g,b3,b3];rfl
 ·rintro d A ⟨e,rfl⟩ p h;refine k _ p (aG e h) ?_;rw[ae];simp
theorem wY{Ap:U Ax}(R:Hp->Prop)(d:Hp->a_->Ax->Prop)(j:?lbs=?lAp){Ao:TG}(g:R H)(s:∀Ai An,R Ai->aa Ai An->R An/\∀p y,d Ai p y->d An p y)(u:∀A,R A->fx gK A a (bs.map V.ref))(hz:?lbs<=1000)(hs:∀(i:b8) b y,bs[i]?=O b->Ap[i]?=O y->∀A (e:VK) (Z:Hp->Prop),R A->(∀p An,R An->(∀q z,d A q z->d An q z)->d An p y->e (.ref p) An)->Ao (.ref b) (stC fr σ) A λc An=>Wk (stC fr σ) c/\A2 c An λb H3=>if b=bm then A1 c H3 e else Z H3)(hd:∀p (B:U a_) A,R A->A p=O (.lst (B.map V.ref))->?lB=?lAp->(∀(k:b8) p y,B[k]?=O p->Ap[k]?=O y->d A p y)->Q (.ref p) A):ff fr (G4 gK a) Ao A2 A1 σ H Q:=by
 refine⟨rJ (B:=bs.map V.ref) (λi c A=>∃B:U a_,c=B.map V.ref/\?lB=i/\R A/\∀(k:b8) p y,B[k]?=O p->Ap[k]?=O y->d A p y) ([],Y,Y,g,nofun) (λi c A e h=>?_) (by rw[ai];exact dn (bJ hz)) (λi x c A n f h=>?_) λc A h p v=>?_⟩
 ·let(B,Y,Y,r,_):=h;exact(u _ r,by rw[ai];exact b2 _)
 ·let(B,Y,e,r,g):=h;rw[a']at n;let(b,c,Y):=d3.mp n;have n:=ag (show i<?lAp by rw[<-j];exact (bg.mp c).1);refine hs i b _ c n A _ _ r λp An u m h=>cw f (B++[p],by rw[b3];rfl,by rw[cc,e];rfl,u,λk f y c d=>?_);rcases jF c with c |⟨rfl,rfl⟩
  ·exact m _ _ (g k f y c d)
  ·rw[e,n]at d;cases d;exact h
 ·let(B,Y,e,r,g):=h;let(f,m):=s _ _ r (aa.new v);exact hd p B _ f ae (by rw[e,ai,j]) λk p y c d=>m _ _ (g k p y c d)
inductive JI(P:f0)(w:gl)(K:bI)(Al:c3->b5 b0)(b:fy)(t:Ad)(L:Lf)(c:L.1->b5 a_){Ax:Type}(f:L.1->Ax->eg)(d:U Ax)(k0:b8)(H:Hp)(l:a_):Prop
 |i(Ar:i3)(B:U c3)(e:Sp)(_:Gb K H l)(_:aN P w K Al b r_ k0 l Ar B e)(_:cp K Ar B [])(_:∀(Ai:Hp)(a:a_)(x:L.1)(Q:VK)(E:XK),RT t H Ai->L.at' Ai a x->c x=bd->
  (∀p An,RT t Ai An->An p=O (.lst ((d.map (f x)).map V.bl))->Q (.ref p) An)->e [.ref a] Ai Q E)
theorem JI.rt[T:Gd]{L:Lf}{c:L.1->b5 a_}{e:L.1->Ax->eg}{d:U Ax}{l:a_}(h:JI gP gw gK gm gb gt L c e d k0 H l)(f:nf gt H)(r:RT gt H A):JI gP gw gK gm gb gt L c e d k0 A l:=
 by let(Ar,B,d,v,F,b,h):=h;exact(Ar,B,d,xB v f r,F,b,λAi a x Q E e=>h Ai a x Q E (r.trans e))
inductive TC(P:f0)(w:gl)(K:bI)(Al:c3->b5 b0)(e:fy)(t:Ad)(L:Lf)(c:L.1->b5 a_){Ax:Type}(f:L.1->Ax->eg)(k0 m:b8)(g:U V)(H:Hp)(Q:VK)(_E:XK):Prop
 |i(a l:a_)(d:b8)(q:Tr L.1)(b:U Ax)(_:g=[.ref a,.ref l])(_:bD L H a q)(_:n8 c t.eBadQuestion d q=bd)(_:6<=d+m)(_:?lb<=1000)(_:nf t H)(_:JI P w K Al e t L c f b k0 H l)(_:∀p A,RT t H A->A p=O (.lst ((b.map (q.holds f)).map V.bl))->Q (.ref p) A)
def TB(P:f0)(w:gl)(K:bI)(Al:c3->b5 b0)(a:fy)(t:Ad)(L:Lf)(c:L.1->b5 a_)(b:L.1->Ax->eg)(k0:b8):b8->Sp
 |0=>λ_ _ _ _=>fP
 |m+1=>TC P w K Al a t L c b k0 m
theorem hU{c:α->b5 a_}{q:Tr α}(h:n8 c z d q=bd):d<=6:=t1 λn=>by rw[wL (G0 ‹_›) q]at h;cases h
theorem Y_:(["part","marks_of"]:U c3).Nodup:=?k
theorem P4:(["mark"]:U c3).Nodup:=?k
theorem pz:(["one","other"]:U c3).Nodup:=?k
def CM[T:Gd](L:Lf)(c:L.1->b5 a_)(w:L.1->Ax->eg)(k0:b8)(S:1<=k0):=rD T.D82 k0 6 (TB gP gw gK gm gb gt L c w k0) λm AO F=>by
 refine F.o ["asked","marks_of","parts"] λAQ AR Aq A8 J H AS Q E A9 h=>?_;let(a,l,d,q,D,Y,A3,C,hd,hz,N,Ak,k):=h;let(x,g,P,A8,AA):=A3.form c gt.eBadQuestion;have AB:=hU C;refine(_,(ak (aI (dQ (bY (qr.pe A9 ap (e0 ?A) ?o))) (aj (ay (ua gP gw gK gm gb k0 A9 ap (e0 ?A) (pv 1) ?o)))
   aK)
  (ak (gR 2 AQ (Ae:=["part","marks_of"]) (fr:=[bd,O 1]) (jP (gN (k8 gK) ?A (eP ah) jd)) (λAk As J H=>(aF 0 Y_,bh,(AO.pe A9 ap (fH ?A ?B) ?o))))
  (ak (aI (aE aW (l3 gK ?A ah) au) (aj (ay (bf (Ae:=["mark"]) (fr:=[bd]) (ba (nC gK ?C ah)) (λAk As J H=>(aF 0 P4,bh,(kW ?A))))))
   aK)
  (ak (aI (aE aW (l3 gK ?A ah) au) (aj (ay (bf (Ae:=["one","other"]) (fr:=[bd,bd]) (mQ gK ?r T.iJ (fH (nC gK ?C ah) (nC gK ?C ah))) (λAk As J H=>(dA gK (n:=2) Y (bv (aF 0 pz) (bv (aF 1 pz) dB)),bh,(fW ?A (d0 ?B)))))))
   aK)
  (aj (ay (bf (Ae:=["one","other"]) (fr:=[bd,bd]) (mQ gK ?r T.iJ (fH (nC gK ?C ah) (nC gK ?C ah))) (λAk As J H=>(dA gK (n:=2) Y (bv (aF 0 pz) (bv (aF 1 pz) dB)),bh,(pL ?A (d0 ?B))))))))))),?_)
 refine(a,_,1,P,1,?_);rcases AA with⟨y,rfl,A4,A8⟩ |⟨n,AC,AA⟩
 ·rw[A8];rw[n8,du ?o]at C;let(AD,AE,AF,v,G,AG,AT):=Ak;exact aA (l,AD,AE,AF,Y,v,G,AG,v,AT H a y _ _ (RT.refl _ _) A4 C k)
 rw[AC];rcases AA with⟨_,_,_,rfl⟩ |⟨_,bs,rfl,AH,A8,AI,AU⟩
 ·cases C
 have AJ:=C;rw[AU d AB,n7]at C;refine ao ((1),Y,a,1,fx.of P,lA _ _,λpt AK=>(pt,Y,(_,fx.of ae),?_));have A8:dE (V.str x::bs.map V.ref) (O 1) bd=bs.map V.ref:=ly _ _;rw[A8];have A5:RT gt H (upd H pt (.tup (bs.map V.ref))):=.of (aa.new AK);have K:(upd H pt (.tup (bs.map V.ref))) pt=O (.tup (bs.map V.ref)):=ae;generalize upd H pt (.tup (bs.map V.ref))=Ai at A5 K;have A8:=A5.2 N;refine wY (Ap:=q.parts) (λA=>RT gt Ai A) (λA p r=>A p=O (.lst ((D.map (r.holds w)).map V.bl))) AH (RT.refl _ _) (λA An r J=>(r.trans (.of J),λq y h=>J _ _ h)) (λA A6=>fx.of (A6.keep A8 K nofun)) ?o (λi b y AG A4 A AX Z A6 AV=>?_) λX B H3 f s AM A7=>?_
 ·have C:=C _ (a0 A4);have:=hU C;obtain⟨AN,rfl⟩:∃AN,m=AN + 1:=(m - 1,?o)
  have f:=A5.trans A6;exact(Wk.set Y,tT (b,l,d+1,y,D,Y,(AI i b _ AG A4).kt (f.kt N),C,?o,hz,f.2 N,Ak.rt N f,λp H3 I J=>AV p H3 (A6.trans I) (λq z h=>I.keep (f.2 N) h nofun) J))
 have f:=A5.trans f;have u:=f.keep N P nofun;cases q with
 |lf y=>let(_,_,e,_,j):=L.tup A3;cases P.symm.trans e;rw[j]at AC;cases AC
 |bad x AS=>exact cx (AJ.symm.trans Y) nofun
 |neg q=>
  let(M,Y):=BA.mp AM;let(_,e,_):=A3;obtain rfl:=gh P e;exact(a,_,_,1,Y,fx.of u,cO ?a Y,Y,1,aA (X,_,_,1,Y,eb.of s,Y,M,Y,(_,eb.of (A7 0 M q Y Y)),Ra (A7 0 M q Y Y) hz (λo A R h=>(1,h)) λA p I h=>k p A (f.trans (.of I)) h))
 |two e q r=>
  obtain⟨M,AL,rfl⟩:∃x y,B=[x,y]:=match B,AM with |[x,y],_=>(x,y,Y)
  have S:=A7 0 M q Y Y;have K:=A7 1 AL r Y Y;let(_,_,AW,_):=A3;obtain rfl:=gh P AW;cases e with
  |false=>
   refine(a,_,_,1,Y,fx.of u,cO ?a Y,Y,1,ao (a,_,_,1,Y,fx.of u,cO ?a Y,Y,1,aA (X,_,_,1,Y,eb.of s,Y,X,_,_,1,Y,eb.of s,Y,M,AL,_,1,eb.of S,eb.of K,wV S K hz (λo A R h=>(1,?_)) λA p I h=>k p A (f.trans (.of I)) h)));rw[show (Tr.two b1 q r).holds w o=(q.holds w o && r.holds w o) from Y]at h;cases e:q.holds w o <;> rw[e]at h
   ·exact h
   ·exact h
  |true=>
   refine(a,_,_,1,Y,fx.of u,cO ?a Y,Y,1,ao (a,_,_,1,Y,fx.of u,cO ?a Y,Y,1,ao (X,_,_,1,Y,eb.of s,Y,X,_,_,1,Y,eb.of s,Y,M,AL,_,1,eb.of S,eb.of K,wV S K hz (λo A R h=>(1,?_)) λA p I h=>k p A (f.trans (.of I)) h)));rw[show (Tr.two bm q r).holds w o=(q.holds w o || r.holds w o) from Y]at h;cases e:q.holds w o <;> rw[e]at h
   ·exact h
   ·exact h
open Classical in
theorem Lx{f:Key->V}(k:Key):∀(B b:U (Key×V)),(∀p∈B,p.2=f p.1)->aO (B.foldl (λa p=>bQ a p.1 p.2) b) k=if k∈B.map v7 then O (f k) else aO b k
 |[],b,_=>?x
 |p::B,b,h=>by
  simp only[ju,Lx k B _ λp b=>h p (dz _ b),Pz]
  grind
open Classical in
theorem LY{f:Key->V}{B:U (Key×V)}(h:∀p∈B,p.2=f p.1)(k:Key):aO (dR B) k=if k∈B.map v7 then O (f k) else bd:=Lx k B [] h
theorem Yy{k:Key}:(aO kvs k).isSome=bm↔k∈kvs.map v7:=by
 rw[<-jj,hZ,cv]
 grind
theorem JP(o:OI):ov o=kV (.inl o):=by cases o <;> rfl
theorem U9(g:U OI):∃a:U OI,(dR (g.map λo=>(zzq (.inl o:Key) (V.bl bm)))).map (λb=>kV b.1)=a.map ov/\(∀o∈g,o∈a)/\?la<=?lg:=by
 have c:=LY (f:=λ_=>.bl bm) (B:=g.map λo=>(zzq (.inl o) (V.bl bm))) λp a=>by
  let(o,_,Y):=cv.mp a;rfl
 have a:∀k:Key,k∈(dR (g.map λo=>(zzq (.inl o) (V.bl bm)))).map v7↔∃o∈g,eS o=k:=λk=>by
  rw[<-Yy,c k]
  simp_all
 have c:=mV (g.map λo=>(zzq (.inl o) (V.bl bm)));rw[ai]at c;generalize dR (g.map λo=>(zzq (.inl o) (V.bl bm)))=kvs at a c;refine(kvs.map λb=>b.1.elim id λ_=>bd,?_,λo c=>?_,?x)
 ·rw[d_];refine f6 λb d=>?_;let(o,_,e):=(a b.1).mp (g_ d);show kV b.1=ov (b.1.elim id λ_=>bd);exact e ▸ (JP o).symm
 ·let(b,d,f):=cv.mp ((a (.inl o)).mpr (o,c,Y));exact cv.mpr (b,d,by rw[f];rfl)
theorem SX{a:U OI}{f:OI->V}{o:OI}(h:o∈a):aO (dR ((a.map (eS:OI->Key)).zip (a.map f))) (.inl o)=O (f o):=by
 rw[List.zip_map',LY (f:=λk:Key=>k.elim f λ_=>.non) (λp a=>by let(o,_,Y):=cv.mp a;rfl),d6]
 ·rfl
 ·simp_all
def tt(s:Sm)(o:OI):eg:=s.holds (ov o)
theorem zj(o:OI):ov o = .non\/GI (ov o):=by cases o;exact .inl Y;exact .inr ⟨_,Y⟩
theorem rA{q:c3}(x:x0 H c q)(a:nf t H)(r:RT t H A):x0 A c q:=by let(Av,b,Aw,e,y):=x;exact(Av,b,Aw,r.keep a e nofun,y)
inductive YE(v z:V)(H:Hp)(Q:VK)(_E:XK):Prop
 |i(a l:a_)(s:Sm)(b:U OI)(_:v = .ref a)(_:z = .ref l)(_:(LQ GI).at' H a s)(_:∀w c,s≠.bad w c)(_:H l=O (.lst (b.map ov)))(_:?lb<=1000)(_:∀p An,aa H An->An p=O (.lst ((b.map (tt s)).map V.bl))->Q (.ref p) An)
def ny(H:Hp):U a_->U (U V)->Prop
 |[],[]=>sI
 |a::X,p::B=>H a=O (.tup p)/\ny H X B
 |_,_=>fP
theorem ny.len{H:Hp}:∀{X:U a_}{B:U (U V)},ny H X B->?lX=?lB
 |[],[],_=>rfl
 |_::X,_::B,h=>eG (· + 1) (ny.len h.2)
theorem ny.kt{H A:Hp}(k:∀b g,H b=O (.tup g)->A b=O (.tup g)):∀{X:U a_}{B:U (U V)},ny H X B->ny A X B
 |[],[],_=>trivial
 |_::X,_::B,h=>(k _ _ h.1,ny.kt k h.2)
theorem ny.app{H:Hp}{bs:U a_}{a:U (U V)}(Ao:ny H bs a):∀{X:U a_}{B:U (U V)},ny H X B->ny H (X++bs) (B++a)
 |[],[],_=>Ao
 |_::X,_::B,h=>(h.1,ny.app Ao h.2)
theorem ny.get{H:Hp}:∀{X:U a_}{B:U (U V)}{i:b8}{a:a_},ny H X B->X[i]?=O a->∃p,B[i]?=O p/\H a=O (.tup p)
 |_::X,p::B,0,_,h,e=>by cases e;exact(p,Y,h.1)
 |_::X,_::B,i+1,_,h,e=>ny.get (i:=i) h.2 e
theorem rH{Ap:U α}{G:α->V}(c:α->eg)(F:α->U V){Ao:TG}(q:eb K H a (Ap.map G))(hz:?lAp<=1000)(hs:∀(i:b8) y,Ap[i]?=O y->∀A (f:VK) (Z:Hp->Prop),aa H A->(c y=bm->∀b An,aa A An->An b=bd->f (.ref b) (upd An b (.tup (F y))))->(c y=b1->∀An,aa A An->Z An)->Ao (G y) (stC fr σ) A λd An=>Wk (stC fr σ) d/\A2 d An λb H3=>if b=bm then A1 d H3 f else Z H3)(hd:∀p d A,aa H A->A p=O (.lst (d.map V.ref))->ny A d ((Ap.filter c).map F)->Q (.ref p) A):ff fr (Fe K a) Ao A2 A1 σ H Q:=by
 refine⟨oA (B:=Ap.map G) (λi f A=>∃d:U a_,f=d.map V.ref/\aa H A/\ny A d (((Ap.take i).filter c).map F)) ([],Y,aa.refl _,trivial) (λi f A s h=>?_) (by rw[ai];exact dn (bJ hz)) (λi x f A m j h=>?_) λf A h p n=>?_⟩
 ·let(d,Y,s,f):=h;refine(s.seq q,?_);rw[ai,f.len,ai];exact ce (eu ..) (hY ..)
 ·let(d,Y,s,f):=h;rw[a']at m;let(y,q,Y):=d3.mp m;have e:(Ap.take (i+1)).filter c=(Ap.take i).filter c++[y].filter c:=by rw[ei,q,h3];rfl
  refine hs i y q A _ _ s (λh b An m q=>cw j (d++[b],by rw[b3];rfl,aG (s.trans m) q,?_)) λh An m=>cw j (d,Y,s.trans m,?_)
  ·rw[e,gk,d6 h,b3];exact ny.app (show ny _ [b] [F y] from(ae,trivial)) (f.kt λj g e=>aG m q j _ e)
  ·rw[e,gk,du (by simp[h]),List.filter_nil,f2];exact f.kt λj g e=>m j _ e
 ·let(d,Y,s,f):=h;rw[ai,dw]at f;exact hd p d _ (aG s n) ae (f.kt λj g e=>aa.new n j _ e)
inductive Y8(t:Ad)(b:U V)(H:Hp)(Q:VK)(_E:XK):Prop
 |i(a p:a_)(q:Tr Sm)(g:U OI)(_:b=[.ref a,.ref p])(_:bD (LQ GI) H a q)(_:dm t q=bd)(_:H p=O (.lst (g.map ov)))(_:?lg<=1000)(_:nf t H)(_:∀r A,RT t H A->A r=O (.lst ((g.map (q.holds tt)).map V.bl))->Q (.ref r) A)
theorem NV:(["value"]:U c3).Nodup:=?k
theorem R_:(["value","found"]:U c3).Nodup:=?k
theorem YA:(["value","simple"]:U c3).Nodup:=?k
def Sl[T:Gd]:=M7 (c:=r_) T.D83 9 (Y8 gt) λF=>by
 refine F.o ["question","values","each","marks","found"] λB Aq e m H A9 Q E D h=>?_;let(a,p,q,g,Y,AA,J,K,hz,P,k):=h;have s:=gB D;refine(_,(ak (aD 2 B (fw (oq Y) ?r T.gG z5 (e0 (fw (VD Y) ?r T.yM z0 (e0 (bf (Ae:=["value"]) (fr:=[bd]) (ba ?B) (λAk As m H=>(aF 0 NV,bh,(bP (fH ?A di))))))))))
  (ak (aD 3 B ((CM (LQ GI) (cQ gt.eBadQuestion) tt 2 ?a).peZ (i:=2) (y := "each") D ap L' (fH ?A (kU Y Y F.2 T.B)) Y Y Y Y))
  (ak (aD 4 B (Sj gK Y ?r T.yM ?r T.iJ (fH ?C ?E)))
  (aj (ay (bf (Ae:=["value","found"]) (fr:=[bd,O 4]) (ba ?B) (λAk As m H=>(aF 0 R_,bh,(fX s ?B ?A (λ_ _=>rfl)))))))))),?_)
 refine(p,Y,(_,eb.of K),rH (Ap:=g) (G:=ov) (λ_=>bm) (λo=>[ov o,.bl bm]) (eb.of K) hz (λi o _ A R Z m y _=>(Wk.set Y,tT (by show 2<=bT;decide,λb s=>y Y b _ (.refl _) s))) λG X An u B c=>?_);rw[nb.mpr λ_ _=>rfl]at c;refine(G,X,g.map λo=>(zzq (.inl o) (.bl bm)),Y,B,by rw[c.len,ai,ai],λi b pr f s=>?_,λd hd=>(d,1,ae,λl n=>?_))
 ·rw[a']at s;let(o,G,Y):=d3.mp s;let(q,B,s):=c.get f;rw[a',G]at B;cases B;show _=O (HO.tup [kV (.inl o),.bl bm]);rw[s,<-JP]
 let(c,s,L,B):=U9 g;rw[s];have f:aa H (upd (upd An d (.dK (dR (g.map λo=>(zzq (.inl o) (.bl bm)))))) l (.lst (c.map ov))):=aG (aG u hd) n;have u:(upd (upd An d (.dK (dR (g.map λo=>(zzq (.inl o) (.bl bm)))))) l (.lst (c.map ov))) l=O (.lst (c.map ov)):=ae;generalize upd (upd An d (.dK (dR (g.map λo=>(zzq (.inl o) (.bl bm)))))) l (.lst (c.map ov))=H4 at f u;have G:=P.same f;refine(G _ (gf gt 1),λs AB n B kt LH=>(1,λAv Aw M A3 AC=>?_));have N:=kZ (gf gt 1) kO n kt;let(pm,x,n,I,AD):=LH;have A4:=N.keep G u nofun;generalize ?sm+1+1=n at M I ⊢;have x:aa s (upd s n (lS Av n)):=aa.new M;have C:(upd s n (lS Av n)) n=O (lS Av n):=ae;have A5:=N.trans (.of x);have s:=A5.2 G;have A6:=lY (Ab:=gP) (w:=gw) (K:=gK) (mg:=gm) (base:=gb) I "simple" 1
  YE
  ?S uq (λAq e m H v z Q E D h=>?T.B) (λe B=>match e,B with |[_],_=>rfl)
 case S=>exact(Y,Y,Y,?a,Y,?a,.inr (Y,λ_ _=>rfl))
 case T.B=>
  refine(_,bf (fr:=[bd,O 0]) (ba ?B) (λAk As m H=>(aF 0 YA,bh,(CA GI wQ).pe D ap (fH ?B ?A))),?_);let(a,l,q,c,Y,Y,e,m,B,hz,k):=h;refine(l,Y,(_,eb.of B),eC (K:=gK) (ys:=c) (G:=ov) (λo=>.bl (tt q o)) (eb.of B) hz (λi o _ A R f y=>(Wk.set Y,a,q,ov o,Y,(LQ GI).kt (cX f) e,m,zj _,y _ (.refl _))) λp A f u _=>k p _ f (by rw[u,d_];rfl))
 refine(a,AB,(1),q,c,Y,(AA.kt (cX f)).kt (A5.kt G),J,?a,?o,s,(_,_,_,.inr (_,_,_,_,x _ _ I),A6.1,A6.2,λA7 A8 AE e AG m D B j=>?_),λr A7 m AF=>?_)
 ·have e:=m.keep s C nofun;refine(.ref A8,.ref l,Av,Aw,Y,(m.keep s (x _ _ I) nofun,rA (x0.same AD x) s m),e,A3,AC,A8,l,AE,c,Y,Y,(LQ GI).kt (i0 e) D,(λw A9 z=>by rw[z]at B;cases B),(i0 e).lst (m.keep s (x _ _ A4) nofun),?o,λJ A5 A6 G AA=>j J _ (.of (pV A6 e)) ?_);rw[af λz=>?_]
  ·exact G
  rw[z,AA]at G;cases G
 have D:=m.keep s (x _ _ A4) nofun;have e:=m.keep s C nofun;have s:=(RT.of f).trans (N.trans (mZ m M A3));have m:=(i0 e).lst AF;have B:=(i0 e).lst D;have e:=s.keep P K nofun;generalize del A7 n=A5 at s m B e;refine(l,r,c.map eS,(c.map (q.holds tt)).map V.bl,Y,?_,eb.of m,?s,λd hd=>(p,Y,(_,eb.of (aa.new hd _ _ e)),?_))
 ·rw[d_];exact eb.of (B.trans (by rw[f6 λo _=>JP o];rfl))
 have B:=aa.new (o:=.dK (dR ((c.map eS).zip ((c.map (q.holds tt)).map V.bl)))) hd;refine eC (ys:=g) (G:=ov) (λo=>.bl (q.holds tt o)) (eb.of (B _ _ e)) hz (λi o e A R f y=>(Wk.set Y,d,.bl (q.holds tt o),Y,?_,y _ (.refl _))) λp A f u _=>k p _ (s.trans (.of (B.trans f))) (by rw[u,d_];rfl);have:=d9.k (k:=.inl o) (f _ _ ae);rw[d_,SX (L _ (a0 e)),<-JP]at this;exact this
noncomputable def de(f:OI->eg):b8->U OI->U (b8×OI)
 |_,[]=>[]
 |b,x::r=>if f x=bm then (zzq b x)::de f (b+1) r else de f (b+1) r
theorem sL(f:OI->eg):∀(b:b8)(g Ap:U OI),de f b (g++Ap)=de f b g++de f (b+?lg) Ap
 |b,[],Ap=>rfl
 |b,x::r,Ap=>by
  simp only[FK,de,de,sL f (b+1) r Ap,show b+1+?lr=b+(?lr+1) by exact l5 _ _ _];cases f x <;> rfl
theorem md(f:OI->eg):∀(b:b8)(g:U OI),(de f b g).length<=?lg
 |_,[]=>b2 _
 |b,x::r=>by
  have:=md f (b+1) r;simp only[de];cases f x
  ·exact hq this
  ·exact tJ this
theorem Yf(f:OI->eg)(b:b8)(g:U OI)(x:OI):de f b (g++[x])=de f b g++if f x=bm then [(zzq (b+?lg) x)] else []:=by
 simp only[sL];rfl
def dN(H:Hp)(X:U a_)(B:U (b8×OI)):Prop:=ny H X (B.map λp=>[.int p.1,ov p.2])
theorem dN.len{H:Hp}{X:U a_}{B:U (b8×OI)}(h:dN H X B):?lX=?lB:=(ny.len h).trans (ai _)
theorem dN.kt{H A:Hp}(k:∀b g,H b=O (.tup g)->A b=O (.tup g)){X:U a_}{B:U (b8×OI)}(h:dN H X B):dN A X B:=ny.kt k h
theorem dN.app{H:Hp}{bs X:U a_}{a B:U (b8×OI)}(Ao:dN H bs a)(h:dN H X B):dN H (X++bs) (B++a):=by rw[dN,b3];exact ny.app Ao h
theorem dN.get{H:Hp}{X:U a_}{B:U (b8×OI)}{i:b8}{a:a_}(h:dN H X B)(e:X[i]?=O a):∃p,B[i]?=O p/\H a=O (.tup [.int p.1,ov p.2]):=by
 let(_,b,c):=ny.get h e;rw[a']at b;let(p,d,Y):=d3.mp b;exact(p,d,c)
theorem nf.nt{o:HO}(a:nf t H)(e:H b=O o)(n:∀B,o≠.tbl B):b∉nv t:=λc=>by let(B,z):=a.tab c;rw[e]at z;cases z;exact n B Y
theorem VV{l:a_}{q:c3}{g:U V}{o:HO}(x:dW H p Az q)(e:H l=O (.lst g)):dW (upd H l o) p Az q:=by
 let(B,a,b,h):=x;refine(B,by rw[af λz=>by grind];exact a,b,h.imp id λ⟨c,d,h⟩=>(c,d,?_));let(Av,b,t,a,r):=h;exact(Av,b,t,by rw[af λz=>by rw[z,e]at a;cases a];exact a,r)
theorem nf.lst{l:a_}{g:U V}{o:HO}(a:nf t H)(e:H l=O (.lst g)):nf t (upd H l o):=λf m=>VV (a f m) e
inductive Oq(t:Ad)(b:U V)(H:Hp)(Q:VK)(E:XK):Prop
 |i(c a:a_)(q:Tr Sm)(g:U OI)(_:b=[.ref c,.ref a])(_:d7 t.cColumn H c g)(_:o5 g=bm)(_:bD (LQ GI) H a q)(_:nf t H)(_:dm t q=bd->∀l X A,RT t H A->A l=O (.lst (X.map V.ref))->dN A X (de (q.holds tt) 0 g)->Q (.ref l) A)(_:∀Ak,dm t q=O Ak->∀A,RT t H A->E (.ref Ak) bd A)
theorem yC:(["place","mark","begin","block"]:U c3).Nodup:=?k
def Uu[T:Gd]:=cM T.D84 16 (Oq gt) λF=>by
 refine F.oX ["self","question","found","begin","kind","block","marks"] λs u Aq m K H P Q E d h=>?_;let(c,a,q,g,Y,m,ok,C,u,AG,L):=h;have P:=iK ok;have D:=wT g;refine(_,(ak (aV (vo.pe d bF (e0 ?B)))
  (ak (aD 2 s (bO dJ))
  (ak (aD 3 s ah)
  (ak (PS.nox (dk ev Y (ba (vK.pe d ap (e0 (bp gK ?A Y)))) (dA gK (n:=2) Y (bv (aF 4 s) (bv (aF 5 s) dB)))
   (ak (aD 6 s (Sl.pe d ap (fH ?B ?H)))
  (ak (aV (bX gK d2 n_ n' tK ?C (e0 (bf (Ae:=["place","mark","begin","block"]) (fr:=[bd,bd,O 3,O 5]) (zx gK ?r T.yO (e0 ?I)) (λAk As K H=>(dA gK (n:=2) Y (bv (aF 0 yC) (bv (aF 1 yC) dB)),(gQ (bY ?B)),(bP (fH (aq aT ?C ?A) (nC gK ?E ?A)))))))))
  (aj (zL (i:=3) s Y (q6 Y) (aH (bR gK) ?r T.be z4 (e0 ?H)) xW))))))
  (aj (ay ?C)))))),?_)
 refine(a,q,Y,C,u,λz Ai A3=>?_,L)
 ·have S:=A3.2 u;let(N,m):=m;have m:=A3.keep u m nofun;have C:=C.kt (A3.kt u);refine(av Y,λl G=>?_);have A4:aa Ai (upd Ai l (.lst [])):=aa.new G;have d:(upd Ai l (.lst [])) l=O (.lst []):=ae;have K:=S.same A4;have m:=A4 _ _ m;refine(c,_,N,_,1,m,T.c9,T.lJ,Y,hV g,?_,rE ok,by rw[oz];exact M8 ok,λlt H3 A5 u s=>?_)
  ·rw[oz];rfl
  let(X,m,AC,R,P):=s;have I:=wS g;have s:=rE ok;generalize hV g=f at D I s AC R;have D:=K.same A5;have Z:=A5 _ _ d;have L:∀a∈X,a.1≠l/\a.2≠l:=λa K=>by
   let(w,v):=P a K;exact(λz=>(by rw[z,d]at w;cases w),λz=>(by rw[z,d]at v;cases v))
  have K:lt≠l:=λz=>by rw[z,d]at u;cases u
  refine(lt,Y,(_,eb.of m),⟨fQ (K:=gK) (a:=lt) (B:=X.map λa=>V.ref a.1) (λk σ A=>∃(A8 A9 AA:b5 V)(j:U a_),σ=[O (.ref c),O (.ref a),O (.ref l),O (.int (((f.take k).map (·.2)).flatten.length:b8)),A8,A9,AA]/\(∀b o,b≠l->b∉nv gt->H3 b=O o->A b=O o)/\nf gt A/\A l=O (.lst (j.map V.ref))/\dN A j (de (q.holds tt) 0 ((f.take k).map (·.2)).flatten))
   (bd,bd,bd,[],Y,λb o _ _ e=>e,D,Z,trivial) ?_ ?_ ?_⟩)
  ·rintro k σ A P ⟨_,_,_,_,_,h,_⟩;exact eb.of (h _ _ K (D.nt m (by nofun)) m)
  ·rintro k y σ H4 P ⟨A8,A9,AA,j,rfl,M,J,AB,n⟩;have m:k<?lX:=by
    have:=(bg.mp P).1
    rwa[ai]at this
   rw[a',ag m]at P;cases P;have d:f[k]?=O (f[k]' ?o):=ag ?o;let(K,u):=R k X[k] _ (ag m) d;let(w,v):=L _ (d1 m);have K:=M _ _ w (D.nt K (by nofun)) K;have u:=M _ _ v (D.nt u (by nofun)) u;have s:=(gI (s _ (d1 (by omega:k<?lf))).1).2;have D:f.take (k+1)=f.take k++[f[k]' ?o]:=by rw[ei,d];rfl
   have m:(((f.take (k+1)).map (·.2)).flatten).length<=?lg:=by
    conv=>rhs;rw[<-I,<-q7 (k+1) f,b3,k',cc]
    exact pB _ _
   have d:((f.take (k+1)).map (·.2)).flatten=((f.take k).map (·.2)).flatten++(f[k]' ?o).2:=by rw[D,b3];simp
   rw[d,cc]at m;rw[d];generalize ((f.take k).map (·.2)).flatten=R at n m ⊢;generalize f[k].2=d at u s m ⊢;have s:=C.kt λb o e=>by
    cases o with
    |tbl B=>exact .inr (.inl (B,Y))
    |_=>exact .inl (M b _ (aC e G) (S.nt e (by nofun)) (A5 _ _ (A4 _ _ e)))
   refine(X[k].1,1,fx.of K,Y,_,1,_,1,Y,?_);refine(a,X[k].2,q,d,Y,s,z,u,?o,J,λr K m A6=>?_);have AD:=m.keep J u nofun;have AE:=m.keep J AB nofun;have AH:=m.2 J;have D:=n.kt λb Ap e=>m.keep J e nofun;have AI:=λb o w v e=>m.1 b o v (M b o w v e);have m:=md (q.holds tt) 0 R;have m:=D.len;refine(.inl (Y,_,eb.of AE),r,1,eb.of A6,lQ (n:=?ld) (λi C A=>∃bs:U a_,C=bs.map V.ref/\aa K A/\dN A bs (de (q.holds tt) ?lR (d.take i))) ([],Y,aa.refl _,trivial) ?_ (dn (bJ ?o)) ?_ ?_)
   ·rintro i C S s ⟨bs,rfl,K,L⟩;have:=md (q.holds tt) ?lR (d.take i);rw[d8]at this;have m:=L.len;refine(by rw[ai];omega,λs=>(_,_,eb.of (K _ _ A6),by rw[a',a',ag s];rfl),λs=>(_,eb.of (K _ _ A6),by rw[ai,ai];exact s))
   ·rintro i x C S A7 s ⟨bs,rfl,K,L⟩ ⟨AF,Z,rfl,P⟩;let(y,m,Y):=P _ (eb.of (K _ _ A6));rw[a',a',ag s]at m;cases m;refine(AF,1,fx.of ae,Y,_,1,_,1,Y,(Wk.set Y).trans (Wk.set Y),?_);refine(1,?_);have m:d.take (i+1)=d.take i++[d[i]]:=by rw[ei,ag s];rfl
    have P:=Yf (q.holds tt) ?lR (d.take i) d[i];rw[<-m,d8,hG (dn s)]at P;have u:=aG (o:=.tup [.int i,.bl (q.holds tt d[i])]) K Z;have m:=L.kt λb Ap e=>aa.new (o:=.tup [.int i,.bl (q.holds tt d[i])]) Z b _ e;generalize upd S AF (.tup [.int i,.bl (q.holds tt d[i])])=A7 at u m ⊢;cases e:q.holds tt d[i]with
    |false=>
     refine ao (cw s (bs,Y,u,?_));rw[P,e];simpa using m
    |true=>
     refine aA (_,1,Y,X[k].2,_,_,1,Y,eb.of (u _ _ AD),cf (by rw[a',ag s];rfl),by show 2<=bT;decide,λb Z=>cw s (bs++[b],by rw[b3];rfl,aG u Z,?_));rw[P,e];refine dN.app ?_ (m.kt λs Ap e=>aa.new Z s _ e);exact(ae,trivial)
   ·rintro C S ⟨bs,rfl,K,L⟩ p s;rw[dw]at L;have P:=md (q.holds tt) ?lR d;have P:=L.len;have u:=aG (o:=.lst (bs.map V.ref)) K s;have m:=L.kt λb Ap e=>aa.new (o:=.lst (bs.map V.ref)) s b _ e;have K:(upd S p (.lst (bs.map V.ref))) p=O (.lst (bs.map V.ref)):=ae;generalize upd S p (.lst (bs.map V.ref))=A7 at u m K ⊢;have s:=u _ _ AE;refine(l,p,_,1,Y,s,K,?_,1,X[k].2,d.map ov,Y,.inl (eb.of ?_),_,1,Y,O (.str (bH.getD f[k].1 "")),O (.ref X[k].2),O (.ref r),j ++ bs,?_,λb o w v e=>?_,(AH.same u).lst s,?_,?_)
    ·rw[ai,ai];exact dn (bJ ?o)
    ·rw[af v];exact u _ _ AD
    ·rw[ai,cc];rfl
    ·rw[af w];exact u _ _ (AI b o w v e)
    ·rw[ae,b3]
    ·rw[sL,kR];have kt:∀b Ap,A7 b=O (.tup Ap)->upd A7 l (.lst (j.map V.ref++bs.map V.ref)) b=O (.tup Ap):=λb Ap e=>by
      rw[af λz=>by rw[z,s]at e;cases e];exact e
     exact dN.app (m.kt kt) ((D.kt λb Ap e=>u b _ e).kt kt)
  ·rintro σ H4 ⟨A8,A9,AA,j,rfl,M,J,AB,n⟩;rw[ai,AC,dw,I]at n;refine AG z l j H4 (λb o m e=>?_,λ_=>J) AB n;have e:=A3.1 b o m e;exact M b o (aC e G) m (A5 _ _ (A4 _ _ e))
theorem RT.free{l:a_}(r:RT t H Ai)(b:nf t Ai)(h:Ai l=bd):H l=bd:=by
 cases e:H l with
 |none=>rfl
 |some o=>
  have:=r.1 l o (λz=>by let(_,a):=b.tab z;rw[h]at a;cases a) e
  grind
inductive M4(t:Ad)(b:U V)(H:Hp)(Q:VK)(E:XK):Prop
 |i(c a:a_)(q:Tr Sm)(g:U OI)(_:b=[.ref c,.ref a])(_:d7 t.cColumn H c g)(_:o5 g=bm)(_:bD (LQ GI) H a q)(_:nf t H)(_:dm t q=bd->∀l A,RT t H A->A l=O (.lst (((de (q.holds tt) 0 g).map λp=>(p.1:cs)).map V.int))->H l=bd->Q (.ref l) A)(_:∀Ak,dm t q=O Ak->∀A,RT t H A->E (.ref Ak) bd A)
theorem yD:(["row","value"]:U c3).Nodup:=?k
def vd[T:Gd]:=cM T.D85 17 (M4 gt) λF=>by
 let(d,j,b,e,f):=Uu;refine F.oX ["self","question"] λu j Aq d s H v Q E m h=>?_;let(c,a,q,g,Y,(N,j),ok,u,n,d,v):=h;have w:=iK ok;refine(_,(aj (ay (bf (Ae:=["row","value"]) (fr:=[bd,bd]) (ba (aX ?A T.c9 e b (m.mono ?a) f .nil bF (e0 ?B))) (λAk As s H=>(dA gK (n:=2) Y (bv (aF 0 yD) (bv (aF 1 yD) dB)),bh,?A))))),?_);refine(c,N,1,j,Y,c,a,q,g,Y,(N,j),ok,u,n,λz l X Ai e s b=>?_,v);have f:=md (q.holds tt) 0 g;have d:=d z;generalize de (q.holds tt) 0 g=B at b d f;have f:=b.len;refine(l,Y,(_,eb.of s),lR (ys:=X) (G:=V.ref) ((B.map λp=>(p.1)).map V.int) (by simp[f]) (eb.of s) ?o (λi a z j hz A w Z m y=>?_) λp A m u v=>d p _ (e.trans (.of m)) u (e.free (e.2 n) v));let(p,d,j):=b.get j;rw[a',a',d]at hz;cases hz;exact(a,1,fx.of (m _ _ j),Y,_,1,_,1,Y,(Wk.set Y).trans (Wk.set Y),tT (y _ (.refl _)))
def GS(v:V):Prop:=∃z,v = .str z
theorem XQ:Cm GS:=by rintro _ _ ⟨a,e⟩ ⟨b,f⟩;exact .inr (a,b,e,f)
noncomputable def Tr.map{α Ax:Type}(f:α->Ax):Tr α->Tr Ax
 |.lf x=>.lf (f x)
 |.neg q=>.neg (q.map f)
 |.two e q r=>.two e (q.map f) (r.map f)
 |.bad w a=>.bad w a
theorem ox{α Ax:Type}{f:α->Ax}{c:Ax->b5 a_}{z:a_}:∀(q:Tr α)(d:b8),n8 c z d (q.map f)=n8 (λx=>c (f x)) z d q
 |.lf x,d=>rfl
 |.neg q,d=>by simp only[Tr.map,n8,n8,ox q]
 |.two e q r,d=>by simp only[Tr.map,n8,n8,ox q,ox r]
 |.bad w a,d=>rfl
theorem oU{α Ax γ δ:Type}{f:α->Ax}{a:Ax->γ->eg}{c:α->δ->eg}{b:γ}{d:δ}(h:∀x,a (f x) b=c x d):∀q:Tr α,(q.map f).holds a b=q.holds c d
 |.lf x=>h x
 |.neg q=>by simp only[Tr.map,Tr.holds,Tr.holds,oU h q]
 |.two e q r=>by simp only[Tr.map,Tr.holds,Tr.holds,oU h q,oU h r]
 |.bad w a=>rfl
noncomputable def Sm.num(I:U c3):Sm->Sm
 |.zero b=>.zero b
 |.bad w a=>.bad w a
 |s=>.among (((bu I).filter λa=>s.holds (kV a.1)).map (·.2))
theorem mF:∀(n:b8)(I:U c3)(i:b8),(eJ n I)[i]?=I[i]?.map λz=>(zzq (.inr z) (.int ((n+i:b8):cs)))
 |n,[],i=>rfl
 |n,z::r,0=>rfl
 |n,z::r,i+1=>by
  show (eJ (n+1) r)[i]?=_;rw[mF (n+1) r i,l5];rfl
theorem Sb{i:cs}(a:0<=i)(a:i<?lI):sH (.int i) (((bu I).filter λb=>f (kV b.1)).map (·.2))=f (.str (I.getD ?ii "")):=by
 have e:(bu I)[?ii]?=O (zzq (.inr (I.getD ?ii "")) (.int i)):=by
  rw[bu,mF,bb,ag ?x];simp;lia
 rw[g0,sH,hZ];constructor
 ·rintro⟨x,c,d⟩;let(b,a,Y):=cv.mp c;let(a,c):=en.mp a;let(j,b):=ez a;have a:=b;simp only[bu,mF]at a;let(z,hz,Y):=d3.mp a;have:((0+j):cs)=i:=eq_of_beq d;rw[show j=?ii by lia,e]at b;rw[sF (eG v7 (c_ b):(l0 _)=l0 z)];exact c
 ·intro h;exact(.int i,cv.mpr (_,en.mpr (a0 e,h),Y),beq_self_eq_true i)
theorem SS{o:OI}(h:∀i,o=O i->0<=i/\i<?lI)(s:Sm):tt (s.num I) o=s.holds (dC I o):=by
 cases o with
 |none=>cases s <;> rfl
 |some i=>
  let(a,c):=h i Y;cases s with
  |zero b=>cases b <;> rfl
  |bad w s=>rfl
  |_=>exact Sb a c
theorem ε{v:V}(h:v∈((bu I).filter λa=>f (kV a.1)).map (·.2)):GI v:=by
 let(a,b,Y):=cv.mp h;let(j,a):=ez (en.mp b).1;simp only[bu,mF]at a;let(z,_,Y):=d3.mp a;exact⟨_,Y⟩
theorem yZ(f:V->eg)(i:b8):((((bu I).take i).filter λa=>f (kV a.1)).map (·.2)).length<=i:=by
 rw[ai];exact ce (eu _ _) (hY _ _)
inductive Z'(t:Ad)(m:b8)(f:U V)(H:Hp)(Q:VK)(_E:XK):Prop
 |i(a b c d:a_)(I:U c3)(C:U OI)(q:Tr Sm)(e:b8)(_:f=[.ref a,.ref b])(_:fj t H a c d I C)(_:?lI<=1000)(_:bD (LQ GS) H b q)(_:n8 (cQ t.eBadQuestion) t.eBadQuestion e q=bd)(_:6<=e+m)(_:∀f A,aa H A->bD (LQ GI) A f (q.map (Sm.num I))->Q (.ref f) A)
def Zt(t:Ad):b8->Sp
 |0=>λ_ _ _ _=>fP
 |m+1=>Z' t m
theorem Tc:(["part","self"]:U c3).Nodup:=?k
theorem yH:(["word","number","question"]:U c3).Nodup:=?k
def Se[T:Gd]:=rM T.D86 1 6 (Zt gt) λm P F=>by
 let(f,M,D,X,J):=P;refine F.o ["self","question"] λG P Aq f s H R Q E M h=>?_;let(a,b,c,d,I,C,q,e,Y,W,AF,A4,G,P,k):=h;let(x,g,u,P,A6):=A4.form (cQ gt.eBadQuestion) gt.eBadQuestion;have AG:=hU G;refine(_,(ak (aI (bY (qr.pe M ap (e0 ?B) ?o)) (aj (ay (fw (wH gK) ?r T.pC qp (e0 (aq jc (bO (e0 (l3 gK ?B ah))) (bf (Ae:=["part","self"]) (fr:=[bd,O 0]) (jP (gN (k8 gK) ?B (eP ah) jd)) (λAk As s H=>(aF 0 Tc,bh,(aX ?B T.db X D (M.mono ?o) J .nil ap (e0 ?A))))))))))
   aK)
  (ak (aI (iN (iL gK) (l3 gK ?B ah) (bP (fH au au)) ?r) (aj (ay ?B))
   aK)
  (aj (ay (bP (fH au (Q' (bf (Ae:=["word","number","question"]) (fr:=[bd,bd,O 1]) (Z0 (Sz (bp gK ?A Y))) (λAk As s H=>(dA gK (n:=2) Y (bv (aF 0 yH) (bv (aF 1 yH) dB)),(gQ (bY ((CA GS XQ).pe M ap (fH ?C ?A) ?o))),?B)))))))))),?_)
 refine(b,_,1,u,1,?_);rcases A6 with⟨s,rfl,hs,P⟩ |⟨n,A7,A6⟩
 ·rw[P];have AD:∀w R,s≠.bad w R:=λw R z=>by subst z;exact cx ((du ?o).symm.trans G) nofun
  refine ao (b,_,_,1,Y,fx.of u,cO ?a Y,by show 2<=bT;decide,λK M=>(K,1,.inr (fx.of ae),Y,Y,?_));have P:(∃z,s = .zero z)\/(sH (.str x) [.str "all", .str "none"]=b1/\s.num I = .among (((bu I).filter λf=>s.holds (kV f.1)).map (·.2))):=by
   cases s with
   |zero z=>exact .inl (z,Y)
   |bad w R=>exact cx Y (AD w R)
   |one n v=>
    obtain rfl:=gh u hs.1;exact .inr (match n with |0=>rfl |1=>rfl |_+2=>rfl,Y)
   |among R=>
    let(l,e,_):=hs.1;obtain rfl:=gh u e;exact .inr (Y,Y)
  have L:aa H (upd H K (.tup [.str "all", .str "none"])):=aa.new M;generalize upd H K (.tup [.str "all", .str "none"])=Ai at L;have D:=(LQ GS).kt (cX L) hs;rcases P with⟨z,rfl⟩ |⟨P,AH⟩
  ·obtain rfl:=gh u hs.1;cases z <;> exact(1,aA (k b _ L (D.1,nofun)))
  rw[P];let((N,X),_,S):=W.same L;refine(1,ao (d,bu I,S,λo=>(a,_,N,_,1,by rw[af (bL X S nofun)];exact X,T.db,T.lN,Y,d,bu I,Y,.inr (o,ae),λp P=>(p,d,o,bu I,Y,ae,?_,?_))))
  ·rw[af (aC ae P)];exact ae
  have A8:∀b Aw,b≠d->Ai b=O Aw->(upd (upd Ai d (.frz o (.dK (bu I)))) p (j5 p d)) b=O Aw:=λb Aw n e=>by
   have e:(upd Ai d (.frz o (.dK (bu I)))) b=O Aw:=by rw[af n];exact e
   rw[af (aC e P)];exact e
  have M:(upd (upd Ai d (.frz o (.dK (bu I)))) p (j5 p d)) d=O (.frz o (.dK (bu I))):=by rw[af (aC ae P)];exact ae
  generalize upd (upd Ai d (.frz o (.dK (bu I)))) p (j5 p d)=An at A8 M;have A9:=(LQ GS).kt (λb Aw e=>by
   by_cases z:b=d
   ·subst z;rw[S]at e;cases e;exact .inr (.inr (.inr ⟨_,Y⟩))
   ·exact .inl (A8 b Aw z e)) D
  have AA:(bu I).length=?lI:=tV 0 I;refine lQ (n:=(bu I).length) (λi P A=>aa An A/\P=(((bu I).take i).filter λf=>s.holds (kV f.1)).map (·.2)) (aa.refl _,Y) ?_ (dn (bJ ?o)) ?_ ?_
  ·rintro i P A AB ⟨D,rfl⟩;exact(yZ _ i,λh=>(D _ _ M,h),λh=>(D _ _ M,h))
  ·rintro i v P A _ AB ⟨D,rfl⟩ ⟨A5,kk,y,A3,rfl,AE,rfl⟩;have J:=aG (o:=.tup [kV kk,y]) D A3;have A3:=AE;rw[bu,mF]at A3;let(z,_,AC):=d3.mp A3;cases AC;refine(A5,1,fx.of ae,Y,_,1,_,1,Y,(Wk.set Y).trans (Wk.set Y),b,s,.str z,Y,(LQ GS).kt (cX J) A9,AD,.inr (z,Y),1,?_);have A3:(((bu I).take (i+1)).filter λf=>s.holds (kV f.1)).map (·.2)=(((bu I).take i).filter λf=>s.holds (kV f.1)).map (·.2)++if s.holds (.str z)=bm then [.int ((0+i:b8):cs)] else []:=by
    rw[ei,AE,h3,b3];show _++GR _ (EA _ [_])=_;rw[gk];show _++GR _ (if s.holds (.str z)=bm then _ else _)=_;cases s.holds (.str z) <;> rfl
   cases e:s.holds (.str z) with
   |false=>
    refine ao (cw AB (J,?_));rw[A3,e];simp
   |true=>
    refine aA (cw AB (J,?_));rw[A3,e];rfl
  ·rintro P A ⟨D,rfl⟩ l P;rw[dw];have J:=aG (o:=.lst (((bu I).filter λf=>s.holds (kV f.1)).map (·.2))) D P;have A3:(upd A l (.lst (((bu I).filter λf=>s.holds (kV f.1)).map (·.2)))) l=_:=ae;generalize upd A l (.lst (((bu I).filter λf=>s.holds (kV f.1)).map (·.2)))=H4 at J A3;have P:=J _ _ M;refine(P,by show 2<=bT;decide,λA9 M=>k A9 _ (aG (λb Aw e=>?_) M) ?_)
   ·have e:=L _ _ e;by_cases z:b=d
    ·subst z;rw[S]at e;cases e;exact ae
    ·rw[af z];exact J _ _ (A8 b Aw z e)
   ·show (LQ GI).at' _ _ (s.num I);rw[AH];have A8:l≠d:=bL A3 P nofun;have P:(upd H4 d (.dK (bu I))) l=O (.lst (((bu I).filter λf=>s.holds (kV f.1)).map (·.2))):=by rw[af A8];exact A3
    have:=yZ (I:=I) s.holds (bu I).length;rw[dw]at this;exact((l,ae,by rw[af (aC P M)];exact P,?o),λv=>ε)
 rw[A7];rcases A6 with⟨_,_,_,rfl⟩ |⟨_,bs,rfl,f,P,A6,M⟩
 ·cases G
 have A8:=G;have G:=n7.mp ((M e AG).symm.trans G);have f:?lbs=?lq.parts:=f;refine aA (b,_,_,1,Y,fx.of u,cO ?a Y,by show 1<=bT;decide,λM P=>?_);have A9:aa H (upd H M (.lst [.str x])):=aa.new P;have P:(upd H M (.lst [.str x])) M=O (.lst [.str x]):=ae;show LU _ _ _ _ _ (upd H M (.lst [.str x])) _;generalize upd H M (.lst [.str x])=AB at A9 P;refine((1),Y,b,1,fx.of (A9 _ _ u),lA _ _,λpt A3=>(pt,Y,(_,fx.of ae),?_));have AD:dE (V.str x::bs.map V.ref) (O 1) bd=bs.map V.ref:=ly _ _;rw[AD];have L:aa H (upd AB pt (.tup (bs.map V.ref))):=aG A9 A3;have P:=aa.new (o:=.tup (bs.map V.ref)) A3 _ _ P;have X:(upd AB pt (.tup (bs.map V.ref))) pt=O (.tup (bs.map V.ref)):=ae;generalize upd AB pt (.tup (bs.map V.ref))=Ai at L X P;refine wY (Ap:=q.parts) (λA=>aa Ai A) (λA p r=>bD (LQ GI) A p (r.map (Sm.num I))) f (aa.refl _) (λA An r s=>(r.trans s,λq y h=>h.kt (cX s))) (λA f=>fx.of (f _ _ X)) ?o (λi b y u s A X Z f A9=>?_) λAB B H3 D X AA AD=>?_
 ·have G:=G _ (a0 s);have:=hU G;obtain⟨A3,rfl⟩:∃A3,m=A3 + 1:=(m - 1,?o)
  have D:=L.trans f;have A3:=W.same D;let((N,AE),_):=id A3;exact(Wk.set Y,tT (a,N,1,AE,Y,a,b,c,d,I,C,y,e+1,Y,A3,AF,(A6 i b _ u s).kt (cX D),G,?o,λp H3 J S=>A9 p H3 (f.trans J) (λq z h=>h.kt (cX J)) S))
 refine(M,AB,_,1,Y,D _ _ P,X,dn (bJ (by simp;omega)),λJ f=>(J,1,.inl (eb.of ae,λG s=>k G _ (aG (aG (L.trans D) f) s) ?_)));have P:=λk p r M AC=>(AD k p r M AC).kt (cX (aG (o:=.tup (.str x::B.map V.ref)) (aa.new f) s));cases q with
 |lf y=>let(_,_,e,_,j):=(LQ GS).tup A4;cases u.symm.trans e;rw[j]at A7;cases A7
 |bad x R=>exact cx (A8.symm.trans Y) nofun
 |neg q=>
  let(K,Y):=BA.mp AA;let(_,e,_):=A4;obtain rfl:=gh u e;exact(K,ae,P 0 K q Y Y)
 |two e q r=>
  obtain⟨K,A5,rfl⟩:∃x y,B=[x,y]:=match B,AA with |[x,y],_=>(x,y,Y)
  let(_,_,M,_):=A4;obtain rfl:=gh u M;exact(K,A5,ae,P 0 K q Y Y,P 1 A5 r Y Y)
theorem me{α γ δ:Type}{a:α->γ->eg}{c:α->δ->eg}{b:γ}{d:δ}(h:∀x,a x b=c x d):∀q:Tr α,q.holds a b=q.holds c d
 |.lf x=>h x
 |.neg q=>by simp only[Tr.holds,Tr.holds,me h q]
 |.two e q r=>by simp only[Tr.holds,Tr.holds,me h q,me h r]
 |.bad w a=>rfl
noncomputable def fZ(f:V->eg):b8->U V->U cs
 |_,[]=>[]
 |n,x::r=>if f x=bm then (n:cs)::fZ f (n+1) r else fZ f (n+1) r
theorem sM{f:OI->eg}{Ao:OI->V}{h:V->eg}:∀{g:U OI}(n:b8),(∀o∈g,f o=h (Ao o))->(de f n g).map (λp=>(p.1:cs))=fZ h n (g.map Ao)
 |[],n,_=>rfl
 |x::r,n,e=>by
  have a:=sM (g:=r) (n+1) λo b=>e o (dz _ b);simp only[de,ey,fZ,e x (ea ..),<-a];cases h (Ao x) <;> rfl
theorem Ru(q:Tr Sm)(g:U OI):(de (q.holds tt) 0 g).map (λp=>(p.1:cs))=fZ (q.holds Sm.holds) 0 (g.map ov):=sM 0 λo _=>me (a:=tt) (c:=Sm.holds) (λs=>rfl) q
theorem R5(q:Tr Sm){C:U OI}(hR:inR I C):(de ((q.map (Sm.num I)).holds tt) 0 C).map (λp=>(p.1:cs))=fZ (q.holds Sm.holds) 0 (C.map (dC I)):=sM 0 λo a=>oU (c:=Sm.holds) (λs=>SS (λi e=>hR i (e ▸ a)) s) q
theorem zE{f:V->eg}:∀{g:U V}{n:b8}{i:cs},i∈fZ f n g->(n:cs)<=i
 |x::r,n,i,h=>by
  rw[fZ]at h;have a:=λh=>zE (f:=f) (g:=r) (n:=n+1) (i:=i) h;cases e:f x <;> rw[e]at h
  ·have:=a h;exact k7 ‹_›
  ·rcases bG.mp h with h |h
   ·simp_all
   ·have:=a h;exact k7 ‹_›
theorem VC{g:U V}(h:g[k]?=O x):((n+k:b8):cs)∈fZ f n g↔f x=bm:=by
 induction g generalizing n k with
 |nil=>cases h
 |cons y r a=>
  rw[fZ];cases k with
  |zero=>
   cases h;cases e:f x
   ·exact(λh=>cx (zE h) ?l,nofun)
   ·simp
  |succ k=>
   rw[<-a (n:=n+1) h,show n+1+k=n+(k+1) from l5 _ _ _];cases f y
   ·rfl
   ·exact(λh=>(bG.mp h).resolve_left ?l,.tail _)
def PM.isW:PM->eg
 |.num _=>b1
 |.wrd _ _=>bm
def GK(b:eg):V->Prop:=if b=bm then GW else GI
inductive ME(t:Ad)(b:eg)(d:U V)(H:Hp)(Q:VK)(E:XK):Prop
 |i(c a:a_)(As:U a_)(q:Tr Sm)(p:PM)(_:d=[.ref c,.ref a])(_:p.isW=b)(_:p.at t H c As)(_:p.ok)(_:bD (LQ (GK b)) H a q)(_:nf t H)(_:dm t q=bd->∀l A,RT t H A->A l=O (.lst ((fZ (q.holds Sm.holds) 0 p.cells).map V.int))->Q (.ref l) A)(_:∀Ak,dm t q=O Ak->∀A,RT t H A->E (.ref Ak) bd A)
theorem Sm.gs{q:Tr Sm}(h:bD (LQ GW) H a q):bD (LQ GS) H a q:=by
 induction q generalizing a with
 |lf s=>exact(h.1,λv d=>by let(z,e,_):=h.2 v d;exact(z,e))
 |neg q d=>let⟨b,e,h⟩:=h;exact(b,e,d h)
 |two e q r d f=>let⟨b,c,e,h,g⟩:=h;exact(b,c,e,d h,f g)
 |bad w d=>exact h
theorem XG{q:Tr Sm}:dm gt (q.map (Sm.num I))=dm gt q:=by
 simp only[dm,ox,show (λx=>cQ gt.eBadQuestion (Sm.num I x))=cQ gt.eBadQuestion from funext λs=>by cases s <;> rfl]
theorem Qn:∀{b H Q E},ME gt b1 b H Q E->M4 gt b H Q E:=λ⟨c,a,As,q,p,e,b,d,ok,f,j,m,n⟩=>by
 cases p with
 |wrd _ _=>cases b
 |num g=>exact(c,a,q,g,e,d.1,ok,f,j,λz l A r h _=>m z l A r (h.trans (eG (λl=>O (HO.lst (l.map V.int))) (Ru q g))),n)
def Zl[T:Gd]:=cM T.D87 18 (ME gt bm) λF=>by
 let(f,g,s,u,w):=Se;let(f,n,g,j,m):=vd;refine F.oX ["self","question"] λx v Aq f y H B Q E n h=>?_;let(a,b,As,q,p,Y,x,y,ok,v,f,A,B):=h;refine(_,(ak (aV (vp.pe n bF (e0 ?B)))
  (aj (ay (aX (bp gK ?A Y) T.c9 j g (n.mono ?a) m .nil bF (e0 (aX ?A T.db u s (n.mono ?a) w .nil ap (e0 ?B))))))),?_)
 cases p with
 |num _=>cases x
 |wrd I C=>
 let(c,d,W,_):=y;let(ok,hR,w):=ok;refine(b,q,Y,v,f,λz Ai g=>?_,B);have x:=g.2 f;let((N,j),(n,m),s):=W;have y:fj gt Ai a c d I C:=((N,g.keep f j nofun),(n,g.keep f m nofun),g.keep f s nofun)
 have u:bD (LQ GW) Ai b q:=bD.kt (L:=LQ GW) (g.kt f) v;have j:=g.keep f j nofun;have m:=g.keep f m nofun;refine(a,_,N,_,1,j,T.db,T.lM,Y,c,n,1,m,Y,a,N,1,j,Y,a,b,c,d,I,C,q,(1),Y,y,w,Sm.gs u,z,?a,λB An f v=>?_);refine(c,B,_,C,Y,(n,f _ _ m),ok,v,x.same f,λ_ l H3 j s _=>A z l H3 (g.trans ((RT.of f).trans j)) (s.trans (eG (λl=>O (HO.lst (l.map V.int))) (R5 q hR))),λAk e=>cx ((XG.trans z).symm.trans e) nofun)
inductive WT(t:Ad)(b:U V)(H:Hp)(Q:VK)(E:XK):Prop
 |i(c a:a_)(As:U a_)(q:Tr Sm)(p:PM)(_:b=[.ref c,.ref a])(_:p.at t H c As)(_:bD (LQ (GK p.isW)) H a q)(_:nf t H)(_:dm t q=bd->∀A,RT t H A->Q .non A)(_:∀Ak,dm t q=O Ak->∀A,RT t H A->E (.ref Ak) bd A)
def NR[T:Gd]:=cD T.D88 16 (WT gt) λF=>by
 refine F.oX ["part","question"] λf e Aq b s H g Q E d h=>?_;let(c,a,As,q,p,Y,b,e,f,g,j):=h;refine(_,(aj (aI (bY (aH (cJ gK) ?r T.cK z3 (fH ?A (dj T.oP)))) (aj (aV (vp.pe d bF (e0 ?B))))
   (aj (aV (vo.pe d bF (e0 ?B)))))),?_)
 cases p with
 |num _=>
  let((N,h),_):=b;exact(_,_,1,kE h T.c9 T.uY T.kh T.sN,1,ao (a,q,Y,e,f,g,j))
 |wrd _ _=>
  let(_,_,((N,h),_),_):=b;exact(_,_,1,kE h T.db T.u5 T.kh T.sO,1,aA (a,q,Y,e,f,g,j))
theorem Nl{x:c3}{v:V}(h:TL.lookup x=O v):∃n:b8,v = .int n:=by
 have:=fo h;simp only[TL,bG,dH,f8,F']at this;rcases this with⟨_,e⟩ |⟨_,e⟩
 ·exact((1),e)
 ·exact((3),e)
inductive Wh where
 |any |isin (z:c3) (q:Tr Sm) |bad (w:c3) (a:U V)
def qM(kd:c3->eg)(H:Hp)(a:a_):Wh->Prop
 |.any=>H a=O (.tup [.str "any"])
 |.isin z q=>∃b,H a=O (.tup [.str "in", .str z,.ref b])/\bD (LQ (GK (kd z))) H b q
 |.bad w c=>H a=O (.tup (.str w::c))/\?lc<=1000/\JL.lookup w=bd/\TL.lookup w≠O (.int (?lc+1:b8))
def LW(kd:c3->eg):Lf where
 α:=Wh
 at':=qM kd
 kt {H A a x} k h:=match x,h with
  |.any,e=>k.tup e
  |.isin _ _,⟨b,e,h⟩=>(b,k.tup e,h.kt k)
  |.bad _ _,⟨e,r⟩=>(k.tup e,r)
 tup {H a x} h:=match x,h with
  |.any,e=>(_,_,e,av Y,Y)
  |.isin _ _,⟨_,e,_⟩=>(_,_,e,av Y,Y)
  |.bad _ _,⟨e,l,j,_⟩=>(_,_,e,l,j)
noncomputable def aR(C:U c3)(B:U aU)(z:c3):b5 PM:=B[C.idxOf z]?.map (·.2.2)
noncomputable def cW(t:Ad)(pm:c3->b5 PM):Wh->b5 a_
 |.any=>bd
 |.isin z q=>if (pm z).isSome=bm then dm t q else O t.eNoColumn
 |.bad _ _=>O t.eBadQuestion
noncomputable def hW(pm:c3->b5 PM):Wh->b8->eg
 |.any,_=>bm
 |.isin z q,i=>q.holds Sm.holds (((pm z).elim [] PM.cells).getD i .non)
 |.bad _ _,_=>b1
structure Ey(t:Ad)(H:Hp)(tb:a_)(ns:U c3)(ps:U aU)(living:U cs)(kd:c3->eg):Prop where
 tab:∃pd ll o coming,bM t H tb pd ll o ns ps living coming
 nd:ns.Nodup
 ok:∀q∈ps,q.2.2.ok/\q.2.2.col.length=living.length
 l64:living.length<=64
 kd:∀(i:b8) z q,ns[i]?=O z->ps[i]?=O q->kd z=q.2.2.isW
def nM:HO->Prop
 |.ins _ _ _ |.dK _ |.lst _ |.frz _ (.dK _)=>sI
 |_=>fP
theorem Rt(a:q∈B)(c:b∈q.2.1):b∈FP Am ll B:=.tail _ (.tail _ (g7.mpr (_,cv.mpr (q,a,Y),c)))
theorem bM.via{o:hg}(h:bM t H Am pd ll o C B u P)(k:∀b o,b∈pd::FP Am ll B->nM o->H b=O o->A b=O o):bM t A Am pd ll o C B u P:=
 let⟨⟨N,j⟩,m,n,a,p⟩:=h
 ((N,k _ _ (.tail _ (.head _)) trivial j),k _ _ (.head _) trivial m,k _ _ (.tail _ (.tail _ (.head _))) trivial n,(λq g=>have k:=λb o (s)=>k b o (.tail _ (Rt g s));match q,a.1 q g,k with
  | (_,_,.num _),⟨⟨N,e⟩,f⟩,k=>((N,k _ _ (f ▸ .head _) trivial e),f)
  | (_,_,.wrd _ _),⟨c,d,⟨⟨N,v⟩,⟨w,x⟩,y⟩,f⟩,k=>(c,d,((N,k _ _ (f ▸ .head _) trivial v),(w,k _ _ (f ▸ .tail _ (.head _)) trivial x),k _ _ (f ▸ .tail _ (.tail _ (.head _))) trivial y),f),a.2),p)
theorem RT.plain(r:RT t H A)(a:nf t H)(b:a_)(o:HO)(p:nM o)(e:H b=O o):A b=O o:=r.keep a e λ_ z=>by rw[z]at p;exact p
theorem xj(a:H c=O (lS Av c))(b:a_)(o:HO)(p:nM o)(e:H b=O o):del H c b=O o:=by
 rw[cB λz=>by simp only[z,a]at e;cases e;exact p];exact e
theorem bM.rt{o:hg}(h:bM t H Am pd ll o C B u P)(a:nf t H)(r:RT t H A):bM t A Am pd ll o C B u P:=h.via λb o _=>r.plain a b o
theorem Ey.via{t:Ad}{H A:Hp}{Am:a_}{C:U c3}{B:U aU}{u:U cs}{kd:c3->eg}(h:Ey t H Am C B u kd)(k:∀b o,nM o->H b=O o->A b=O o):Ey t A Am C B u kd:=
 by let((_,_,_,_,a),b,c,d,e):=h;exact((_,_,_,_,a.via λb o _=>k b o),b,c,d,e)
theorem Ey.pm(h:Ey t H Am C B u kd)(z:c3):(z∉C/\aR C B z=bd)\/∃q∈B,aR C B z=O q.2.2/\kd z=q.2.2.isW/\z∈C/\∀(j:b8) a,C[j]?=O z->B[j]?=O a->a=q:=by
 let(_,_,_,_,b):=h.1;have b:=b.5;by_cases hz:z∈C
 ·have b:=e5 hz;have c:C[C.idxOf z]?=O z:=?x
  have b:=ag (show C.idxOf z<?lB by simp_all);refine .inr (_,a0 b,by simp only[aR,b];rfl,h.kd _ _ _ c b,hz,λj a d e=>?_);cases eY h.2 d c
  simp_all
 ·refine .inl (hz,?_);rw[aR,hb (by rw[EB hz];exact g3 (E8 ‹_›))];rfl
inductive Lk(t:Ad)(b:U V)(H:Hp)(Q:VK)(E:XK):Prop
 |i(Am a:a_)(C:U c3)(B:U aU)(u:U cs)(kd:c3->eg)(x:Wh)(_:b=[.ref Am,.ref a])(_:Ey t H Am C B u kd)(_:qM kd H a x)(_:nf t H)(_:cW t (aR C B) x=bd->∀A,RT t H A->Q .non A)(_:∀Ak,cW t (aR C B) x=O Ak->∀A,RT t H A->E (.ref Ak) bd A)
def VS[T:Gd]:=cM T.D89 17 (Lk gt) λF=>by
 let(f,I,w,A,D):=lG;refine F.oX ["self","simple"] λI d Aq f g H s Q E c h=>?_;let(Am,a,C,B,u,kd,x,Y,g,f,G,j,d):=h;refine(_,(ak (aI (PW.pt (fc (um (T.hT.pnin (l3 gK ?B ah))) (fB (aE eK (aH (bR gK) ?r T.be z4 (e0 ?B)) (T.hT.pix (l3 gK ?B ah)))))) (aj (cU cY T.jX Y ?r T.i5 (e0 au)))
   aK)
  (aj (aI (aE aW (l3 gK ?B ah) au) (aj (aV (NR.pe c bF (fH (aX ?A T.a8 A w (c.mono ?a) D .nil bF (e0 (l3 gK ?B ah))) (l3 gK ?B ah)))))
   aK))),?_)
 cases x with
 |any=>exact(a,_,_,1,Y,fx.of f,Y,2,ao (a,1,.inr (fx.of f),a,_,_,1,Y,fx.of f,Y,_,1,Y,Y,1,ao (a,_,_,1,Y,fx.of f,Y,Y,1,ao (j Y _ (RT.refl _ _)))))
 |isin z q=>
  let(b,c,w):=f;refine(a,_,_,1,Y,fx.of c,Y,2,ao (a,1,.inr (fx.of c),a,_,_,1,Y,fx.of c,Y,_,1,Y,Y,1,ao (a,_,_,1,Y,fx.of c,Y,Y,1,aA ?_)));let(pd,ll,o,P,TA):=g.1;let(N,I):=TA.1;refine(Am,N,1,I,Y,a,_,_,1,Y,fx.of c,Y,Am,pd,ll,o,C,B,u,P,z,Y,TA,g.2,λi p A D=>(a,_,_,1,Y,fx.of c,Y,?_),λhz=>?_)
  ·have I:=g.kd i z p A D;rw[I]at w;have I:(aR C B z).isSome=bm:=by
    rcases g.pm z with⟨n,_⟩ |⟨_,_,e,_⟩
    ·exact cx (a0 A) n
    ·rw[e];rfl
   have A:cW gt (aR C B) (.isin z q)=dm gt q:=d6 I;rw[A]at j d;exact(p.1,b,_,q,p.2.2,Y,TA.par.1 p (a0 D),w,G,j,d)
  ·rcases g.pm z with⟨_,e⟩ |⟨_,_,_,_,m,_⟩
   ·exact d _ (du (by rw[e];nofun)) _ (RT.refl _ _)
   ·exact cx m hz
 |bad x s=>
  let(c,_,_,A):=f;have d:=d _ Y _ (RT.refl _ _);refine(a,_,_,1,Y,fx.of c,cO ?a Y,x,Y,1,?_);cases f:TL.lookup x with
  |none=>exact aA (aA (?a,d))
  |some v=>
   let(n,Y):=Nl f;refine ao (a,1,.inr (fx.of c),a,_,_,1,Y,fx.of c,cO ?a Y,x,1,f,Y,1,?_);rw[show (!decide (V.int (((V.str x::s).length:b8):cs)=V.int (n)))=bm by
    rw[c4 λy=>A (by rw[f];exact eG O ?yy)];rfl]
   exact aA (?a,d)
inductive M3(t:Ad)(b:U V)(H:Hp)(Q:VK)(_E:XK):Prop
 |i(Am a:a_)(C:U c3)(B:U aU)(u:U cs)(kd:c3->eg)(x:Wh)(_:b=[.ref Am,.ref a])(_:Ey t H Am C B u kd)(_:qM kd H a x)(_:nf t H)(_:cW t (aR C B) x=bd)(_:∀p A,RT t H A->A p=O (.lst (((da ?lu).map (hW (aR C B) x)).map V.bl))->Q (.ref p) A)
theorem Vt:(["number"]:U c3).Nodup:=?k
theorem SQ:(["place","found"]:U c3).Nodup:=?k
def QA[T:Gd]:=cM T.D90 19 (M3 gt) λF=>by
 let(Z,AG,A9,AA,AB):=lG;let(Z,AG,K,L,M):=vd;let(Z,AG,R,S,X):=Zl;refine F.o ["self","simple","found"] λAH AG Aq Z AC H AI Q E G h=>?_;let(Am,a,C,B,u,kd,x,Y,s,AD,J,f,k):=h;let(pd,ll,o,P,TA):=s.1;let(N,j):=TA.1;have Z:=s.4;refine(_,(ak (aI (aE aW (l3 gK ?B ah) au) (aj (ay (bf (Ae:=["number"]) (fr:=[bd]) (ba (bp gK ?A Y)) (λAk As AC H=>(aF 0 Vt,bh,di)))))
   aK)
  (ak (aD 2 AH (PE.alt (aX (aX ?A T.a8 AA A9 (G.mono ?a) AB .nil bW (e0 (l3 gK ?B ah))) T.c9 L K (G.mono ?a) M .nil bW (e0 (l3 gK ?B ah))) (aX (aX ?A T.a8 AA A9 (G.mono ?a) AB .nil bW (e0 (l3 gK ?B ah))) T.db S R (G.mono ?a) X .nil bW (e0 (l3 gK ?B ah)))))
  (aj (ay (bf (Ae:=["place","found"]) (fr:=[bd,O 2]) (gO ?r T.eZ (e0 (aH (bR gK) ?r T.be z4 (e0 (bp gK ?A Y))))) (λAk As AC H=>(aF 0 SQ,bh,(mK (iL gK) ?A ?B ?r)))))))),?_)
 cases x with
 |bad w AI=>cases f
 |any=>
  refine(a,_,_,1,Y,fx.of AD,Y,Y,1,aA (Am,_,N,_,1,j,T.a8,T.fk,Y,ll,Y,(_,eb.of TA.3),eC (ys:=u) (G:=V.int) (λ_=>.bl bm) (eb.of TA.3) ?o (λi x _ A AJ v y=>(Wk.set Y,y _ (.refl _))) λp A v j _=>k p _ (.of v) ?_));rw[j,d_,show V.bl ∘ hW (aR C B) .any=MW b8 (.bl bm) from Y,List.map_const,dV,List.map_const']
 |isin z q=>
  let(b,D,A3):=AD;refine(a,_,_,1,Y,fx.of D,Y,Y,1,ao ?_);dsimp only[lx];refine aM λAK AL=>?_;rcases s.pm z with⟨_,e⟩ |⟨p,AE,e,AM,m,only⟩
  ·rw[cW,e]at f;cases f
  have f:dm gt q=bd:=by rw[cW,e]at f;exact f
  let(ok,Z):=s.ok p AE;have fin:∀l A,RT gt H A->A l=O (.lst ((fZ (q.holds Sm.holds) 0 p.2.2.cells).map V.int))->AK [O (.ref Am),O (.ref a),O (.ref l)] A:=λl Ai n AN=>AL _ _ <| by
   let(N,j):=(TA.rt J n).tab;have AF:(u.map V.int).length=?lu:=ai _;refine(Am,_,N,_,1,j,T.a8,T.fk,Y,ll,1,.inl (eb.of (TA.rt J n).liv),1,?o,by rw[ai];omega,R0 (λi=>.bl (hW (aR C B) (.isin z q) i)) (by rw[AF];omega) (λi AQ A AJ v y=>(Wk.set Y,l,1,.inl (eb.of (v _ _ AN)),Y,sQ _,?_)) λp A v h _=>k p _ (n.trans (.of v)) (by rw[h,AF,e4,d_];rfl));rw[du ef,xV,show decide _=hW (aR C B) (.isin z q) i by
    rw[hW,e,show (0+(i:cs))=((0+i:b8):cs) by omega,g0,tO,VC (Vs ?o)];exact MX]
   exact y _ (.refl _)
  have d:=TA.par.1 p AE;rw[AM]at A3;let(c,As,pm):=p;cases pm with
  |num g=>
   let((A4,A5),_):=id d;exact .inl (Am,N,1,j,Y,a,_,_,1,Y,fx.of D,Y,Am,pd,ll,o,C,B,u,P,z,Y,TA,s.2,λi A6 A7 A8=>only i A6 A7 A8 ▸ (c,A4,1,A5,Y,a,_,_,1,Y,fx.of D,Y,Qn (c,b,As,q,.num g,Y,Y,d,ok,A3,J,λ_ l Ai n h=>fin l Ai n h,λAk e=>cx (f.symm.trans e) nofun)),λhz=>cx m hz)
  |wrd I AO=>
   let(_,_,((A4,A5),_),_):=id d;exact .inr (Am,N,1,j,Y,a,_,_,1,Y,fx.of D,Y,Am,pd,ll,o,C,B,u,P,z,Y,TA,s.2,λi A6 A7 A8=>only i A6 A7 A8 ▸ (c,A4,1,A5,Y,a,_,_,1,Y,fx.of D,Y,(c,b,As,q,.wrd I AO,Y,Y,d,ok,A3,J,λ_ l Ai n h=>fin l Ai n h,λAk e=>cx (f.symm.trans e) nofun)),λhz=>cx m hz)
def eO(f:b8->eg)(n:b8):U b8:=(da n).filter f
theorem WR(f:b8->eg)(n:b8):eO f (n+1)=eO f n++if f n=bm then [n] else []:=by
 simp only[eO,hr,h3,gk];rfl
theorem zC(f:b8->eg)(n:b8):(eO f n).length<=n:=ce (eu _ _) (g3 dV)
inductive Om(t:Ad)(b:U V)(H:Hp)(Q:VK)(E:XK):Prop
 |i(Am a:a_)(C:U c3)(B:U aU)(u:U cs)(kd:c3->eg)(q:Tr Wh)(_:b=[.ref Am,.ref a])(_:Ey t H Am C B u kd)(_:bD (LW kd) H a q)(_:nf t H)
  (_:n8 (cW t (aR C B)) t.eBadQuestion 1 q=bd->∀l A,RT t H A->A l=O (.lst ((eO (q.holds (hW (aR C B))) ?lu).map λi=>.int (i:b8)))->Q (.ref l) A) (_:∀Ak,n8 (cW t (aR C B)) t.eBadQuestion 1 q=O Ak->∀A,RT t H A->E (.ref Ak) bd A)
theorem yG:(["place","mark"]:U c3).Nodup:=?k
def UH[T:Gd]:=Mp (c:=tu gP gw) T.D91 27 (Om gt) λF=>by
 let(g,K,b,G,L):=VS;let(g,K,R,X,Z):=QA;refine F.o ["self","where","marks"] λK Aq d M H g Q E D h=>?_;let(Am,a,C,B,u,kd,q,Y,m,AD,n,AE,AA):=h;have g:=(λkd pm=>CJ (LW kd) (cW gt pm) 18 ?a) kd (aR C B);have I:=(λkd pm=>CM (LW kd) (cW gt pm) (hW pm) 20 ?a) kd (aR C B);refine(_,(ak (aV (g.peZ (i:=0) (y := "self") D bF LV (fH ?B (kU Y Y F.2 T.B)) Y Y Y Y))
  (ak (aD 2 K (I.peZ (i:=0) (y := "self") D ap L' (fH ?B (kU Y Y F.2 T.B)) Y Y Y Y))
  (aj (ay (bf (Ae:=["place","mark"]) (fr:=[bd,bd]) (zx gK ?r T.yO (e0 ?C)) (λAk As M H=>(dA gK (n:=2) Y (bv (aF 0 yG) (bv (aF 1 yG) dB)),(gQ (bY ?B)),?A))))))),?_)
 refine aM λg K=>(n _ (gf gt 2),λAi l A3 I kt LH=>(1,λAv Aw w f A4=>?_))
 have A5:=kZ (gf gt 2) kO A3 kt;let(pm,AF,A6,s,A7):=LH;generalize g:?sM+1=c at w s K ⊢;have P:aa Ai (upd Ai c (lS Av c)):=aa.new w;have A8:(upd Ai c (lS Av c)) c=O (lS Av c):=ae;have A9:=A5.trans (.of P);have J:=A9.2 n;refine(a,l,q,Y,AD.kt (A9.kt n),J,?_,λz An g=>K _ _ ?_,λAk z An g=>AA Ak z _ (A5.trans (mZ g w f)))
 ·have K:=lY (Ab:=gP) (w:=gw) (K:=gK) (mg:=gm) (base:=gb) s "simple" 17 (λv z=>Lk gt [z,v]) ?S (@zZ gP gw) (λAq d M H v z Q E D h=>?T.B) (λAA I=>match AA,I with |[_],_=>rfl)
  case S=>exact(Y,Y,Y,?a,Y,?a,.inl (Y,λ_ _=>rfl))
  case T.B=>
   refine(_,aX ?B T.a8 G b (D.mono ?a) L .nil zn (e0 ?A),?_);let(Am,a,C,B,u,kd,x,e,m,_):=id h;cases e;let(_,_,_,_,(N,AB),_):=m.1;exact(Am,N,1,AB,Y,h)
  refine(_,_,_,.inr (_,_,_,_,P _ _ s),K.1,K.2,λH3 L x AG AH g AC AI AJ=>?_);have b:=g.keep J A8 nofun;exact(.ref L,.ref Am,Av,Aw,Y,(g.keep J (P _ _ s) nofun,rA (x0.same A7 P) J g),b,f,A4,Am,L,C,B,u,kd,x,Y,(m.via ((A9.trans g).plain n)).via (xj b),(LW kd).kt (i0 b) AC,(g.2 J).del b f,λz H4 G A8=>AI z _ (uu G b f A8),λAk z H4 G A8=>AJ Ak z _ (uu G b f A8))
 have G:=A5.trans (mZ g w f);have g:=G.2 n;refine aM λb A5=>(g _ (gf gt 3),λb A9 A3 I kt LH=>(1,λAv Aw w f A4=>?_))
 have A8:=G.trans (kZ (gf gt 3) kO A3 kt);let(pm,AF,A6,s,A7):=LH;have P:aa b (upd b c (lS Av c)):=aa.new w;have J:(upd b c (lS Av c)) c=O (lS Av c):=ae;have A3:=A8.trans (.of P);have G:=A3.2 n;have g:=m.4;refine(a,A9,(1),q,da ?lu,Y,AD.kt (A3.kt n),z,?a,by rw[dV];omega,G,?_,λr A6 g AF=>?_)
 ·have K:=lY (Ab:=gP) (w:=gw) (K:=gK) (mg:=gm) (base:=gb) s "simple" 19 (λv z=>M3 gt [z,v]) ?S uq (λAq d M H v z Q E D h=>?T.B) (λAA I=>match AA,I with |[_],_=>rfl)
  case S=>exact(Y,Y,Y,?a,Y,?a,.inl (Y,λ_ _=>rfl))
  case T.B=>
   refine(_,aX ?B T.a8 X R (D.mono ?a) Z .nil ap (e0 ?A),?_);let(Am,a,C,B,u,kd,x,e,m,b,I,d,D):=h;cases e;let(_,_,_,_,(N,AB),_):=m.1;exact(Am,N,1,AB,Y,Am,a,C,B,u,kd,x,Y,m,b,I,d,D)
  refine(_,_,_,.inr (_,_,_,_,P _ _ s),K.1,K.2,λA6 L x AG AH g AC I j=>?_);have b:=g.keep G J nofun;refine(.ref L,.ref Am,Av,Aw,Y,(g.keep G (P _ _ s) nofun,rA (x0.same A7 P) G g),b,f,A4,Am,L,C,B,u,kd,x,Y,(m.via ((A3.trans g).plain n)).via (xj b),(LW kd).kt (i0 b) AC,(g.2 G).del b f,I,λp K D d M=>j p _ (uu D b f M) ?_);rw[af λz=>by rw[z,M]at d;cases d];exact d
 have b:=g.keep G J nofun;have D:=A8.trans (mZ g w f);have d:(del A6 c) r=O (.lst (((da ?lu).map (q.holds (hW (aR C B)))).map V.bl)):=(i0 b).lst AF;refine A5 _ _ ?_;generalize del A6 c=K at D d;refine(r,1,eb.of d,lQ (n:=?lu) (λi b A=>aa K A/\b=(eO (q.holds (hW (aR C B))) i).map λi=>.int (i:b8)) (aa.refl _,Y) ?_ (dn (bJ ?o)) ?_ ?_)
 ·rintro i b I g ⟨c,rfl⟩;refine(by rw[ai];exact zC _ i,λg=>(_,_,eb.of (c _ _ d),by rw[a',a',ru g];rfl),λg=>(_,eb.of (c _ _ d),by rw[ai,ai,dV];exact g))
 ·rintro i x b I J g ⟨c,rfl⟩ ⟨K,G,rfl,M⟩;let(y,L,Y):=M _ (eb.of (c _ _ d));rw[a',a',ru g]at L;cases L;refine(K,1,fx.of ae,Y,_,1,_,1,Y,(Wk.set Y).trans (Wk.set Y),1,?_);have d:=aG (o:=.tup [.int i,.bl (q.holds (hW (aR C B)) i)]) c G;have G:=WR (q.holds (hW (aR C B))) i;generalize upd I K (.tup [.int i,.bl (q.holds (hW (aR C B)) i)])=J at d ⊢;cases e:q.holds (hW (aR C B)) i with
  |false=>
   rw[e]at G;exact ao (cw g (d,by rw[G];simp))
  |true=>
   rw[e]at G;exact aA (cw g (d,by rw[G,b3];rfl))
 ·rintro b I ⟨c,rfl⟩ p g;exact AE z p _ (D.trans (.of (aG c g))) ae
@[elab_as_elim] theorem Q2{p:b8->Prop}(j:b8)(h:j+2<6)(a:p 0)(b:p 1)(c:p 2)(d:p 3):p j:=
 match j,h with
 |0,_=>a
 |1,_=>b
 |2,_=>c
 |3,_=>d
@[elab_as_elim] theorem six{p:b8->Prop}(j:b8)(h:j<6)(a:p 0)(b:p 1)(c:p 2)(d:p 3)(e:p 4)(f:p 5):p j:=
 match j,h with
 |0,_=>a
 |1,_=>b
 |2,_=>c
 |3,_=>d
 |4,_=>e
 |5,_=>f
def gu(c:α->b5 a_)(z:a_)(d:b8)(q:Tr α):Prop:=∀e,e+d<=7->n8 c z e q=bd
theorem kr{c:α->b5 a_}{x:α}(hd:1<=d)(h:c x=bd):gu c z d (.lf x):=λe a=>by rw[n8,du ?l,h]
theorem xw{c:α->b5 a_}{q:Tr α}(hd:1<=d)(h:gu c z d q):gu c z (d+1) (.neg q):=λe a=>by rw[n8,du ?l,h _ ?l]
theorem xx{c:α->b5 a_}{b:eg}{q r:Tr α}(hd:1<=d)(h:gu c z d q)(a:gu c z d r):gu c z (d+1) (.two b q r):=λe f=>by rw[n8,du ?l,h _ ?l,a _ ?l];rfl
theorem QI{c:α->b5 a_}{a:b8}{q:Tr α}(h:gu c z d q)(l:d<=a):gu c z a q:=λe a=>h e ?l
noncomputable def JG(j:b8):c3:=["all","none","is","below","above","among"].getD j ""
noncomputable def dS(b:eg):U V:=if b=bm then [.str "a", .str "b", .str "ab", .str "c", .str "zz"] else [.int 0,.int 1,.int 2,.int (-5),.int 9]
theorem KO:∀b,∀v∈dS b,GK b v:=by
 intro b v a;cases b with
 |false=>
  simp only[dS,EY,J5,bG,dH,f8]at a;rcases a with rfl |rfl |rfl |rfl |rfl <;> exact⟨_,Y⟩
 |true=>
  simp only[dS,if_true,bG,dH,f8]at a;rcases a with rfl |rfl |rfl |rfl |rfl <;> exact(1,y7 ?k,?k)
theorem kA{o:HO}{P:Hp->Prop}(s:aa H A)(a:A p=bd)(k:∀An,aa H An->An p=O o->P An):P (upd A p o):=k _ (aG s a) ae
inductive RS(K:bI)(t:Ad)(m:b8)(b:U V)(H:Hp)(Q:VK)(_E:XK):Prop
 |i(s:a_)(C:U cs)(k:cs)(z:c3)(d:b8)(_:b=[.ref s,.int k,.str z,.int d])(_:eb K H s (C.map V.int))(_:1<=d)(_:d<=m+1)(_:z = "number" \/ z = "word")(_:∀a q A,aa H A->bD (LQ (GK (decide (z = "word")))) A a q->gu (cQ t.eBadQuestion) t.eBadQuestion d q->Q (.ref a) A)
def P_(K:bI)(t:Ad):b8->Sp
 |0=>λ_ _ _ _=>fP
 |m+1=>RS K t m
def OK[T:Gd]:=rD T.D102 3 3 (P_ gK gt) λm y F=>by
 refine F.o ["_law_script","_law_k","_law_kind","_law_deep","_law_number","_law_one","_law_word","_law_some","_law_value"] λc D Aq A s H Z Q E f h=>?_;let(sc,C,k,z,d,Y,K,s,A,hz,q):=h;refine gz (_,(bi (aD 4 c (fF.pe f ap (fH ?A ?B) ?o))
  (bi (aI (PW.pt (je (aE fv ?E ah) (jQ (aE aW (aq bV ?G ah) ah)))) (aj (ay (bP (fH au (y.pe f ap (aJ ?A (aJ (aq aT ?B ah) (fH ?C (aq cE ?E ah)))) ?o)))))
   aK)
  (bi (aI (PW.pt (je (aE fv ?E ah) (jQ (aE aW (aq bV ?G ah) ah)))) (ak (aD 5 c (y.pe f ap (aJ ?A (aJ (aq aT ?B ah) (fH ?C (aq cE ?E ah)))) ?o))
  (aj (ay (bP (aJ (nC gK (bO (fH au au)) (aq bV (aq gJ ?G ah) ah)) (fH ?H (y.pe f ap (aJ ?A (aJ (aq aT ?B ah) (fH ?C ah))) ?o)))))))
   aK)
  (mU 6 c (mM (kH gK) (im (aS au (aS au (aS au (aS au (aS au (aS au gM))))))) (aq bV (aq gJ ?G ah) ah) (λ_ _=>rfl)) (bi (aI (iN (iL gK) ?I (bP (fH au au)) ?r) (aj (ay (bP (e0 ?I))))
   aK)
  (mU 7 c (mM (kH gK) (im (zo (im (aS au (aS au (aS au (aS au (aS au gM)))))) (zo (im (aS ah (aS ah (aS ah (aS (fz fE ah) (aS ah gM)))))) gM))) (fw Sd ?r T.mD z2 (e0 (eN aW ?C au))) (λ_ _=>rfl)) (bi (aD 8 c (nC gK ?J (aq bV (aq gJ ?G ah) ah)))
  (pR (ay (cT (aE aW ?I au) (bP (fH ?I (bO (fH ?K (nC gK ?J (aq bV (aq gJ ?G ah) ah)))))) (bP (fH ?I ?K)))))))))))),?_)
 refine aM λf c=>(sc,C,k,Y,K,c _ _ ?_)
 clear c f;generalize mix C k=n;refine aM λy c=>?_;have u:=c [O (.ref sc),O (.int k),O (.str z),O (.int d),O (.int n),bd,bd,bd,bd] H <| by
  refine aM λA f=>?_;have X:=f [O (.ref sc),O (.int k),O (.str z),O (.int d),O (.int n),bd,bd,bd,bd] H <| by
   refine aM λN g=>(av Y,λl L=>?_)
   have M:∀{a b:cs},0<b->b<1073741824->u6 a b:=λP u=>(P,u)
   obtain⟨j,R,D⟩:∃j:b8,j<6/\n / 8 % 6=j:=by
    have P:=fi (n / 8) (b:=6) ?a;have u:=fl (n / 8) (b:=6) ?a;exact((n / 8 % 6).toNat,?o,?o)
   refine(_,1,Y,M ?a ?a,_,1,Y,?a,l,_,_,.str (JG j),Y,Y,eb.of ae,?_,g _ _ ?_)
   ·rw[D];exact cf (six j R Y Y Y Y Y Y)
   clear g N f A c y;refine kA (aa.refl _) L λAi G _=>?_;refine aM λA c=>(av Y,λf y=>(f,1,.inr (fx.of ae),Y,Y,1,?_))
   have w:aa H (upd Ai f (.tup [.str "all", .str "none"])):=aG G y;generalize upd Ai f (.tup [.str "all", .str "none"])=An at w;have f:=λu:2<=j=>c [O (.ref sc),O (.int k),O (.str z),O (.int d),O (.int n),bd,O (.str (JG j)),bd,bd] An <| by
    refine aM λN g=>(av Y,λc S=>((5),Y,av Y,λlb I=>(av Y,λy A=>(Y,.inr (1,?_)))))
    obtain⟨J,D,Z,B,f,A3⟩:∃J D,upd (upd (upd An c (.lst (dS bm))) lb (.lst (dS b1))) y (.lst [.ref c,.ref lb])=D/\aa H D/\D J=O (.lst (dS (decide (z = "word"))))/\(N [O (.ref sc),O (.int k),O (.str z),O (.int d),O (.int n),bd,O (.str (JG j)),O (.ref J),bd] D->mY gK (.ref y) (.int (if decide (V.str z=V.str "number")=bm then 1 else 0)) D λx Ai=>eF 7 x [O (.ref sc),O (.int k),O (.str z),O (.int d),O (.int n),bd,O (.str (JG j)),bd,bd] Ai N):=by
     have D:(upd (upd (upd An c (.lst (dS bm))) lb (.lst (dS b1))) y (.lst [.ref c,.ref lb])) c=O (.lst (dS bm)):=aG (aa.new I) A _ _ ae;have A4:(upd (upd (upd An c (.lst (dS bm))) lb (.lst (dS b1))) y (.lst [.ref c,.ref lb])) lb=O (.lst (dS b1)):=aa.new A _ _ ae;have B:=aG (o:=.lst [.ref c,.ref lb]) (aG (aG w S) I) A;rcases hz with rfl |rfl
     ·exact(lb,1,B,A4,λh=>(y,_,_,1,Y,eb.of ae,Y,h))
     ·exact(c,1,B,D,λh=>(y,_,_,1,Y,eb.of ae,Y,h))
    show mY gK _ _ (upd (upd (upd An c (.lst (dS bm))) lb (.lst (dS b1))) y _) _;rw[Z];refine A3 (g _ _ ?_);clear A3 g N Z;obtain⟨i,rfl⟩:∃i,j=i+2:=(j - 2,?o)
    have c:∀x:cs,∃v,s8 (dS (decide (z = "word"))) (x % 5)=O v/\v∈dS (decide (z = "word")):=λx=>ue (fi _ ?a) (by
     rw[show (dS (decide (z = "word"))).length=5 by cases decide (z = "word") <;> rfl];exact fl _ ?a)
    let(v,A,D):=c (n / 64);let(Z,I,y):=c (n / 512);have D:=KO _ _ D;have y:=KO _ _ y;refine aM λN g=>(_,1,Y,M ?a ?a,_,1,Y,?a,J,_,_,v,Y,Y,eb.of f,A,g _ _ ?_)
    clear g N;have one:∀i,gu (cQ gt.eBadQuestion) gt.eBadQuestion d (.lf (.one i v)):=λi=>kr s Y;have all:∀i,∀x∈(Sm.one i v).things,GK (decide (z = "word")) x:=λi x A=>by rw[d4.mp A];exact D
    refine Q2 i R ?_ ?_ ?_ ?_
    ·exact(Y,1,ao (av Y,λp c=>q p (.lf (.one 0 v)) _ (aG B c) (ae,all 0) (one 0)))
    ·exact(Y,1,ao (av Y,λp c=>q p (.lf (.one 1 v)) _ (aG B c) (ae,all 1) (one 1)))
    ·exact(Y,1,ao (av Y,λp c=>q p (.lf (.one 2 v)) _ (aG B c) (ae,all 2) (one 2)))
    ·refine(Y,1,aA (_,1,Y,M ?a ?a,_,1,Y,(by show (0:cs)<5;decide),J,_,_,Z,Y,Y,eb.of f,I,av Y,λA3 S=>(av Y,λp c=>q p (.lf (.among [v,Z])) _ (aG (aG B S) c) ((A3,ae,aa.new c _ _ ae,av Y),λx A=>?_) (kr s Y))));rcases bG.mp A with rfl |A
     ·exact D
     ·rw[d4.mp A];exact y
   revert f;exact six j R (λ_=>aA (av Y,λp c=>q p (.lf (.zero bm)) _ (aG w c) (ae,nofun) (kr s Y))) (λ_=>aA (av Y,λp c=>q p (.lf (.zero b1)) _ (aG w c) (ae,nofun) (kr s Y))) (λf=>ao (f ?a)) (λf=>ao (f ?a)) (λf=>ao (f ?a)) (λf=>ao (f ?a))
  refine(_,1,Y,1,?_);by_cases hd:1<d
  ·refine dT (by omega:(1:cs)<d) (_,1,Y,?a,Y,1,?_);rw[hO];by_cases y:n % 4=1
   ·rw[dg y];obtain⟨d,rfl⟩:∃A,d=A + 1:=(d - 1,?o)
    obtain⟨m,rfl⟩:∃D,m=D + 1:=(m - 1,?o)
    refine aA (aM λN g=>(_,1,Y,_,1,Y,sc,C,k+1,z,d,?_,K,?o,?o,hz,λI S Ai G f s=>g _ _ ?_))
    ·show [V.ref sc,V.int (k+1),V.str z,V.int (((d+1:b8):cs) - 1)]=_;rw[show (((d+1:b8):cs) - 1)=(d:cs) by omega]
    clear g N;obtain⟨e,Z⟩:∃e:eg,s8 [V.str "both",V.str "either"] (n / 4 % 2)=O (.str (jw e)):=by
     have P:=fi (n / 4) (b:=2) ?a;have u:=fl (n / 4) (b:=2) ?a;rcases (by omega:n / 4 % 2=0\/n / 4 % 2=1) with h |h <;> rw[h]
     ·exact(b1,Y)
     ·exact(bm,Y)
    refine(av Y,λl L=>(_,1,Y,(?a,?a),_,1,Y,?a,l,_,_,1,Y,eb.of ae,Z,_,1,Y,?_));have w:=aG (o:=.lst [.str "both", .str "either"]) G L;have f:=f.kt (cX (aa.new (o:=.lst [.str "both", .str "either"]) L));exact(sc,C,k+2,z,(1),Y,w.seq K,?o,?o,hz,λB J H3 Z g L=>(av Y,λp c=>q p (.two e S J) _ (aG (w.trans Z) c) (I,B,ae,f.kt (cX (aG Z c)),g.kt (cX (aa.new c))) (xx ?o s (QI L ?o))))
   ·exact dF y X
  ·exact dF (by omega:¬ (1:cs)<d) X
 refine(_,1,Y,1,?_);by_cases hd:1<d
 ·refine dT (by omega:(1:cs)<d) (_,1,Y,(by show (0:cs)<4;decide),Y,1,?_);rw[hO];by_cases y:n % 4=0
  ·rw[dg y];obtain⟨d,rfl⟩:∃A,d=A + 1:=(d - 1,?o)
   obtain⟨m,rfl⟩:∃D,m=D + 1:=(m - 1,?o)
   refine aA (_,1,Y,_,1,Y,sc,C,k+1,z,d,?_,K,?o,?o,hz,λI S Ai G f s=>(av Y,λp c=>q p (.neg S) _ (aG G c) (I,ae,f.kt (cX (aa.new c))) (xw ?o s)));show [V.ref sc,V.int (k+1),V.str z,V.int (((d+1:b8):cs) - 1)]=_;rw[show (((d+1:b8):cs) - 1)=(d:cs) by omega]
  ·exact dF y u
 ·exact dF (by omega:¬ (1:cs)<d) u
noncomputable def C1(hs:U p')(z:c3):eg:=decide (((zzq z ("word")):p')∈hs)
theorem yT{α Ax:Type}{f:α->Ax}:∀{l:U α}{x y:α},(l.map f).Nodup->x∈l->y∈l->f x=f y->x=y
 |a::r,x,y,h,b,c,e=>by
  rw[ey,hD]at h;rcases bG.mp b with d |b <;> rcases bG.mp c with g |c
  ·simp_all
  ·exact cx (d ▸ e ▸ g_ c) h.1
  ·exact cx (g ▸ e ▸ g_ b) h.1
  ·exact yT h.2 b c e
theorem sT(L:(hs.map (·.1)).Nodup)(m:h∈hs):C1 hs h.1=decide (h.2 = "word"):=by
 rw[C1,g0,tO,tO];exact(λz=>(eG Kl (yT L z m Y)).symm,λe=>by exact e ▸ m)
def WG(t:Ad)(hs:U p')(H:Hp)(a:a_)(d:b8)(q:Tr Wh):Prop:=bD (LW (C1 hs)) H a q/\∀pm,(∀h∈hs,(pm h.1).isSome=bm)->gu (cW t pm) t.eBadQuestion d q
inductive PK(K:bI)(t:Ad)(m:b8)(c:U V)(H:Hp)(Q:VK)(_E:XK):Prop
 |i(s b:a_)(C:U cs)(k:cs)(d:b8)(X:U a_)(hs:U p')(_:c=[.ref s,.int k,.ref b,.int d])(_:eb K H s (C.map V.int))(_:H b=O (.lst (X.map V.ref)))(_:fg H X hs)(_:LH hs)(_:1<=d)(_:d<=m+1)(_:∀a q A,aa H A->WG t hs A a d q->Q (.ref a) A)
def Z4(K:bI)(t:Ad):b8->Sp
 |0=>λ_ _ _ _=>fP
 |m+1=>PK K t m
theorem WG.same{q:Tr Wh}(h:WG gt hs H a d q)(s:aa H A):WG gt hs A a d q:=(bD.kt (cX s) h.1,h.2)
theorem WW:(["_law_j","_law_script","_law_columns_here","_law_deep","_law_k"]:U c3).Nodup:=?k
def RN[T:Gd]:=rD T.D103 6 4 (Z4 gK gt) λm g F=>by
 refine F.o ["_law_script","_law_k","_law_columns_here","_law_deep","_law_number","_law_parts","_law_name","_law_kind"] λc M Aq s P H j Q E f h=>?_;let(sc,u,C,k,d,X,hs,Y,J,v,B,L,s,M,q):=h;refine gz (_,(bi (aD 4 c (fF.pe f ap (fH ?A ?B) ?o))
  (bi (aI (PW.pt (je (aE fv ?E ah) (jQ (aE aW (aq bV ?G ah) ah)))) (aj (ay (bP (fH au (g.pe f ap (aJ ?A (aJ (aq aT (aq dY ah ?B) ah) (fH ?C (aq cE ?E ah)))) ?o)))))
   aK)
  (zO (PW.pt (je (aE fv ?E ah) (jQ (aE aW (aq bV ?G ah) ah)))) (bi (gR 5 c (Ae:=["_law_j","_law_script","_law_columns_here","_law_deep","_law_k"]) (fr:=[bd,O 0,O 2,O 3,O 1]) (gO ?r T.eZ (e0 ah)) (λAk As P H=>(aF 0 WW,bh,(g.pe f ap (aJ ?B (aJ (aq aT (aq aT (aq dY ah ?G) ah) ?A) (fH ?C (aq cE ?E ah)))) ?o))))
  (iM (mP (ζ gK) (Zb (aS (nC gK (bO (fH au au)) (aq bV (aq gJ ?G ah) ah)) gM)) (Ji (fw (wH gK) ?r T.pC qp (e0 ?H))))))
  (bi (aI (aE aW (aq bV (aq gJ ?G ah) ah) ah) (aj (ay (bP (e0 au))))
   aK)
  (bi (pP (nC gK ?C (aq bV (aq gJ ?G ah) (aH (bR gK) ?r T.be z4 (e0 ?C)))) (dA gK (n:=2) Y (bv (aF 6 c) (bv (aF 7 c) dB))))
  (pR (ay (bP (aJ au (fH ?I (OK.pe f ap (aJ ?A (aJ (aq aT ?B ah) (fH ?J ah))) ?o))))))))))),?_)
 refine aM λM f=>(sc,C,k,Y,J,f _ _ ?_)
 clear f M;generalize mix C k=n;refine aM λP c=>?_;have K:=c [O (.ref sc),O (.int k),O (.ref u),O (.int d),O (.int n),bd,bd,bd] H <| by
  refine aM λj g=>?_;have A5:=g [O (.ref sc),O (.int k),O (.ref u),O (.int d),O (.int n),bd,bd,bd] H <| by
   clear g j c P;have z:(X.map V.ref).length=?lhs:=by rw[ai];exact B.1
   refine aM λP j=>(_,1,Y,(?a,?a),_,1,Y,?a,Y,1,?_)
   rw[hO];by_cases c:n / 8 % 6=0
   ·exact dT c (av Y,λp g=>q p (.lf .any) _ (aa.new g) (ae,λpm _=>kr s Y))
   refine dF c (j _ _ ?_);clear j P;obtain⟨i,w,R⟩:∃i:b8,i<?lhs/\n / 64 % ((X.map V.ref).length:b8)=i:=by
    have c:=L.1;rw[z];have N:=fi (n / 64) (b:=(?lhs:cs)) ?o;have K:=fl (n / 64) (b:=(?lhs:cs)) ?o;exact((n / 64 % (?lhs:cs)).toNat,?o,?o)
   have c:i<?lX:=by rw[B.1];exact w
   have D:=B.2 i _ _ (ag c) (ag w);have G:=d1 w;have Z:=(L.mem G).2;have z:=sT L.nodup G;refine aM λP j=>(_,1,Y,(?a,?a),u,1,.inl (eb.of v),_,1,Y,?_,u,_,_,.ref X[i],Y,Y,eb.of v,?_,?_)
   ·show (0:cs)<((X.map V.ref).length:b8);have:=L.1;omega
   ·rw[R];exact cf (by rw[a',ag c];rfl)
   generalize hs[i]=h at D G Z z;refine(X[i],1,fx.of D,Y,_,1,_,1,Y,j _ _ ?_);refine(_,1,Y,sc,C,k+7,h.2,(3),Y,J,?a,?a,Z,λR D Ai S j P=>(av Y,λp g=>q p (.lf (.isin h.1 D)) _ (aG S g) ((R,ae,?_),λpm c=>kr s ?_)))
   ·rw[z];exact j.kt (cX (aa.new g))
   ·exact (d6 (c h G)).trans (P 1 ?a)
  refine(_,1,Y,1,?_);by_cases hd:1<d
  ·refine dT (by omega:(1:cs)<d) (_,1,Y,?a,Y,1,?_);rw[hO];by_cases G:n % 3=1
   ·rw[dg G];obtain⟨d,rfl⟩:∃Z,d=Z + 1:=(d - 1,?o)
    obtain⟨m,rfl⟩:∃A3,m=A3 + 1:=(m - 1,?o)
    obtain⟨e,AA⟩:∃e:eg,s8 [V.str "both",V.str "either"] (n / 3 % 2)=O (.str (jw e)):=by
     have N:=fi (n / 3) (b:=2) ?a;have K:=fl (n / 3) (b:=2) ?a;rcases (by omega:n / 3 % 2=0\/n / 3 % 2=1) with h |h <;> rw[h]
     ·exact(b1,Y)
     ·exact(bm,Y)
    refine aA (aM λM f=>(1,?a,?a,?_));refine⟨kj (n:=2) (λi s A=>∃I:U a_,s=I.map V.ref/\?lI=i/\aa H A/\∀a∈I,∃q,WG gt hs A a d q) ([],Y,Y,aa.refl _,nofun) ?_ ?a ?_ ?_⟩
    ·rintro i s A w ⟨I,rfl,v,_⟩;rw[ai,v];exact b2 _
    ·rintro i s A w ⟨I,rfl,A4,z,M⟩;refine(Wk.set Y,tT (_,1,Y,.inl (?a,?a),_,1,Y,_,1,Y,_,1,Y,?_));refine(sc,u,C,2 * k+1+(0+(i:cs)),d,X,hs,?_,z.seq J,z _ _ v,B.same z,L,?o,?o,λa A7 A9 A6 P=>cw w (I++[a],by rw[b3];rfl,by rw[cc,A4];rfl,z.trans A6,λb A8=>?_))
     ·show [V.ref sc,V.int (2 * k+1+(0+(i:cs))),V.ref u,V.int (((d+1:b8):cs) - 1)]=_;rw[show (((d+1:b8):cs) - 1)=(d:cs) by omega]
     ·rcases ek.mp A8 with h |h
      ·let(w,N):=M b h;exact(w,N.same A6)
      ·rw[d4.mp h];exact(A7,P)
    ·rintro s A6 ⟨I,rfl,A4,z,M⟩ p g;obtain⟨N,P,rfl⟩:∃x y,I=[x,y]:=match I,A4 with |[x,y],_=>(x,y,Y)
     let(D,A4):=M N (.head _);let(AB,A7):=M P (.tail _ (.head _));refine f _ _ (av Y,λl f=>?_);refine(_,1,Y,(?a,?a),_,1,Y,?a,l,_,_,1,Y,eb.of ae,AA,av Y,λA8 s=>(p,[.ref N,.ref P],Y,.inl (eb.of (aG (aa.new f) s _ _ ae),λA9 w=>?_)));have M:∀{o},aa A6 (upd (upd (upd (upd A6 p (.lst [.ref N,.ref P])) l (.lst [.str "both", .str "either"])) A8 (.tup [.str (jw e)])) A9 o):=aG (aG (aG (aa.new g) f) s) w;exact(A8,A9,_,1,Y,fx.of (aa.new w _ _ ae),fx.of ae,List.cons_ne_nil _ _,av Y,nofun,λ_ s f=>q s (.two e D AB) _ (z.trans (aG M f)) ((N,P,ae,(A4.same (aG M f)).1,(A7.same (aG M f)).1),λpm c=>xx ?o (A4.2 pm c) (A7.2 pm c)))
   ·exact dF G A5
  ·exact dF (by omega:¬ (1:cs)<d) A5
 refine(_,1,Y,1,?_);by_cases hd:1<d
 ·refine dT (by omega:(1:cs)<d) (_,1,Y,(by show (0:cs)<3;decide),Y,1,?_);rw[hO];by_cases G:n % 3=0
  ·rw[dg G];obtain⟨d,rfl⟩:∃Z,d=Z + 1:=(d - 1,?o)
   obtain⟨m,rfl⟩:∃A3,m=A3 + 1:=(m - 1,?o)
   refine aA (_,1,Y,.inl (?a,?a),_,1,Y,_,1,Y,sc,u,C,2 * k+1,d,X,hs,?_,J,v,B,L,?o,?o,λR D Ai S j=>(av Y,λp g=>q p (.neg D) _ (aG S g) ((R,ae,(j.same (aa.new g)).1),λpm c=>xw ?o (j.2 pm c))));show [V.ref sc,V.int (2 * k+1),V.ref u,V.int (((d+1:b8):cs) - 1)]=_;rw[show (((d+1:b8):cs) - 1)=(d:cs) by omega]
  ·exact dF G K
 ·exact dF (by omega:¬ (1:cs)<d) K
theorem Zf{w:c3}(h:JL.lookup w=bd):w ≠ "not" /\ w ≠ "both" /\ w ≠ "either" :=by
 refine(?_,?_,?_) <;> rintro rfl <;> cases h
theorem UN{w a b:c3}(c:w≠a)(d:w≠b):sH (.str w) [.str a,.str b]=b1:=by
 simp only[sH,hx,hx,HN,r2,Bool.or_eq_false_iff];exact(ha.mpr ?yc,ha.mpr ?yd)
theorem wU{pt:a_}{bs:U eg}(g:H pt=O (.tup (X.map V.ref)))(h:?lX=?lbs)(hz:?lX<=1000)(hs:∀(i:b8) a b A (R:VK),X[i]?=O a->bs[i]?=O b->aa H A->(∀An,aa A An->R (.bl b) An)->A1 ((stC (bd::fr) σ).set 0 (O (.ref a))) A R)(k:∀A p,aa H A->A p=O (.lst (bs.map V.bl))->Q (.ref p) A):
  ff (bd::fr) (G4 gK pt) (eF 0) jT A1 σ H Q:=by
 refine⟨rJ (B:=X.map V.ref) (λi c A=>aa H A/\c=(bs.take i).map V.bl) (aa.refl _,Y) ?_ ?_ ?_ ?_⟩
 ·rintro i c A e ⟨d,rfl⟩;exact(fx.of (d _ _ g),?x)
 ·rw[ai];exact dn (bJ hz)
 ·rintro i x c A g f ⟨d,rfl⟩;have e:i<?lX:=?x
  simp only[a',ag e]at g;cases g;have g:=ag (show i<?lbs by simp_all);refine(Wk.set Y,tT (hs i _ _ _ _ (ag e) g d λAn j=>cw f (d.trans j,?_)));simp only[ei,g,b3];rfl
 ·rintro c A ⟨d,rfl⟩ p g;refine k _ p (aG d g) ?_;simp only[ae,ai,h,dw]
inductive Oi(t:Ad)(G:V->Prop)(m:b8)(b:U V)(H:Hp)(Q:VK)(_E:XK):Prop
 |i(a:a_)(x:V)(q:Tr Sm)(e:b8)(_:b=[.ref a,x])(_:bD (LQ G) H a q)(_:n8 (cQ t.eBadQuestion) t.eBadQuestion e q=bd)(_:6<=e+m)(_:x = .non\/G x)(_:∀A,aa H A->Q (.bl (q.holds Sm.holds x)) A)
def Yt(t:Ad)(G:V->Prop):b8->Sp
 |0=>λ_ _ _ _=>fP
 |m+1=>Oi t G m
theorem Nh:(["_law_part","_law_value"]:U c3).Nodup:=?k
def CL[T:Gd](G:V->Prop)(Z:Cm G):=rD T.D104 1 6 (Yt gt G) λm AD F=>by
 refine F.o ["_law_question","_law_value","_law_word","_law_some"] λAE AK Aq A3 y H f Q E AF h=>?_;let(a,x,q,e,Y,M,j,A3,S,k):=h;have A3:=hU j;refine(_,(ak (aD 2 AE (l3 gK ?A ah))
  (ak (aI (aE aW ?C au) (aj (ay (kW (AD.pe AF ap (fH (l3 gK ?A ah) ?B) ?o))))
   aK)
  (ak (aI (iN (iL gK) ?C (bP (fH au au)) ?r) (ak (gR 3 AE (Ae:=["_law_part","_law_value"]) (fr:=[bd,O 1]) (jP (gN (k8 gK) ?A (eP ah) jd)) (λAk As y H=>(aF 0 Nh,bh,(AD.pe AF ap (fH ?A ?B) ?o))))
  (aj (ay (cT (aE aW ?C au) (aH (jz gK Y) ?r T.i8 zb (e0 ?E)) (aH (wD gK Y) ?r T.yB zs (e0 ?E))))))
   aK)
  (ak (aI (aE aW ?C au) (aj (ay di))
   aK)
  (ak (aI (PW.pt (fc (aE aW ?C au) (fB (aE c7 ?B a9)))) (aj (ay (fW (eN aW ?C au) (d0 (eN c7 ?B a9)))))
   aK)
  (ak (aI (iN (iL gK) ?C (bP (fH au au)) ?r) (aj (ay (cT (aE aW ?C au) (eN aW ?B (l3 gK ?A ah)) (mK (iL gK) ?B (l3 gK ?A ah) ?r))))
   aK)
  (aj (ay (cT (aE aW ?C au) (eN zf ?B (l3 gK ?A ah)) (eN zd ?B (l3 gK ?A ah))))))))))),?_)
 cases q with
 |bad w f=>cases j
 |neg q=>
  let(b,B,A4):=M;have j:=(du ?o).symm.trans j;have:=hU j;obtain⟨m,rfl⟩:∃A5,m=A5 + 1:=(m - 1,?o)
  exact(a,_,_,1,Y,fx.of B,Y,Y,1,aA (a,_,_,1,Y,fx.of B,Y,b,x,q,e+1,Y,A4,j,?o,S,λA AL=>(1,k A AL)))
 |two d q r=>
  let(b,c,B,A4,A6):=M;have j:=(du ?o).symm.trans j;rw[zF]at j;have:=hU j.1;obtain⟨m,rfl⟩:∃A5,m=A5 + 1:=(m - 1,?o)
  refine(a,_,_,1,Y,fx.of B,Y,?_);refine(Y,1,?_);rw[show decide (V.str (jw d)=V.str "not")=b1 by cases d <;> rfl];refine ao (av Y,λl K=>(l,1,.inr (fx.of ae),Y,Y,1,?_));rw[show (if b1=bm then _ else sH (.str (jw d)) [.str "both", .str "either"])=bm by cases d <;> rfl];have C:aa H (upd H l (.tup [.str "both", .str "either"])):=aa.new K;generalize upd H l (.tup [.str "both", .str "either"])=Ai at C;refine aA ((1),Y,a,1,fx.of (C _ _ B),lA _ _,λpt A7=>(pt,Y,(_,fx.of ae),?_));have A3:dE [V.str (jw d),.ref b,.ref c] (O 1) bd=[b,c].map V.ref:=ly _ _;rw[A3];have J:aa H (upd Ai pt (.tup ([b,c].map V.ref))):=aG C A7;have D:(upd Ai pt (.tup ([b,c].map V.ref))) pt=O (.tup ([b,c].map V.ref)):=ae;refine wU (bs:=[q.holds Sm.holds x,r.holds Sm.holds x]) D Y (av Y) (λi A3 A5 A R N P X AG=>?_) λH3 p X AH=>?_
  ·match i,N,P with
   |0,N,P=>cases N;cases P;exact(b,x,q,e+1,Y,A4.kt (cX (J.trans X)),j.1,?o,S,AG)
   |1,N,P=>cases N;cases P;exact(c,x,r,e+1,Y,A6.kt (cX (J.trans X)),j.2,?o,S,AG)
  ·have k:=k H3 (J.trans X);refine(Y,1,?_);cases d with
   |false=>
    refine aA (p,1,eb.of AH,?_);rw[show [q.holds Sm.holds x,r.holds Sm.holds x].all id=(Tr.two b1 q r).holds Sm.holds x from eG _ (Hx _)];exact k
   |true=>
    refine ao (p,1,eb.of AH,?_);rw[show [q.holds Sm.holds x,r.holds Sm.holds x].any id=(Tr.two bm q r).holds Sm.holds x from eG _ (r2 _)];exact k
 |lf y=>
  let(w,g,B,K,N):=(LQ G).tup M;let(AM,AN,AO):=Zf N;have AQ:∀w f,y≠.bad w f:=λw f z=>by subst z;exact cx ((du ?o).symm.trans j) nofun
  refine(a,_,_,1,Y,fx.of B,cO ?a Y,?_);refine(Y,1,?_);rw[lg AM];refine ao (av Y,λl K=>(l,1,.inr (fx.of ae),Y,Y,1,?_));rw[show (if b1=bm then _ else sH (.str w) [.str "both", .str "either"])=b1 by rw[du ef,UN AN AO]];refine ao ?_;have C:aa H (upd H l (.tup [.str "both", .str "either"])):=aa.new K;generalize upd H l (.tup [.str "both", .str "either"])=Ai at C;have s:=(LQ G).kt (cX C) M;have u:=C _ _ B;clear K M B;have L:=k Ai C;have AR:∀v,G v->v≠.non:=λv h z=>by rcases Z v v h h with⟨_,_,e,_⟩ |⟨_,_,e,_⟩ <;> (rw[z]at e;cases e)
  have hs:(∃b,y = .zero b)\/(((∃c v,y = .one c v)\/∃f,y = .among f)/\w ≠ "all" /\ w ≠ "none" /\ y.holds .non=b1):=by
   cases y with
   |bad w f=>exact cx Y (AQ w f)
   |zero b=>exact .inl (b,Y)
   |one c v=>
    obtain rfl:=gh u s.1;exact .inr (.inl (c,v,Y),match c with |0=>by decide +kernel |1=>by decide +kernel |_+2=>(by decide +kernel:("above" : c3) ≠ "all"),match c with |0=>by decide +kernel |1=>by decide +kernel |_+2=>(by decide +kernel:("above" : c3) ≠ "none"),Y)
   |among f=>
    let(l,e,_):=s.1;obtain rfl:=gh u e;exact .inr (.inr (f,Y),?k,?k,Y)
  rcases hs with⟨b,rfl⟩ |⟨hs,AS,AI,AT⟩
  ·obtain rfl:=gh u s.1;cases b with
   |true=>exact(Y,1,aA L)
   |false=>exact(Y,1,ao (Y,1,aA (aA (Y,1,aA (Y,L)))))
  refine(Y,1,?_);rw[lg AS];refine ao (Y,1,?_);rw[lg AI];refine ao (Y,1,?_);rcases S with rfl |A8
  ·refine aA (Y,1,?_);rw[lg AI];have L:Q (.bl (y.holds .non)) Ai:=L;rw[AT]at L;exact ao L
  have A9:=AR x A8;refine dF A9 (av Y,λAA AB=>(AA,1,.inr (fx.of ae),Y,Y,1,?_));have J:aa Ai (upd Ai AA (.tup [.str "is", .str "among"])):=aa.new AB;generalize upd Ai AA (.tup [.str "is", .str "among"])=An at J;have n:=k An (C.trans J);have I:=(LQ G).kt (cX J) s;rcases hs with⟨c,v,rfl⟩ |⟨f,rfl⟩
  ·obtain rfl:=gh u s.1;have n:Q (.bl (lP c x v)) An:=by rw[<-show (Sm.one c v).holds x=lP c x v from du A9];exact n
   have AC:=Z x v A8 (I.2 v (.head _));have D:=I.1
   match c,D,n with
   |0,D,n=>exact aA (Y,1,aA (a,_,_,1,Y,fx.of D,Y,AC.y1,n))
   |1,D,n=>exact ao (Y,1,aA (a,_,_,1,Y,fx.of D,Y,AC,n))
   |_+2,D,n=>exact ao (Y,1,ao (a,_,_,1,Y,fx.of D,Y,AC,n))
  ·let(l,e,K,hz):=I.1;obtain rfl:=gh (J _ _ u) e;have n:Q (.bl (sH x f)) An:=by rw[<-show (Sm.among f).holds x=sH x f from du A9];exact n
   have AJ:∀v,G v->bz v=bm:=λv h=>by rcases Z v v h h with⟨_,_,rfl,_⟩ |⟨_,_,rfl,_⟩ <;> rfl
   exact aA (Y,1,ao (a,_,_,1,Y,fx.of e,Y,l,1,.inl (eb.of K),AJ x A8,dv.mpr λv N=>AJ v (I.2 v N),n))
noncomputable def H5(hs:U p')(z:c3):b5 PM:=if z∈hs.map (·.1) then O (.num []) else bd
noncomputable def hR(hs:U p')(g:U V):Wh->Gc->eg
 |.any,_=>bm
 |.isin z q,_=>q.holds Sm.holds (g.getD ((hs.map (·.1)).idxOf z) .non)
 |.bad _ _,_=>b1
noncomputable def O2(hs:U p'):Tr Wh->eg
 |.lf (.isin z _)=>C1 hs z
 |_=>b1
theorem Zz{hs:U p'}{g:U V}(a:iE h x=bm)(b:EN x):x = .non\/GK (decide (h.2 = "word")) x:=by
 simp only[iE]at a;by_cases e:h.2 = "word"
 ·rw[d6 e]at a;rw[dg e];cases x with
  |non=>exact .inl Y
  |str z=>exact .inr (z,Y,b,a)
  |_=>cases a
 ·rw[du e]at a;rw[c4 e,(pI a).1];exact zj _
inductive P9(t:Ad)(m:b8)(c:U V)(H:Hp)(Q:VK)(_E:XK):Prop
 |i(a b lr:a_)(X:U a_)(hs:U p')(g:U V)(q:Tr Wh)(e:b8)(_:c=[.ref a,.ref b,.ref lr])(_:bD (LW (C1 hs)) H a q)(_:n8 (cW t (H5 hs)) t.eBadQuestion e q=bd)(_:6<=e+m)(_:H b=O (.lst (X.map V.ref)))(_:fg H X hs)(_:LH hs)(_:H lr=O (.lst g))(_:lI hs g)(_:∀A,aa H A->Q (.bl (q.holds (hR hs g) ())) A)
def Mf(t:Ad):b8->Sp
 |0=>λ_ _ _ _=>fP
 |m+1=>P9 t m
theorem PR:(["_law_column"]:U c3).Nodup:=?k
theorem ι:(["_law_part","_law_columns_here","_law_row_here"]:U c3).Nodup:=?k
def UB[T:Gd]:=rD T.D105 7 6 (Mf gt) λm AK F=>by
 refine F.o ["_law_where_here","_law_columns_here","_law_row_here","_law_names","_law_some"] λAL AT Aq A9 AM H AN Q E AA h=>?_;let(a,AB,lr,X,hs,g,q,e,Y,A4,f,A9,AC,A5,L,K,B,k):=h;have A9:=hU f;have AU:=(λb=>CL (GK b) (by cases b;exact wQ;exact NG)) (O2 hs q)
 refine(_,(ak (aI (aE aW (l3 gK ?A ah) au) (aj (ay di))
   aK)
  (ak (aI (aE aW (l3 gK ?A ah) au) (aj (ay (kW (AK.pe AA ap (aJ (l3 gK ?A ah) (fH ?B ?C)) ?o))))
   aK)
  (ak (aI (aE aW (l3 gK ?A ah) au) (ak (gR 3 AL (Ae:=["_law_column"]) (fr:=[bd]) (ba ?B) (λAk As AM H=>(aF 0 PR,bh,(l3 gK ?A ah))))
  (aj (ay (AU.pe AA ap (fH (l3 gK ?A ah) (nC gK ?C (bX gK d2 lj lm px ?E (e0 (l3 gK ?A ah))))) ?o))))
   aK)
  (ak (gR 4 AL (Ae:=["_law_part","_law_columns_here","_law_row_here"]) (fr:=[bd,O 1,O 2]) (jP (gN (k8 gK) ?A (eP ah) jd)) (λAk As AM H=>(aF 0 ι,bh,(AK.pe AA ap (aJ ?A (fH ?B ?C)) ?o))))
  (aj (ay (cT (aE aW (l3 gK ?A ah) au) (aH (jz gK Y) ?r T.i8 zb (e0 ?G)) (aH (wD gK Y) ?r T.yB zs (e0 ?G))))))))),?_)
 have u:∀{M b m'} {A:Hp} {R:VK} {A9:XK},m=m' + 1->aa H A->bD (LW (C1 hs)) H b M->n8 (cW gt (H5 hs)) gt.eBadQuestion (e+1) M=bd->(∀An,aa A An->R (.bl (M.holds (hR hs g) ())) An)->Mf gt m [.ref b,.ref AB,.ref lr] A R A9:=λ{M b m' A R A9} em J D AD A6=>by
  subst em;exact(b,AB,lr,X,hs,g,M,e+1,Y,D.kt (cX J),AD,?o,J _ _ AC,A5.same J,L,J _ _ K,B,A6)
 cases q with
 |bad w AN=>cases f
 |neg q=>
  let(b,s,D):=A4;have f:=(du ?o).symm.trans f;have:=hU f;exact(a,_,_,1,Y,fx.of s,Y,Y,1,ao (a,_,_,1,Y,fx.of s,Y,Y,1,aA (a,_,_,1,Y,fx.of s,Y,u (m':=m - 1) ?o (aa.refl _) D f λA AE=>(1,k A AE))))
 |two d q r=>
  let(b,c,s,D,AF):=A4;have f:=(du ?o).symm.trans f;rw[zF]at f;have:=hU f.1;have AG:∀z:c3,z = "any" \/ z = "not" \/ z = "in" -> decide (V.str (jw d)=V.str z)=b1:=λz hz=>by rcases hz with rfl |rfl |rfl <;> cases d <;> rfl
  refine(a,_,_,1,Y,fx.of s,Y,Y,1,?_);rw[AG _ (.inl Y)];refine ao (a,_,_,1,Y,fx.of s,Y,Y,1,?_);rw[AG _ (.inr (.inl Y))];refine ao (a,_,_,1,Y,fx.of s,Y,Y,1,?_);rw[AG _ (.inr (.inr Y))];refine ao ((1),Y,a,1,fx.of s,lA _ _,λpt AH=>(pt,Y,(_,fx.of ae),?_));have M:dE [V.str (jw d),.ref b,.ref c] (O 1) bd=[b,c].map V.ref:=ly _ _;rw[M];have C:aa H (upd H pt (.tup ([b,c].map V.ref))):=aa.new AH;have A7:(upd H pt (.tup ([b,c].map V.ref))) pt=O (.tup ([b,c].map V.ref)):=ae;refine wU (bs:=[q.holds (hR hs g) (),r.holds (hR hs g) ()]) A7 Y (av Y) (λi M A9 A R G N P A6=>?_) λH3 p P AO=>?_
  ·match i,G,N with
   |0,G,N=>cases G;cases N;exact u (m':=m - 1) ?o (C.trans P) D f.1 A6
   |1,G,N=>cases G;cases N;exact u (m':=m - 1) ?o (C.trans P) AF f.2 A6
  ·have k:=k H3 (C.trans P);have AI:=P _ _ (C _ _ s);refine(a,_,_,1,Y,fx.of AI,Y,Y,1,?_);cases d with
   |false=>
    refine aA (p,1,eb.of AO,?_);rw[show [q.holds (hR hs g) (),r.holds (hR hs g) ()].all id=(Tr.two b1 q r).holds (hR hs g) () from eG _ (Hx _)];exact k
   |true=>
    refine ao (p,1,eb.of AO,?_);rw[show [q.holds (hR hs g) (),r.holds (hR hs g) ()].any id=(Tr.two bm q r).holds (hR hs g) () from eG _ (r2 _)];exact k
 |lf x=>
  have f:=(du ?o).symm.trans f;cases x with
  |bad w AN=>cases f
  |any=>exact(a,_,_,1,Y,fx.of A4,Y,Y,1,aA (k H (aa.refl _)))
  |isin z q=>
   let(b,s,D):=A4;refine(a,_,_,1,Y,fx.of s,Y,Y,1,ao (a,_,_,1,Y,fx.of s,Y,Y,1,ao (a,_,_,1,Y,fx.of s,Y,Y,1,aA ?_)));have hz:z∈hs.map (·.1):=t1 λn=>by
    have:(H5 hs z).isSome=b1:=by rw[H5,du n];rfl
    rw[cW,this]at f;cases f
   have f:dm gt q=bd:=by
    have:(H5 hs z).isSome=bm:=by rw[H5,d6 hz];rfl
    rw[cW,d6 this]at f;exact f
   have M:=L.2.1;refine(AB,Y,(_,eb.of AC),lR (ys:=X) (G:=V.ref) ((hs.map (·.1)).map V.str) (by simp[A5.1]) (eb.of AC) (by rw[A5.1];omega) (λi y z AV hz A AZ Z J k=>?_) λp A C A7 _=>?_)
   ·rw[a',a']at hz;let(_,e,Y):=d3.mp hz;let(Ba,AW,Y):=d3.mp e;exact(Wk.set Y,tT (y,_,_,1,Y,fx.of ((A5.same J).2 i _ _ AV AW),Y,k _ (.refl _)))
   have I:=e5 hz;have A8:(hs.map (·.1))[(hs.map (·.1)).idxOf z]?=O z:=by rw[ag I,n6 I]
   have k:∀A,aa H A->Q (.bl (q.holds Sm.holds (g.getD ((hs.map (·.1)).idxOf z) .non))) A:=k;have S:∀{y:c3}{m:b8},m<(hs.map (·.1)).idxOf z->(hs.map (·.1))[m]?=O y->y≠z:=yn;generalize (hs.map (·.1)).idxOf z=j at I A8 k S;rw[ai]at I;have AQ:=ag I;have AR:j<?lg:=by rw[B.1];exact I
   have ex:=ag AR;have G:hs[j].1=z:=by rw[a',AQ]at A8;exact c_ A8
   have AX:g[j] = .non\/GK (C1 hs z) g[j]:=by
    rw[<-G,sT L.nodup (d1 I)];exact Zz (hs:=hs) (g:=g) (B.2.2 j _ _ AQ ex) (B.2.1 _ (d1 AR))
   rw[show g.getD j .non=g[j] by rw[bb,ex];rfl]at k;have A3:=C _ _ s;refine(a,_,_,1,Y,fx.of A3,Y,.inl (Y,_,eb.of A7),a,_,_,1,Y,fx.of A3,Y,p,_,_,j,Y,Y,A7,U5 _,Y,(.str z,by rw[a',A8];rfl,jE Y),λm v AJ AS=>?_,lr,_,_,g[j],Y,Y,eb.of (C _ _ K),cf ex,b,g[j],q,(1),Y,D.kt (cX C),f,?a,AX,λA AE=>k A (C.trans AE));rw[a']at AS;let(Aw,AY,Y):=d3.mp AS;exact ha.mpr (S AJ AY)
def Pe(t:Ad):Sp:=λb H Q _=>(b=[.non]/\Q (.str "ok") H)\/∃(a Ak:a_)(z:c3),b=[.ref a]/\H a=O (gq a (.ref Ak))/\((Ak=t.eBadQuestion/\z = "question")\/(Ak=t.eNoColumn/\z = "column"))/\∀A,aa H A->Q (.str z) A
theorem Vd{c:b8}(h:c=1)(a:A0):if (!decide (V.int (c:cs)=V.int 1))=bm then Aq else A0:=by
 subst h;exact a
theorem pX:b9 ["_law_kept","_law_kinds"] ["_law_kept"] (aQ KS):=by walk_at "sc"
def Qg[T:Gd]:=cD T.D106 1 (Pe gt) λF=>by
 refine F.ok pX (λy H Q E h=>?_) (λc Aq x s H y Q E C h=>?_)
 ·rcases h with⟨rfl,_⟩ |⟨a,Ak,z,rfl,_⟩ <;> rfl
 ·refine gz (_,(bi (aI (aE c7 ?A a9) (aj (ay au))
   aK)
  (mU 1 pX.4 (im (aS (aH (cJ gK) ?r T.cK z3 (fH ?A (dj T.rZ))) (aS (aH (cJ gK) ?r T.cK z3 (fH ?A (dj T.i5))) (aS (aH (cJ gK) ?r T.cK z3 (fH ?A (dj T.oN))) gM)))) (mU 1 pX.4 (mP jc (Ji ?B) (im (aS (aH (cJ gK) ?r T.cK z3 (fH ?A (dj T.oO))) (aS (aH (cJ gK) ?r T.cK z3 (fH ?A (dj T.r9))) (aS (aH (cJ gK) ?r T.cK z3 (fH ?A (dj T.xL))) gM))))) (bi (aD 1 pX.4 (aq jc ?B (bO (fH (aH (cJ gK) ?r T.cK z3 (fH ?A (dj T.sf))) (aH (cJ gK) ?r T.cK z3 (fH ?A (dj T.sh)))))))
  (bi (aI (PW.pt (fc (aE eK (bX gK d2 ϡ Ϣ YF ?B (e0 di)) ah) (fB (dQ (bY (aH (cJ gK) ?r T.cK z3 (fH ?A (fY T.zir za)))))))) (aj (ay au))
   aK)
  (iM (mM (kH gK) (im (aS au (aS au (aS au (aS au (aS au (aS au (aS au (aS au gM))))))))) (bX gK d2 lj lm px ?B (e0 di)) (λ_ _=>rfl)))))))),?_)
  rcases h with⟨rfl,q⟩ |⟨a,Ak,z,rfl,s,x,K⟩
  ·exact(Y,1,aA q)
  refine(Y,1,ao ?_);obtain⟨c,d,f,g,n,p,u,v,j,k0,y,C,I,J,L,M,N,kC,P,R,S,w,X⟩:∃(c d f g n p u v:eg)(j:b8),e3 gK (.ref Ak) (.ref gt.eBadBits)=O c/\e3 gK (.ref Ak) (.ref gt.eBadQuestion)=O d/\e3 gK (.ref Ak) (.ref gt.eBadRow)=O f/\e3 gK (.ref Ak) (.ref gt.eBadTable)=O g/\e3 gK (.ref Ak) (.ref gt.eBadValue)=O n/\e3 gK (.ref Ak) (.ref gt.eNoColumn)=O p/\e3 gK (.ref Ak) (.ref gt.eNoPacking)=O u/\e3 gK (.ref Ak) (.ref gt.eNoRow)=O v/\iS gK Ak/\e3 gK (.ref Ak) (.type "ValueError")=O bm/\([.bl c,.bl d,.bl f,.bl g,.bl n,.bl p,.bl u,.bl v]:U V).countP (λz=>m3 z (.bl bm))=1/\([.bl c,.bl d,.bl f,.bl g,.bl n,.bl p,.bl u,.bl v]:U V)[j]?=O (.bl bm)/\(∀m z,m<j->([.bl c,.bl d,.bl f,.bl g,.bl n,.bl p,.bl u,.bl v]:U V)[m]?=O z->m3 z (.bl bm)=b1)/\([.str "bits", .str "question", .str "row", .str "table", .str "value", .str "column", .str "packing", .str "norow"]:U V)[j]?=O (.str z):=by
   rcases x with⟨rfl,rfl⟩ |⟨rfl,rfl⟩
   ·exact(_,_,_,_,_,_,_,_,(1),T.zfY,T.zfZ,T.zf0,T.zf1,T.zf2,T.zf3,T.zf4,T.zf5,T.zgX,T.zp8,Y,Y,λm z w hz=>match m,w with |0,_=>by cases hz;rfl,Y)
   ·exact(_,_,_,_,_,_,_,_,(5),T.zgb,T.zgc,T.zgd,T.zge,T.zgf,T.zgg,T.zgh,T.zgi,T.zgY,T.zp9,Y,Y,λm z w hz=>match m,w with |0,_=>by cases hz;rfl |1,_=>by cases hz;rfl |2,_=>by cases hz;rfl |3,_=>by cases hz;rfl |4,_=>by cases hz;rfl,Y)
  have Ao:∀{A D b},A a=O (gq a (.ref Ak))->e3 gK (.ref Ak) (.ref D)=O b->jo gK A (.ref a) (.ref D) b:=λh e=>Rf h kC e;refine(_,_,1,Ao s k0,_,_,1,Ao s y,_,_,1,Ao s C,av Y,λB x=>?_);have C:=aa.new (o:=.lst [.bl c,.bl d,.bl f]) x;have y:=C _ _ s;refine(_,_,1,Ao y I,_,_,1,Ao y J,_,_,1,Ao y L,av Y,λG x=>?_);refine(B,G,_,1,Y,by rw[af (aC ae x)];exact ae,ae,av Y,λI y=>?_);have J:aa H (upd (upd (upd H B (.lst [.bl c,.bl d,.bl f])) G (.lst [.bl g,.bl n,.bl p])) I (.lst [.bl c,.bl d,.bl f,.bl g,.bl n,.bl p])):=aG (aG C x) y;have y:=J _ _ s;refine(_,_,1,Ao y M,_,_,1,Ao y N,av Y,λC x=>?_);refine(I,C,_,1,Y,by rw[af (aC ae x)];exact ae,ae,av Y,λB y=>?_);have C:=aG (o:=.lst [.bl c,.bl d,.bl f,.bl g,.bl n,.bl p,.bl u,.bl v]) (aG J x) y;have y:=C _ _ s;refine(.inl (Y,_,eb.of ae),B,_,1,Y,ae,Y,Y,Y,1,?_);refine Vd R (_,_,1,Um y kC P,1,ao (av Y,λI x=>?_));have c:=aC ae x;exact(.inl (Y,_,eb.of (by rw[af c];exact ae)),B,_,_,j,Y,Y,by rw[af c];exact ae,Y,Y,(.bl bm,S,Y),w,I,_,_,1,Y,eb.of ae,cf X,K _ (aG C x))
def PM.okN(Ao:b8):PM->Prop
 |.num g=>o5 g=bm
 |.wrd I C=>o5 C=bm/\inR I C/\?lI<=Ao/\I.Nodup
theorem PM.okN_ok{p:PM}(h:p.okN Ao)(a:Ao<=1000):p.ok:=by
 cases p with
 |num g=>exact h
 |wrd I C=>exact(h.1,h.2.1,ce h.2.2.1 a)
theorem Tk{z:c3}{o:OI}(h:∀i:cs,o=O i->0<=i/\i<?lI):dC (I++[z]) o=dC I o:=by
 cases o with
 |none=>rfl
 |some i=>
  let(a,b):=h i Y;show V.str ((I++[z]).getD ?ii "")=V.str (I.getD ?ii "");rw[bb,bb,f1 ?x]
theorem PM.put_cells{p:PM}(h:p.okN Ao)(a:p.takes x=bm):(p.put x).cells=p.cells++[x]:=by
 cases p with
 |num g=>
  show (g++[Hz x]).map ov=_;rw[b3];have:=(pI a).1;show g.map ov++[ov (Hz x)]=g.map ov++[x]
  rw[<-this]
 |wrd I C=>
  let(b,c,d,f):=h;rcases uU a with rfl |⟨z,rfl⟩
  ·show (C++[bd]).map (dC I)=_;rw[b3];rfl
  ·show (C++[(dh I (.str z)).2]).map (dC (dh I (.str z)).1)=_;by_cases a:z∈I
   ·have b:dh I (.str z)=(zzq I (O (I.idxOf z:cs))):=d6 a;rw[b,b3];have d:=e5 a;have:dC I (O (I.idxOf z)) = .str z:=by
     show V.str (I.getD (I.idxOf z:cs).toNat "")=_
     simp_all
    show C.map (dC I)++[dC I (O (I.idxOf z))]=C.map (dC I)++[V.str z]
    rw[this]
   ·have b:dh I (.str z)=(zzq (I++[z]) (O (?lI:cs))):=du a;rw[b,b3];have a:C.map (dC (I++[z]))=C.map (dC I):=f6 λo b=>Tk λi e=>c i ?x;have b:dC (I++[z]) (O (?lI)) = .str z:=by
     show V.str ((I++[z]).getD (?lI:cs).toNat "")=_
     simp_all
    show C.map (dC (I++[z]))++[dC (I++[z]) (O (?lI))]=_;rw[a,b];rfl
theorem PM.put_ok{p:PM}(h:p.okN Ao)(c:p.takes x=bm)(j:?lp.col<8)(m:Ao<=900):(p.put x).okN (Ao+1)/\(p.put x).col.length=?lp.col+1:=by
 cases p with
 |num g=>
  refine(pE h j (pI c).2,?_);show (g++[Hz x]).length=?lg+1;rw[cc];rfl
 |wrd I C=>
  let(m,d,n,f):=h;refine(((pE (o:=(dh I x).2) m j (yQ x ?l)),?_),?_)
  ·rcases uU c with rfl |⟨z,rfl⟩
   ·refine(λi c=>?_,hq n,f);rcases ek.mp c with h |h
    ·exact d i h
    ·cases d4.mp h
   ·by_cases j:z∈I
    ·have m:dh I (.str z)=(zzq I (O (I.idxOf z:cs))):=d6 j;rw[m];refine(λi c=>?_,hq n,f);rcases ek.mp c with h |h
     ·exact d i h
     ·grind
    ·have m:dh I (.str z)=(zzq (I++[z]) (O (?lI:cs))):=du j;rw[m];have m:(I++[z]).length=?lI+1:=by rw[cc];rfl
     refine(λi c=>?_,by show (I++[z]).length<=Ao+1;simp_all,?_)
     ·rcases ek.mp c with h |h
      ·have:=d i h;exact(this.1,by show i<((I++[z]).length:cs);lia)
      ·grind
     ·exact hn.mpr (f,?s,λa c b m e=>j (by simp only[<-d4.mp m,<-e];exact c))
  ·show (C++[(dh I x).2]).length=?lC+1;rw[cc];rfl
theorem ol{α Ax:Type}(f:α->Ax):∀(l:U α)(k:b8),(l.map f).eraseIdx k=(l.eraseIdx k).map f
 |[],_=>rfl
 |_::_,0=>rfl
 |a::r,k+1=>by show f a::(r.map f).eraseIdx k=f a::(r.eraseIdx k).map f;rw[ol]
theorem PM.drop_cells(p:PM)(k:b8):(p.drop k).cells=p.cells.eraseIdx k:=by
 cases p with
 |num g=>exact (ol ov g k).symm
 |wrd I C=>exact (ol (dC I) C k).symm
theorem PM.drop_ok{p:PM}(h:p.okN Ao)(a:k<?lp.col):(p.drop k).okN Ao/\(p.drop k).col.length=?lp.col - 1:=by
 cases p with
 |num g=>exact(tW h k,by show (g.eraseIdx k).length=_;rw[kq,d6 (show k<?lg from a)];rfl)
 |wrd I C=>
  let(b,c,d,e):=h;exact((tW b k,λi f=>c i (hL f),d,e),by show (C.eraseIdx k).length=_;rw[kq,d6 (show k<?lC from a)];rfl)
noncomputable def bZ(u:U cs)(rows:U (a_×U V)):U (Key×V):=(u.zip (rows.map λr=>V.ref r.1)).map λq=>(zzq (.inl (O q.1)) q.2)
theorem z8{n:cs}(h:n∉u):aO (bZ u rows) (.inl (O n))=bd:=by
 induction u generalizing rows with
 |nil=>rfl
 |cons m l a=>cases rows with
  |nil=>rfl
  |cons r b=>exact (dM (p:=(zzq (eS (O m)) _)) λe=>h (c_ (ϣ e) ▸ .head _)).trans (a λz=>h (.tail _ z))
theorem pS{n:cs}{r:a_×U V}(f:u.Pairwise (· < ·))(c:u[i]?=O n)(d:rows[i]?=O r):aO (bZ u rows) (.inl (O n))=O (.ref r.1):=by
 induction u generalizing rows i with
 |nil=>cases c
 |cons m l g=>
  cases rows with
  |nil=>cases d
  |cons q h=>
   cases i with
   |zero=>
    cases c;cases d;exact eQ Y
   |succ i=>
    let(a,b):=h4.mp f;have f:=a n (a0 c);have f:¬ (eS (O m):Key)=eS (O n):=λe=>by
     grind
    exact (dM f).trans (g b c d)
theorem OC(h:?lrows=?lu)(n:cs)(r:a_×U V):bZ (u++[n]) (rows++[r])=bZ u rows++[(zzq (.inl (O n)) (.ref r.1))]:=by
 delta bZ
 rw[b3,G1 ?x,b3];rfl
theorem ZY{k:Key}(h:aO kvs k=bd):fm kvs k=kvs:=by
 delta fm
 rw[nb];intro b a;refine dg λe=>?_;exact uQ h (cv.mpr (b,a,e))
theorem z7:∀{u:U cs}{rows:U (a_×U V)}{i:b8}{n:cs},u.Pairwise (· < ·)->?lrows=?lu->u[i]?=O n->fm (bZ u rows) (.inl (O n))=bZ (u.eraseIdx i) (rows.eraseIdx i)
 |[],_,i,_,_,_,h=>by cases h
 |_::_,[],i,_,_,h,_=>by cases h
 |m::l,r::c,0,n,f,g,d=>by
  have d:m=n:=c_ d;subst d;let(a,b):=h4.mp f;have j:m∉l:=λz=>by have:=a m z;lia
  have e:fm (bZ (m::l) (r::c)) (.inl (O m))=fm (bZ l c) (.inl (O m)):=by
   show EA _ ((zzq (eS (O m)) (V.ref r.1))::bZ l c)=_;rw[List.filter_cons_of_neg ?s];rfl
  simp only[e,ZY (z8 j)];rfl
 |m::l,r::c,i+1,n,f,g,d=>by
  let(a,b):=h4.mp f;have f:=a n (a0 d);have e:fm (bZ (m::l) (r::c)) (.inl (O n))=(zzq (eS (O m)) (V.ref r.1))::fm (bZ l c) (.inl (O n)):=by
   show EA _ ((zzq (eS (O m)) (V.ref r.1))::bZ l c)=_;have f:(eS (O m):Key)≠eS (O n):=λz=>by
    grind
   rw[List.filter_cons_of_pos (by grind)];rfl
  simp only[e,z7 b (rs g) d];rfl
theorem Mw{p:PM}(e:p.isW=decide (h.2 = "word"))(x:V):p.takes x=iE h x:=by
 simp only[iE];cases p with
 |num _=>rw[du (tS ?ye)];rfl
 |wrd _ _=>rw[d6 (eh ?ye)];rfl
theorem Tu{f:PM->PM}(a:B[i]?=O q)(b:fs[i]?=O f):(cS ?lB B fs)[i]?=O (zzq q.1 (zzq q.2.1 (f q.2.2))):=by
 induction B generalizing fs i with
 |nil=>cases a
 |cons p r c=>
  cases fs with
  |nil=>cases b
  |cons Ao s=>
   cases i with
   |zero=>cases a;cases b;rfl
   |succ i=>exact c a b
theorem yt(h:?lfs=?lB)(e:(cS ?lB B fs)[i]?=O q):∃a f,B[i]?=O a/\fs[i]?=O f/\q=(zzq a.1 (zzq a.2.1 (f a.2.2))):=by
 have b:i<?lB:=by
  have:=(bg.mp e).1
  rwa[pq]at this
 have a:=ag b;have b:=ag (show i<?lfs by simp_all);rw[Tu a b]at e;exact(_,_,a,b,(c_ e).symm)
structure F9(hs:U p')(ps:U aU)(living:U cs)(g:b8)(rows:U (a_×U V)):Prop where
 len:ps.length=hs.length
 kin:∀(i:b8) h q,hs[i]?=O h->ps[i]?=O q->q.2.2.isW=decide (h.2 = "word")
 ok:∀q∈ps,q.2.2.okN g/\q.2.2.col.length=living.length
 ris:living.Pairwise (· < ·)
 bel:∀n∈living,n<(g:cs)
 few:living.length<=g
 rlen:rows.length=living.length
 fit:∀r∈rows,lI hs r.2
 cells:∀(i j:b8) r q,rows[i]?=O r->ps[j]?=O q->r.2[j]?=q.2.2.cells[i]?
theorem F9.drop{hs:U p'}{B:U aU}{u:U cs}{Ao k:b8}{rows:U (a_×U V)}(h:F9 hs B u Ao rows)(v:k<?lu):F9 hs (cS ?lB B (er ?lB (PM.drop k))) (u.eraseIdx k) Ao (rows.eraseIdx k):=by
 have part:∀{j:b8}{q:aU},(cS ?lB B (er ?lB (PM.drop k)))[j]?=O q->∃g,B[j]?=O g/\q=(zzq g.1 (zzq g.2.1 (g.2.2.drop k))):=λe=>by
  let(g,f,p,m,s):=yt j3 e;rw[yv (a0 m)]at s;exact(g,p,s)
 refine(by rw[pq];exact h.1,λi w q m s=>?_,λq x=>?_,h.ris.sublist (Ew _ _),λn y=>h.bel n (hL y),ce (Jf (Ew _ _)) h.6,by rw[kq,kq,h.7],λr z=>h.fit r (hL z),λi j r q m s=>?_)
 ·let(g,p,Y):=part s;simp only[<-h.kin i w g m p];cases g.2.2 <;> rfl
 ·let(j,w):=ez x;let(g,p,Y):=part w;let(a,b):=h.ok g (a0 p);let(c,d):=PM.drop_ok a (b ▸ v);exact(c,by rw[kq,d6 v,<-b];exact d)
 ·let(g,p,Y):=part s;rw[PM.drop_cells,B_];rw[B_]at m;by_cases s:i<k
  ·rw[d6 s]at m ⊢;exact h.cells i j r g m p
  ·rw[du s]at m ⊢;exact h.cells (i+1) j r g m p
theorem F9.put{hs:U p'}{B:U aU}{u:U cs}{Ao:b8}{rows:U (a_×U V)}{lr:a_}{g:U V}(h:F9 hs B u Ao rows)(v:Ao<=7)(A:lI hs g):F9 hs (cS ?lB B (g.map PM.put)) (u++[(Ao:cs)]) (Ao+1) (rows++[(zzq lr g)]):=by
 have z:=h.6;have part:∀{j:b8}{q:aU},(cS ?lB B (g.map PM.put))[j]?=O q->∃n x C,B[j]?=O n/\g[j]?=O x/\hs[j]?=O C/\n.2.2.takes x=bm/\q=(zzq n.1 (zzq n.2.1 (n.2.2.put x))):=λ{j q} e=>by
  let(n,f,p,s,w):=yt (by simp only[ai,A.1,h.1]) e;rw[a']at s;let(x,ex,Y):=d3.mp s;have v:=ag (show j<?lhs by exact h.1 ▸ (bg.mp p).1);exact(n,x,_,p,ex,v,by rw[Mw (h.kin j _ n v p)];exact A.2.2 j _ _ v ex,w)
 refine(by rw[pq];exact h.1,λi C q s w=>?_,λq E=>?_,hI.mpr (h.4,l4 _ _,λa D b G=>by rw[d4.mp G];exact h.bel a D),λm H=>?_,by exact cc ▸ (tJ z),by simp only[cc,cc,h.7];rfl,λr I=>?_,λi j r q s w=>?_)
 ·let(n,x,D,p,ex,v,z,Y):=part w;simp only[<-h.kin i C n s p];cases n.2.2 <;> rfl
 ·let(j,C):=ez E;let(n,x,D,p,ex,v,z,Y):=part C;let(a,b):=h.ok n (a0 p);let(c,d):=PM.put_ok a z ?l ?l;exact(c,by simp only[cc,<-b];exact d)
 ·rcases ek.mp H with y |y
  ·have:=h.bel m y
   lia
  ·rw[d4.mp y];exact Int.le_refl _
 ·rcases ek.mp I with y |y
  ·exact h.fit r y
  ·exact (d4.mp y) ▸ A
 ·let(n,x,D,p,ex,v,z,Y):=part w;let(a,b):=h.ok n (a0 p);rw[PM.put_cells a z];have z:=iC n.2.2;by_cases v:i<?lrows
  ·rw[f1 v]at s;rw[f1 (by simp only[z,b,<-h.7];exact v)];exact h.cells i j r n s p
  ·have p:i=?lrows:=by
    have:=(bg.mp s).1;simp only[cc,f']at this
    lia
   have v:n.2.2.cells.length=?lrows:=by simp only[z,b,h.7]
   simp only[p,ge (b2 _),q4]at s;simp only[p,ge (g3 ‹_›),v,q4];cases s;exact ex
structure LT where
 l:a_
 tb:a_
 dr:a_
 pd:a_
 ll:a_
 o:hg
 as:U a_
 hs:U p'
 ps:U aU
 living:U cs
 g:b8
 rows:U (a_×U V)
variable{S:LT}
structure bK(t:Ad)(H:Hp)(S:LT):Prop where
 cols:H S.l=O (.lst (S.as.map V.ref))
 heads:fg H S.7 S.8
 lh:LH S.8
 tab:bM t H S.2 S.4 S.5 S.o (S.hs.map (·.1)) S.9 S.10 S.g
 dic:H S.3=O (.dK (bZ S.10 S.12))
 rows:∀r∈S.12,H r.1=O (.lst r.2)/\r.1≠S.5
 fit:F9 S.8 S.9 S.10 S.g S.12
 nl:S.l≠S.5
 nd:S.3∉S.4::FP S.2 S.5 S.9
theorem bK.mono(h:bK t H S)(k:∀b o,(∀B,o≠.tbl B)->H b=O o->A b=O o):bK t A S:=
 (k _ _ nofun h.1,(h.heads.1,λi a x d f=>k _ _ nofun (h.heads.2 i a x d f)),h.3,h.tab.via λb o _ p e=>k b o (λ_ z=>by rw[z]at p;exact p) e,k _ _ nofun h.5,λr c=>(k _ _ nofun (h.rows r c).1,(h.rows r c).2),h.7,h.8,h.9)
theorem bK.same(h:bK t H S)(s:aa H A):bK t A S:=h.mono λb o _ e=>s b o e
theorem qz{o:hg}(h:bM t H Am pd ll o C B u P)(a:b∈FP Am ll B):b=ll\/(∃Ak N fs,H b=O (.ins Ak N fs))\/∃kvs,H b=O (.dK kvs):=by
 rcases bG.mp a with rfl |a
 ·let(N,e):=h.1;exact .inr (.inl (_,_,_,e))
 rcases bG.mp a with rfl |a
 ·exact .inl Y
 let(As,c,a):=g7.mp a;let(q,d,Y):=cv.mp c;rcases PM.kind (h.par.1 q d) a with⟨Ak,N,fs,e,_⟩ |⟨_,e⟩
 ·exact .inr (.inl (Ak,N,fs,e))
 ·exact .inr (.inr (_,e))
theorem bK.step(h:bK t H S)(k:mr (FP S.2 S.5 S.9) H Ai)(d:FP S.2 S.5 B=FP S.2 S.5 S.9)(T1:bM t Ai S.2 S.4 S.5 S.o (S.hs.map (·.1)) B u Ao)(f:F9 S.8 B u Ao rows)(c:∀r∈rows,H r.1=O (.lst r.2)/\r.1≠S.5):bK t (upd Ai S.3 (.dK (bZ u rows))) { S with ps:=B,living:=u,g:=Ao,rows:=rows }:=by
 have lst:∀{b:a_}{g:U V},H b=O (.lst g)->b≠S.5->Ai b=O (.lst g):=λe n=>k _ _ (λz=>by rcases qz h.4 z with y |⟨_,_,_,y⟩ |⟨_,y⟩ <;> first |exact n y | (rw[e]at y;cases y)) e;have tup:∀{b:a_}{g:U V},H b=O (.tup g)->Ai b=O (.tup g):=λe=>k _ _ (λz=>by rcases qz h.4 z with y |⟨_,_,_,y⟩ |⟨_,y⟩ <;> first | (rw[y,h.tab.3]at e;cases e) | (rw[e]at y;cases y)) e;have ne:∀{b:a_}{o:HO},Ai b=O o->(∀kvs,o≠.dK kvs)->upd Ai S.3 (.dK (bZ u rows)) b=O o:=λ{b o} e n=>by
  rw[af (λz=>by rw[z,(k _ _ (λz=>h.nd (.tail _ z)) h.5)]at e;exact n _ (c_ e).symm)];exact e
 exact(ne (lst h.1 h.8) nofun,(h.heads.1,λi a x j p=>ne (tup (h.heads.2 i a x j p)) nofun),h.3,T1.via λb o q _ e=>by
  rw[af (show b≠S.3 from λz=>h.nd ?x)];exact e,ae,λr m=>(ne (lst (c r m).1 (c r m).2) nofun,(c r m).2),f,h.8,by exact d ▸ h.9)
theorem nJ(Am ll:a_)(i:b8)(B:U aU)(fs:U (PM->PM)):FP Am ll (cS i B fs)=FP Am ll B:=by
 delta FP
 rw[xH (pk i B fs)]
theorem F9.good{g:U V}(h:F9 hs B u Ao rows)(a:lI hs g):gA B g=bm:=by
 delta gA
 rw[dg (by simp only[a.1,h.1]),Hv,dv];rintro⟨q,x⟩ b;let(i,c):=ez b;let(b,d):=gp.mp c;have c:=ag (show i<?lhs by exact h.1 ▸ (bg.mp b).1);rw[Mw (h.kin i _ q c b)];exact a.2.2 i _ x c d
theorem F9.okp(h:F9 hs B u Ao rows)(a:Ao<=60):∀q∈B,q.2.2.ok/\q.2.2.col.length=?lu:=λq a=>(PM.okN_ok (h.ok q a).1 ?l,(h.ok q a).2)
theorem mr.sameOf(s:aa H Ai)(k:mr L Ai An)(a:∀b∈L,H b=bd):aa H An:=λb o e=>k b o (λz=>by grind) (s b o e)
inductive Pd(K:bI)(t:Ad)(a:U V)(H:Hp)(Q:VK)(_E:XK):Prop
 |i(p l:a_)(C:U cs)(k:cs)(X:U a_)(hs:U p')(_:a=[.ref p,.int k,.ref l,.int 6])(_:eb K H p (C.map V.int))(_:H l=O (.lst (X.map V.ref)))(_:fg H X hs)(_:LH hs)(_:∀pr A S,aa H A->A pr=O (.tup [.ref S.2,.ref S.3])->bK t A S->S.l=l->S.8=hs->S.g<=6->Q (.ref pr) A)
inductive T_(t:Ad)(H:Hp)(p l Am a:a_)(k:cs)(hs:U p')(i:b8)(σ:St)(A:Hp):Prop
 |i(S:LT)(c d e:b5 V)(_:σ=[O (.ref p),O (.int k),O (.ref l),O (.int 6),O (.ref Am),O (.ref a),c,d,e])(_:aa H A)(_:bK t A S)(_:S.l=l)(_:S.2=Am)(_:S.3=a)(_:S.8=hs)(_:S.g<=i)(_:∀b∈FP S.2 S.5 S.9,H b=bd)(_:H S.3=bd)
def vB[T:Gd]:=cD T.D107 16 (Pd gK gt) λF=>by
 let(Bt,BK,Bp,Bq,Br):=S3;let(Bt,BK,BL,BM,BN):=SO;let(Bt,BK,BO,BP,BQ):=YJ;refine F.o ["_law_script","_law_k","_law_columns_here","_law_most","_law_table","_law_rows","_law_j","_law_row_here","_law_gone"] λAG BK Aq Bt Cf H Cg Q E m h=>?_;let(p,l,C,k,X,hs,Y,Bf,Bu,AH,L,q):=h;have BR:=gB m;refine(_,(ak (aD 4 AG (pK Bq Bp (m.mono ?a) Y T.zfB Br .nil bW (e0 (fw (rq gK) ?r T.gG z5 (e0 ?C)))))
  (ak (aD 5 AG kT)
  (ak (dk ev Y (gO ?r T.eZ (e0 (aq bV (fF.pe m ap (fH ?A ?B)) (aq aT ?E ah)))) (aF 6 AG)
   (ak (aD 7 AG (Ql.pe m ap (aJ ?A (fH (aq aT (aq aT ?B ah) (aq dY ah ?I)) ?C))))
  (ak (uj BR ?H (aX ?G T.a8 BM BL (m.mono ?a) BN .nil bW (e0 (fw (rq gK) ?r T.gG z5 (e0 ?J)))) ?J Y)
  (aj (aI (aE aW (aq bV (fF.pe m ap (fH ?A (aq aT (aq aT ?B ah) (aq dY ah ?I)))) ah) ah) (ak (aD 8 AG (nC gK (aH (kg Y) ?r T.ik qf (e0 ?H)) (aq bV (fF.pe m ap (fH ?A (aq aT (aq aT ?B ah) (aq dY ah ?I)))) (aH j9 ?r T.be z4 (e0 ?H)))))
  (ak (aV (aX ?G T.a8 BP BO (m.mono ?a) BQ .nil bW (e0 ?K)))
  (aj (aV (Oa ?H ?K (Y,Y,Y,Y))))))
   aK)))))
  (aj (ay (bP (fH ?G ?H))))))),?_)
 have AG:=L.2.1;have AI:∀h∈hs,asc h.1/\h.1.length<=1000:=λh AJ=>Yu _ (L.mem AJ).1;refine aM λu d=>(l,1,.inl (eb.of Bu),λv f Am N I AK Bv=>?_)
 have AL:aa H (upd H v (.lst (X.map V.ref))):=aa.new f;have AM:(upd H v (.lst (X.map V.ref))) v=O (.lst (X.map V.ref)):=ae;have BD:=AL _ _ Bu;have AN:=AH.same AL;generalize upd H v (.lst (X.map V.ref))=H4 at AL AM BD AN I AK;have A3:aa H4 (upd (upd H4 N (.own Am)) Am (.ins gt.cTable N [])):=aG (aa.new AK) (by rw[af (fU Bv)];exact I);have AO:(upd (upd H4 N (.own Am)) Am (.ins gt.cTable N [])) Am=O (.ins gt.cTable N []):=ae;generalize upd (upd H4 N (.own Am)) Am (.ins gt.cTable N [])=AG at A3 AO;refine(Am,N,v,X,hs,Y,AO,A3 _ _ AM,AN.same A3,?o,AI,λz=>(by rw[L.good]at z;cases z),λ_ AC pd ll o B TA AQ Bw Bx By BS BU=>(Y,d _ _ ?_));clear d u;have Bz:aa H4 AC:=λb z e=>BU b z (λy=>by rw[y,I]at e;cases e) (A3 _ _ e);have BE:=AL.trans Bz;have w:∀b∈pd::FP Am ll B,H4 b=bd:=λb c=>by
  rcases bG.mp c with rfl |c
  ·exact A3.free By
  rcases bG.mp c with rfl |c
  ·exact I
  rcases bG.mp c with rfl |c
  ·exact A3.free Bx
  let(As,B0,c):=g7.mp c;let(A4,A5,Y):=cv.mp B0;exact A3.free (Bw A4 A5 b c).1
 refine aM λu d J A6=>d _ _ ?_;clear d u;have B4:aa AC (upd AC J (.dK [])):=aa.new A6;have AR:(upd AC J (.dK [])) J=O (.dK []):=ae;generalize upd AC J (.dK [])=BV at B4 AR;have Bg:=BE.trans B4;have P:∀(i:b8)(h:p')(q:aU),hs[i]?=O h->B[i]?=O q->q.2.2=gF h:=λi h A4 R A7=>by
  have:=eG (λl:U PM=>l[i]?) AQ;rw[a',a',R,A7]at this;exact c_ this
 have AS:?lB=?lhs:=by
  have:=eG qT AQ
  rwa[ai,ai]at this
 have BW:bK gt BV (l,Am,J,pd,ll,o,X,hs,B,[],(0),[]):=by
  refine(Bg _ _ Bu,AH.same Bg,L,TA.same B4,AR,nofun,(AS,λi h A4 R A7=>?_,λA4 A5=>?_,qs,nofun,b2 _,Y,nofun,λi j r A4 e=>(by cases e)),λz=>?_,λz=>?_)
  ·rw[P i h A4 R A7,gF];by_cases e:h.2 = "word"
   ·rw[d6 e,dg e];rfl
   ·rw[du e,c4 e];rfl
  ·let(i,B5):=ez A5;rw[P i _ A4 (ag (by rw[<-AS];exact (bg.mp B5).1)) B5,gF]
   split
   ·exact((Y,by delta inR;intros;contradiction,b2 _,GQ),Y)
   ·exact(Y,Y)
  ·have:=w ll (.tail _ (.tail _ (.head _)));rw[<-show l=ll from z,BD]at this;cases this
  ·have:AC J≠bd:=by
    rcases bG.mp z with y |z
    ·rw[show J=pd from y,TA.2];nofun
    rcases qz TA z with y |⟨_,_,_,y⟩ |⟨_,y⟩
    ·rw[show J=ll from y,TA.3];nofun
    ·rw[y];nofun
    ·rw[y];nofun
   exact this A6
 have I:=fi (mix C k) (b:=7) ?a;have I:=fl (mix C k) (b:=7) ?a;refine(p,C,k,Y,Bg.seq Bf,_,1,Y,_,1,Y,?a,1,?_,?_,?_)
 ·omega
 ·omega
 obtain⟨n,I,P⟩:∃n:b8,mix C k % (6+1)=n/\n<=6:=((mix C k % 7).toNat,?o,?o)
 rw[I,e4];refine⟨oK (T_ gt H p l Am J k hs) (_,bd,bd,bd,Y,Bg,BW,Y,Y,Y,Y,b2 _,λb c=>AL.free (w b (.tail _ c)),BE.free A6) ?_ ?_⟩
 ·rintro i σ BX B5 ⟨S,BY,BZ,Ca,rfl,Bh,D,rfl,rfl,rfl,rfl,Bi,Bj,AD⟩;have BF:=D.lh.2.1;have AT:=D.fit.6;refine aM λu d=>?_;refine(_,1,Y,_,1,Y,.inl (?a,?a),_,1,Y,p,S.l,C,_,S.7,S.8,Y,Bh.seq Bf,D.1,D.2,D.lh.2.1,λlr g Bk w A8 BG Bl=>d _ _ ?_);clear d u;have Bm:=D.same w;have B6:=Bh.trans w;let(N,AU):=Bm.tab.1;refine aM λu d=>(S.2,N,1,AU,Y,lr,1,.inl (eb.of BG),λv f=>?_)
  have x:aa Bk (upd Bk v (.lst g)):=aa.new f;have A9:(upd Bk v (.lst g)) v=O (.lst g):=ae;generalize upd Bk v (.lst g)=w at x A9;have s:=Bm.same x;refine(S.2,S.4,S.5,S.o,_,S.9,S.10,S.g,v,g,Y,s.4,A9,(λz=>by rw[z,Bm.tab.3]at f;cases f),Bl.2.1,by rw[Bl.1];omega,by rw[s.fit.1];omega,?o,s.fit.okp ?o,λ_ AA K AV=>?_,λz=>(by rw[s.fit.good Bl]at z;cases z));have AW:AA S.3=_:=K _ _ (λz=>s.nd (.tail _ z)) s.5;have B7:lr≠S.5:=λz=>by rw[z,D.tab.3]at A8;cases A8
  have AX:(S.g:cs)∉S.10:=λz=>by have:=s.fit.bel _ z;omega
  have G:=s.step K (nJ ..) AV (s.fit.put (lr:=lr) ?o Bl) λr m=>by
   rcases ek.mp m with y |y
   ·exact s.rows r y
   ·rw[d4.mp y];exact(x _ _ BG,B7)
  have AE:aa H (upd AA S.3 (.dK (bZ (S.10++[(S.g:cs)]) (S.12++[(zzq lr g)])))):=λb o e=>by
   rw[af (show b≠S.3 from λz=>by rw[z,AD]at e;cases e)];exact mr.sameOf (B6.trans x) K Bj b o e
  rw[OC s.fit.7]at G AE;refine(S.3,1,.inl (_,.inl (O (S.g:cs)),AW,Y,?_,Y),d _ _ ?_)
  ·have:(bZ S.10 S.12).length<=?lS.living:=by
    rw[bZ,ai,hF];exact Nat.min_le_left ..
   exact bJ ?o
  rw[mW _ (z8 AX)];clear d u AW AV K s A9 x f AU Bm A8 D AX;generalize upd AA S.3 (.dK (bZ S.10 S.12++[(zzq (.inl (O (S.g:cs))) (.ref lr))]))=A at G AE;obtain⟨a,Bn⟩:∃a:LT,a={ S with ps:=cS ?lS.ps S.9 (g.map PM.put),living:=S.10++[(S.g:cs)],g:=S.g+1,rows:=S.12++[(lr,g)] }:=⟨_,Y⟩
  rw[<-Bn]at G;have B8:∀b∈FP a.2 a.5 a.9,H b=bd:=by rw[Bn];intro b c;exact Bj b (by have c:=c;rwa[nJ]at c)
  have R:a.2=S.2/\a.3=S.3/\a.l=S.l/\a.8=S.8/\a.g=S.g+1/\0<?la.living:=by rw[Bn];exact(Y,Y,Y,Y,Y,?s)
  let(R,A7,BH,BI,Cb,w):=R;rw[<-R,<-A7,<-BH,<-BI];rw[<-A7]at AD;have w:a.g<=6:=?o
  have Bi:a.g<=i+1:=?o
  clear Bn R A7 BH BI Cb Bj AT BF;refine(_,1,Y,_,1,Y,.inl (?a,?a),_,1,Y,p,C,1,AE.seq Bf,_,1,Y,?a,Y,1,?_);generalize decide (V.int (mix C (k+4+4 * (0+(i:cs))) % 5)=V.int 0)=Cc;cases Cc with
  |false=>exact ao (a,_,_,1,AE,G,Y,Y,Y,Y,Bi,B8,AD)
  |true=>
  have AT:=G.fit.6;have BF:=G.lh.2.1;have B9:=G.fit.7;refine aA (aM λu d=>(a.3,a.10,a.rows.map (λr:a_×U V=>V.ref r.1),Y,G.5,by rw[ai,B9],G.fit.ris.imp k7,?o,λAF f=>?_));have M:aa A (upd A AF (.lst (a.living.map V.int))):=aa.new f;have AY:(upd A AF (.lst (a.living.map V.int))) AF=O (.lst (a.living.map V.int)):=ae;show Ez _ _ _ _ (upd A AF (.lst (a.living.map V.int))) _;generalize upd A AF (.lst (a.living.map V.int))=w at M AY;have LE:=G.same M;have BJ:(bZ a.10 a.12).length=?la.living:=by rw[bZ,ai,hF,ai,B9,Nat.min_self]
  obtain⟨j,AZ,Bo⟩:∃j:b8,j<?la.living/\mix C (k+3+4 * (0+(i:cs))) % ((bZ a.10 a.12).length:b8)=j:=by
   rw[BJ];have AU:=fi (mix C (k+3+4 * (0+(i:cs)))) (b:=(?la.living:cs)) ?o;have BB:=fl (mix C (k+3+4 * (0+(i:cs)))) (b:=(?la.living:cs)) ?o;exact((mix C (k+3+4 * (0+(i:cs))) % (?la.living:cs)).toNat,?o,?o)
  refine(_,1,Y,_,1,Y,.inl (?a,?a),_,1,Y,p,C,1,(AE.trans M).seq Bf,a.3,1,LE.5,_,1,Y,?_,AF,_,_,.int a.10[j],Y,Y,eb.of AY,?_,d _ _ ?_)
  ·show (0:cs)<((bZ a.10 a.12).length:b8);rw[BJ];omega
  ·rw[Bo];exact cf (by rw[a',ag AZ];rfl)
  clear d u;have BC:=ag AZ;have AJ:=d1 AZ;have Bo:a.living.idxOf a.10[j]=j:=by
   have BB:=e5 AJ;exact (FG (h₀:=BB) (h₁:=AZ) (LE.fit.ris.imp Int.ne_of_lt)).mp (n6 BB)
  generalize a.10[j]=Z at BC AJ Bo;let(N,AU):=LE.tab.1;refine aM λu d=>(a.2,N,1,AU,Y,a.2,a.4,a.5,a.o,_,a.9,a.10,a.g,Z,Y,LE.4,by rw[LE.fit.1];omega,?o,LE.fit.okp ?o,λz=>cx AJ z,λ_ Ba AB Bb=>d _ _ ?_)
  clear d u;rw[Bo]at Bb;have Bd:Ba a.3=_:=AB _ _ (λz=>LE.nd (.tail _ z)) LE.5;have Cd:=LE.step AB (nJ ..) Bb (LE.fit.drop AZ) λr m=>LE.rows r (hL m);have Ce:aa H (upd Ba a.3 (.dK (bZ (a.living.eraseIdx j) (a.rows.eraseIdx j)))):=λb o e=>by
   rw[af (show b≠a.3 from λz=>by rw[z,AD]at e;cases e)];exact mr.sameOf (AE.trans M) AB B8 b o e
  refine(a.3,Y,.inl (_,.inl Bd),_,.inl (O Z),_,Bd,Y,pS LE.fit.4 BC (ag (show j<?la.rows by omega)),?_);rw[z7 LE.fit.4 B9 BC];exact(_,_,_,1,Ce,Cd,Y,Y,Y,Y,Bi,λb c=>B8 b (by have c:=c;rwa[nJ]at c),AD)
 ·rintro σ BX ⟨S,BY,BZ,Ca,rfl,Bh,D,rfl,rfl,rfl,rfl,Bi,Bj,AD⟩;exact(av Y,λpr Be=>q pr _ S (aG Bh Be) ae (D.same (aa.new Be)) Y Y ?o)
inductive Uh(a:U V)(H:Hp)(Q:VK)(_E:XK):Prop
 |i(v:V)(_:a=[v])(_:KQ id v H Q)
def vD[T:Gd]:=cD T.D92 1 Uh λF=>by
 refine F.o ["value"] λc b Aq a s H d Q E f h=>?_;let(v,Y,k):=h;refine(_,(aj (ay (cT (aE c7 ?A a9) (bP (fH ah ah)) (bP (fH ah ?A))))),?_);refine(Y,1,?_);by_cases e:v = .non
 ·subst e;exact aA (?a,λp n=>k p _ (aa.new n) ae)
 ·refine dF e (av Y,λp n=>k p _ (aa.new n) ?_);rw[ae,G5];cases v <;> first |rfl |exact cx Y e
inductive Xc(t:Ad)(i j:b8)(E:XK)(σ:St)(H:Hp)(Q:VK):Prop
 |i(Am:a_)(C:U c3)(B:U aU)(u:U cs)(kd:c3->eg)(z:c3)(_:σ[i]?=O (O (.ref Am)))(_:σ[j]?=O (O (.str z)))(_:Ey t H Am C B u kd)
  (_:∀p∈B,aR C B z=O p.2.2->∀l A,aa H A->H l=bd->A l=O (.lst p.2.2.cells)->Q (.ref l) A) (_:z∉C->E (.ref t.eNoColumn) bd H)
theorem pM{Aj:Cx}{o:f3}{s v:FF}{w:HS eg}(T:Txt Aj.K Aj.4 gt)(y:gW Aj.1 Aj.w Aj.K Aj.4 Aj.5 r_ 11 gt.cColumn "told" ["self"] (Mx gt))(CW:gW Aj.1 Aj.w Aj.K Aj.4 Aj.5 r_ 12 gt.cWordColumn "told" ["self"] (MH gt))(G:aZ 12 Aj.A)(b:PE Aj o (qd gt.cTable "part" (MD gt) [] E (cn i) (fe (cn j) fD)))(J:zzp (eval (.Call (.Attribute o "told" v) [] [] s) Aj.10=(do
   let ov <-eval o Aj.10
   pU v.atName
   let (zzq f first) <-ms [ov] (sA ov "told" w)
   uF s f first (gx s (cH [] Aj.10)) (n1 s (j2 [] Aj.10)))) zz0):PE Aj (.Call (.Attribute o "told" v) [] [] s) (Xc gt i j E):=by
 let(s,A,v,w,x):=y;let(s,K,y,A,D):=CW;refine λs K σ H Q L h=>PE.alt (dZ b T.c9 w v (G.mono ?a) x .nil ap J) (dZ b T.db A y G D .nil ap J) s K σ H Q L ?_;let(Am,C,B,u,kd,z,v,w,s,k,y):=h;let(pd,ll,o,P,TA):=s.1;let(N,x):=TA.1;rcases s.pm z with⟨m,_⟩ |⟨p,b,e,_,m,only⟩
 ·exact .inl (_,v,Am,N,1,x,Y,_,w,Am,pd,ll,o,C,B,u,P,z,Y,TA,s.2,λi q e=>cx (a0 e) m,y)
 have k:=k p b e;let(ok,_):=s.ok p b;have at':=TA.par.1 p b;let(a,As,pm):=p;cases pm with
 |num g=>
  let((A,D),_):=at';exact .inl (_,v,Am,N,1,x,Y,_,w,Am,pd,ll,o,C,B,u,P,z,Y,TA,s.2,λi q b y=>only i q b y ▸ (a,A,1,D,Y,a,g,Y,(A,D),ok,k),λn=>cx m n)
 |wrd I g=>
  let(c,d,W,_):=at';let((A,D),_):=id W;exact .inr (_,v,Am,N,1,x,Y,_,w,Am,pd,ll,o,C,B,u,P,z,Y,TA,s.2,λi q b y=>only i q b y ▸ (a,A,1,D,Y,a,c,d,I,g,Y,W,ok.1,ok.2.1,k),λn=>cx m n)
noncomputable def ltB(b:eg)(J:U V)(i j:b8):eg:=if b=bm then o3 (J.getD j .non) (J.getD i .non) else o3 (J.getD i .non) (J.getD j .non)
inductive Ord(b:eg)(J:U V)(ix:U b8):Prop
 |i(_:ix.Perm (da ?lJ))(_:ix.Pairwise (C3 (ltB b J)))
noncomputable def wCs(J:U V):V->V
 |.int i=>J.getD ?ii .non
 |_=>.non
theorem sx{l:U α}{d:α}(h:i<?ll):l.reverse.getD i d=l.getD (?ll - 1 - i) d:=by
 rw[bb,bb,Eu h]
theorem Zc{b:eg}(h:F8 b (wCs J) ((da ?lJ).map λi=>.int (i:b8)) Ap):∃ix:U b8,Ap=(ix.map λi=>V.int (i:b8))/\Ord b J ix:=by
 let(ix,Y,pm,a):=h;rw[ai,dV]at pm;have c:((da ?lJ).map λi=>V.int (i:b8)).map (wCs J)=J:=tx ?s λi f d=>by simp[wCs,d]
 have e:∀{i},i<?lJ->((da ?lJ).map λi=>V.int (i:b8)).getD i .non = .int (i):=λ{i} h=>by simp[ h]
 have lt:∀{i},i∈ix->i<?lJ:=λm=>el.mp (pm.mem_iff.mp m);cases b with
 |false=>
  refine(ix,f6 λi m=>e (lt m),pm,?_);have a:ix.Pairwise (C3 λi j=>o3 ((((da ?lJ).map λi=>V.int (i:b8)).map (wCs J)).getD i .non) ((((da ?lJ).map λi=>V.int (i:b8)).map (wCs J)).getD j .non)):=a;rw[c]at a;exact a
 |true=>
  have a:ix.Pairwise (C3 λi j=>o3 ((((da ?lJ).map λi=>V.int (i:b8)).reverse.map (wCs J)).getD i .non) ((((da ?lJ).map λi=>V.int (i:b8)).reverse.map (wCs J)).getD j .non)):=a;rw[pp,c]at a;refine((ix.map λi=>?lJ - 1 - i).reverse,?_,?_,?_)
  ·show (ix.map λi=>((da ?lJ).map λi=>V.int (i:b8)).reverse.getD i .non).reverse=_;rw[pp,d_];refine eG _ (f6 λi m=>?_);have:=lt m;rw[sx (by simpa using this),ai,dV,e ?o];rfl
  ·refine (F6 _).trans ((pm.map _).trans ?_);rw[show (da ?lJ).map (λi=>?lJ - 1 - i)=(da ?lJ).reverse from tx ?s λi f d=>?s];exact F6 _
  ·refine Ex.mpr (o2.mpr (a.imp_of_mem λ{i j} a c h=>?_));have d:=lt a;have a:=lt c;simp only[C3,sx d,sx a]at h;exact(h.1,h.2.imp id λ_=>?o)
inductive uJ(t:Ad)(a:U V)(H:Hp)(Q:VK)(E:XK):Prop
 |i(Am:a_)(C:U c3)(B:U aU)(u:U cs)(kd:c3->eg)(z:c3)(b:eg)(_:a=[.ref Am,.str z,.bl b])(_:Ey t H Am C B u kd)(_:?lu<=6)(_:nf t H)(_:∀p∈B,∀x∈p.2.2.cells,∀y∈p.2.2.cells,ro x y)
  (_:∀p∈B,aR C B z=O p.2.2->∀l A ix,RT t H A->A l=O (.lst (ix.map λi=>.int (u.getD i 0)))->Ord b p.2.2.cells ix->Q (.ref l) A) (_:z∉C->E (.ref t.eNoColumn) bd H)
def Ph(x z:V)(H:Hp)(Q:VK)(_E:XK):Prop:=∃(i:b8)(a:a_)(J:U V),x = .int i/\z = .ref a/\H a=O (.lst J)/\i<?lJ/\KQ (wCs J) x H Q
theorem NU:(["place","self"]:U c3).Nodup:=?k
def RB[T:Gd]:=Mp (c:=tu gP gw) T.D93 14 (uJ gt) λF=>by
 let(c,n,G,M,I):=lG;refine F.o ["self","name","falling","values","places"] λc Aq d A3 H n Q E s h=>?_;let(Am,C,B,u,kd,z,b,Y,n,L,R,K,k,g):=h;refine(_,(ak (aD 3 c (pM T.toTxt iR nB (s.mono ?a) (aX (pv 0) T.a8 M G (s.mono ?a) I .nil bF (e0 (pv 1)))))
  (ak (aD 4 c (ZV Y ?r T.gG ?r T.eZ (aH (bR gK) ?r T.be z4 (e0 ?E))))
  (ak (aI (bY ?C) (aj (aD 4 c (NO ?r T.ik (e0 ?G) (kU Y Y F.2 T.B))))
   (aj (aD 4 c (zr ?r T.ik (e0 ?G) (kU Y Y F.2 T.B)))))
  (aj (ay (bf (Ae:=["place","self"]) (fr:=[bd,O 0]) (ba ?G) (λAk As A3 H=>(aF 0 NU,bh,(nC gK (bp gK ?B Y) ?A))))))))),?_)
 refine aM λM G=>(Am,C,B,u,kd,z,Y,Y,n,λp c M D Ai I _ f=>G _ _ ?_,g)
 have k:=k p c M;have K:=K p c;have X:=(iC p.2.2).trans (n.ok p c).2;generalize p.2.2.cells=J at *;refine aM λG c=>(D,1,.inl (eb.of f),?lJ,Y,?o,λA5 An w _ A6=>c _ _ ?_)
 have G:=I.trans w;have g:=R.same G;refine aM λM I=>?_;have fin:∀q H3 Ap,RT gt An H3->H3 q=O (.lst Ap)->F8 b (wCs J) ((da ?lJ).map λi=>.int (i:b8)) Ap->M [O (.ref Am),O (.str z),O (.bl b),O (.ref D),O (.ref q)] H3:=λq H3 Ap c A4 L=>I _ _ <| by
  let(ix,Y,M):=Zc L;let(pd,ll,o,P,TA):=n.1;let(N,f):=TA.1;have f:=c.keep g (G _ _ f) nofun;have I:=c.keep g (G _ _ TA.3) nofun;have n:=M.1.length_eq;rw[dV]at n;have R:∀i∈ix,i<?lu:=λi m=>X ▸ el.mp (M.1.mem_iff.mp m);refine(q,Y,(_,eb.of A4),eC (ys:=ix) (G:=λi=>.int (i:b8)) (λi=>.int (u.getD i 0)) (eb.of A4) ?o (λ_ i X A A7 n y=>(Wk.set Y,Am,_,N,_,1,n _ _ f,T.a8,T.fk,Y,ll,_,_,.int (u.getD i 0),Y,Y,eb.of (n _ _ I),cf ?_,y _ (.refl _))) λp A n Z _=>k p _ ix ((RT.of G).trans (c.trans (.of n))) Z M);rw[a',bb,ag (R i (a0 X))];rfl
 cases b
 all_goals first
  | (refine(1,ao (g _ (gf gt 5),λH3 l G M kt LH=>?_));have c:=kZ (gf gt 5) kO G kt)
  | (refine(1,aA (g _ (gf gt 4),λH3 l G M kt LH=>?_));have c:=kZ (gf gt 4) kO G kt)
 all_goals
  let(pm,A7,G,R,A4):=LH;refine(A5,l,_,wCs J,Y,Y,eb.of (c.keep g A6 nofun),by rw[ai,dV];omega,?_,λG A8 A7=>?_,λq H4 Ap n _ Z L=>fin q H4 Ap (c.trans (.of n)) Z L)
  ·intro x G y L;let(i,n,Y):=cv.mp G;let(j,G,Y):=cv.mp L;have gt:∀i∈da ?lJ,wCs J (.int (i:b8))∈J:=λi m=>by
    show J.getD i .non∈J;rw[bb,ag (el.mp m)];exact d1 _
   exact K _ (gt i n) _ (gt j G)
  ·have K:=lY (Ab:=gP) (w:=gw) (K:=gK) (mg:=gm) (base:=gb) R "place" 2 Ph ?S uq (λAq d A3 H v z Q E s h=>?T.B) (λG M=>match G,M with |[_],_=>rfl)
   case S=>exact(Y,Y,Y,?a,Y,?a,.inl (Y,λ_ _=>rfl))
   case T.B=>
    let(i,a,J,Y,Y,M,X,G):=h;refine(_,vD.pe s ap (e0 (nC gK ?B ?A)),?_);exact(a,_,_,J.getD i .non,Y,Y,eb.of M,cf (by rw[bb,ag X];rfl),1,G)
   refine U_ (i:=3) (v:=.ref D) K.1 K.2 (s.mono ?a) A7 Y Y Y Y Y λx m A Av Aw Q E M d L X G=>?_;let(i,n,Y):=cv.mp m;have K:=λo=>aa.new (o:=o) d;refine(_,_,Av,Aw,Y,(K _ _ _ (M _ _ R),x0.same (x0.same A4 M) (K _)),ae,L,X,i,D,J,Y,Y,?_,el.mp n,λa A3 s I Z=>?_)
   ·have e:=M _ _ (c.keep g (w _ _ f) nofun);rw[cB (aC e d),af (aC e d)];exact e
   ·refine G a _ (pV s ae) ?_;rw[af (aC I Z)];exact I
inductive sG:V->Prop
 |n:sG .non
 |i(i:cs):sG (.int i)
 |s(z:c3):sG (.str z)
theorem sG.sc{y:V}(a:sG x)(b:sG y):y1 x y=bm:=by cases a <;> cases b <;> rfl
theorem iB(p:PM)(j:b8):sG (p.cells.getD j .non):=by
 rw[bb];cases e:p.cells[j]? with
 |none=>exact .n
 |some x=>
  have m:=a0 e;cases p with
  |num g=>let(o,_,Y):=cv.mp m;cases o <;> constructor
  |wrd I g=>let(o,_,Y):=cv.mp m;cases o <;> constructor
noncomputable def Iw(J:U V)(lv:U cs)(cs2:U V)(lv2:U cs)(i:b8):U (cs×cs):=if J.getD i .non = .non then [] else ((da ?llv2).filter λj=>decide (cs2.getD j .non=J.getD i .non)).map λj=>(zzq (lv.getD i 0) (lv2.getD j 0))
noncomputable def GY(J:U V)(lv:U cs)(cs2:U V)(lv2:U cs)(n:b8):U (cs×cs):=(da n).flatMap (Iw J lv cs2 lv2)
theorem sS(J:U V)(lv:U cs)(cs2:U V)(lv2:U cs)(n:b8):GY J lv cs2 lv2 (n+1)=GY J lv cs2 lv2 n++Iw J lv cs2 lv2 n:=by rw[GY,GY,hr];simp
theorem sR(J:U V)(lv:U cs)(cs2:U V){lv2:U cs}(h:?llv2<=6):∀n,(GY J lv cs2 lv2 n).length<=n * 6
 |0=>b2 _
 |n+1=>by
  have:=sR J lv cs2 h n;have:(Iw J lv cs2 lv2 n).length<=6:=by
   rw[Iw]
   split
   ·exact ej _
   ·rw[ai];exact ce (eu _ _) (by rw[dV];exact h)
  rw[sS,cc];omega
noncomputable def pT(p:cs×cs):U V:=[.int p.1,.int p.2]
inductive p6(t:Ad)(g:U V)(H:Hp)(Q:VK)(E:XK):Prop
 |i(Am d:a_)(C:U c3)(B:U aU)(u:U cs)(kd:c3->eg)(b:U c3)(c:U aU)(a:U cs)(e:c3->eg)(z f:c3)(_:g=[.ref Am,.str z,.ref d,.str f])(_:Ey t H Am C B u kd)(_:Ey t H d b c a e)(_:?lu<=6)(_:?la<=6)
  (_:∀p∈B,aR C B z=O p.2.2->∀d∈c,aR b c f=O d.2.2->∀l X A,aa H A->A l=O (.lst (X.map V.ref))->ny A X ((GY p.2.2.cells u d.2.2.cells a ?lu).map pT)->Q (.ref l) A) (_:z∉C->E (.ref t.eNoColumn) bd H) (_:f∉b->∀A,aa H A->E (.ref t.eNoColumn) bd A)
theorem yF:(["their_value","their_number","number","value"]:U c3).Nodup:=?k
def OJ[T:Gd]:=cM T.D95 14 (p6 gt) λF=>by
 let(v,f,M,R,S):=lG;let(v,f,D,G,I):=Xf;refine F.oX ["self","name","other","theirs","values","others","pairs","number","value"] λg f Aq w A3 H K Q E v h=>?_;let(Am,d,C,B,u,kd,m,s,c,w,z,A7,Y,K,f,A5,AB,k,A4,L):=h;refine(_,(ak (aD 4 g (pM T.toTxt iR nB (v.mono ?a) (aX (pv 0) T.a8 R M (v.mono ?a) S .nil bF (e0 (pv 1)))))
  (ak (aD 5 g (V8 gK Y ?r T.gG ?r T.iJ (fH (pM T.toTxt iR nB (v.mono ?a) (aX (pv 2) T.a8 R M (v.mono ?a) S .nil bF (e0 (pv 3)))) (dZ ?C T.a8 G D (v.mono ?a) I .nil ap))))
  (ak (aD 6 g (bO dJ))
  (ak (PS.nox (dk ev Y (mQ gK ?r T.iJ (fH (bp gK ?A Y) ?G)) (dA gK (n:=2) Y (bv (aF 7 g) (bv (aF 8 g) dB)))
   (aj (aI (aE kQ ?K a9) (aj (aV (bX gK d2 n_ n' tK ?I (e0 (bf (Ae:=["their_value","their_number","number","value"]) (fr:=[bd,bd,O 7,O 8]) (ba ?H) (λAk As A3 H=>(dA gK (n:=2) Y (bv (aF 0 yF) (bv (aF 1 yF) dB)),(gQ (aE aW ?A ?E)),(bP (fH ?C ?B)))))))))
   aK))))
  (aj (ay ?I)))))),?_)
 refine aM λv g=>(Am,C,B,u,kd,z,Y,Y,K,λp v I A8 Ai M R AC=>g _ _ ?_,A4)
 have k:=k p v I;have g:=(iC p.2.2).trans (K.ok p v).2;have AD:=iB p.2.2;generalize p.2.2.cells=J at *;have f:Ey gt Ai d m s c w:=f.via λb o _ e=>M b o e;let(pd,ll,o,P,TA):=K.1;let(K,S,AE,g,v):=f.1;let(A3,AF):=v.1;refine aM λD A4=>(d,m,s,c,w,A7,Y,Y,f,λD G A5 lv An A6 AA AG=>?_,λA9=>L A9 _ M)
 have k:=k D G A5;have L:=(iC D.2.2).trans (f.ok D G).2;have A5:=iB D.2.2;generalize D.2.2.cells=cs2 at *;refine(d,A3,1,A6 _ _ AF,Y,d,K,S,AE,m,s,c,g,Y,v.same A6,λD H3 f AI G=>(lv,D,cs2,c.map V.int,Y,eb.of (f _ _ AG),eb.of G,by rw[ai];omega,λlo X H4 w AJ A9 AH AA=>A4 _ _ ?_));have v:=(A6.trans f).trans w;have w:=M.trans v;refine(av Y,λpr f=>?_);have m:aa H4 (upd H4 pr (.lst [])):=aa.new f;have K:(upd H4 pr (.lst [])) pr=O (.lst []):=ae;have g:∀b o,H b=O o->upd H4 pr (.lst []) b=O o/\b≠pr:=λb o e=>(m _ _ (w _ _ e),aC (w _ _ e) f)
 let(N,M):=TA.1;have w:=v _ _ AC;have no:=aC A9 f;have R:=aC w f;have AC:∀{j a x},X[j]?=O a->(cs2.zip (c.map V.int))[j]?=O x->a≠pr:=λv s=>aC (AA _ _ _ v s) f;refine(Am,_,N,_,1,(g _ _ M).1,T.a8,T.fk,Y,ll,A8,_,1,eb.of (g _ _ TA.3).1,eb.of (m _ _ w),rW (n:=?lu) (λi σ A=>∃(D G:b5 V)(bs:U a_),σ=[O (.ref Am),O (.str z),O (.ref d),O (.str A7),O (.ref A8),O (.ref lo),O (.ref pr),D,G]/\(∀b o,b≠pr->upd H4 pr (.lst []) b=O o->A b=O o)/\A pr=O (.lst (bs.map V.ref))/\ny A bs ((GY J u cs2 c i).map pT)) (bd,bd,[],Y,λb o _ e=>e,K,trivial) ?_ ?_ ?_)
 ·rintro i σ A f ⟨D,G,bs,rfl,kk,_⟩;have v:=eb.of (K:=gK) (kk _ _ (g _ _ TA.3).2 (g _ _ TA.3).1);have s:=eb.of (K:=gK) (kk _ _ R (m _ _ w));refine(λlt=>(_,_,_,_,v,s,by rw[a',ag lt];rfl,ag ?o),λle=>(_,_,v,s,.inl (by simp;omega)))
 ·rintro i x σ M S f ⟨D,G,bs,rfl,kk,Ao,s⟩ ⟨K,d,rfl,v⟩;let(x,y,ex,A3,Y):=v _ _ (eb.of (kk _ _ (g _ _ TA.3).2 (g _ _ TA.3).1)) (eb.of (kk _ _ R (m _ _ w)));obtain rfl:x = .int (u.getD i 0):=by
   rw[a',ag f]at ex;cases ex;rw[bb,ag f];rfl
  obtain rfl:y=J.getD i .non:=by rw[bb,A3];rfl
  have v:=aa.new (o:=.tup [.int (u.getD i 0),J.getD i .non]) d;have A3:=sS J u cs2 c i;refine(K,1,fx.of ae,Y,_,1,_,1,Y,?_);have w:=v _ _ Ao;have d:=s.kt λb Ap e=>v b _ e;have f:=λb o n e=>v b o (kk b o n e);generalize upd M K (.tup [.int (u.getD i 0),J.getD i .non])=S at v w d f ⊢;refine(Y,1,?_);by_cases e:J.getD i .non = .non
  ·refine nF e (_,_,bs,Y,f,w,?_);rw[A3,Iw,d6 e,f2];exact d
  ·rw[c4 e];have K:=sR J u cs2 AB i;rw[<-ai pT,<-s.len]at K;have v:=f _ _ no (m _ _ A9);refine aA (.inl (Y,_,eb.of w),lo,Y,(_,eb.of v),rH (Ap:=da ?lX) (G:=λj=>.ref (X.getD j 0)) (λj=>decide (cs2.getD j .non=J.getD i .non)) (λj=>pT (zzq (u.getD i 0) (c.getD j 0))) (by rw[tq];exact eb.of v) (by rw[dV];omega) (λ_ j M A9 AB Z A7 y z=>?_) λq A4 A6 R A8 S=>?_)
   ·have M:=el.mp (a0 M);have v:X[j]?=O (X.getD j 0):=by rw[bb,ag M];rfl
    have I:(cs2.zip (c.map V.int))[j]?=O (zzq (cs2.getD j .non) (.int (c.getD j 0))):=by
     rw[gp,a',bb,bb,ag (show j<?lcs2 by omega),ag (show j<?lc by omega)];exact(Y,Y)
    have M:=A7 _ _ (f _ _ (AC v I) (m _ _ (AA _ _ _ v I)));exact(X.getD j 0,1,fx.of M,Y,_,1,_,1,Y,(Wk.set Y).trans (Wk.set Y),(A5 j).sc (AD i),1,kF (λe=>(by show 2<=bT;decide,λb K=>y e b _ (.refl _) K)) λe=>z e _ (.refl _))
   ·rw[AH,L]at S;have v:=R _ _ w;have kt:∀b Ap,A6 b=O (.tup Ap)->upd A6 pr (.lst (bs.map V.ref++A4.map V.ref)) b=O (.tup Ap):=λb Ap e=>by
     rw[af λz=>by rw[z,v]at e;cases e];exact e
    refine(pr,q,_,1,Y,v,A8,?_,_,_,bs++A4,Y,λb o n e=>?_,?_,?_)
    ·have hd:=S.len;rw[ai]at hd;have:=eu (λj=>decide (cs2.getD j .non=J.getD i .non)) (da ?lc);rw[dV]at this;rw[ai,ai,e2];omega
    ·rw[af n];exact R _ _ (f b o n e)
    ·rw[ae,b3]
    ·rw[A3,Iw,du e,b3,d_];exact ny.app (S.kt kt) ((d.kt λb Ap e=>R b _ e).kt kt)
 ·rintro σ A ⟨D,G,bs,rfl,kk,Ao,s⟩;exact k pr bs A (λb o e=>kk b o (g b o e).2 (g b o e).1) Ao s
noncomputable def kC:V->Key
 |.int i=>.inl (O i)
 |.str z=>.inr z
 |_=>.inl bd
theorem ig(h:sG x):kV (kC x)=x:=by cases h <;> rfl
noncomputable def G6(x:Key)(a:U Key):eg:=a.any λy=>decide (y=x)
theorem jH{x:Key}{a:U Key}:G6 x a=bm↔x∈a:=by simp[G6]
noncomputable def mN(l:U Key):U Key:=l.foldl (λa x=>if G6 x a=bm then a else a++[x]) []
theorem lU(l:U Key)(x:Key):mN (l++[x])=if G6 x (mN l)=bm then mN l else mN l++[x]:=by rw[mN,F7];rfl
theorem xE{x:Key}{l a:U Key}:(x∈l.foldl (λa x=>if G6 x a=bm then a else a++[x]) a↔x∈a\/x∈l)/\(l.foldl (λa x=>if G6 x a=bm then a else a++[x]) a).length<=?la+?ll:=by
 induction l generalizing a with
 |nil=>simp
 |cons y l b=>
  rw[ju];by_cases h:G6 y a=bm
  ·rw[d6 h];have r:=@b a;have h:=jH.mp h;refine(r.1.trans (λq=>q.imp id (.tail _),λq=>q.elim .inl λq=>(bG.mp q).elim (λz=>.inl (z ▸ h)) .inr),hq r.2)
  ·rw[du h];have r:=@b (a++[y]);refine(r.1.trans (by simp only[ek,bG,dH,f8,or_assoc]),ce r.2 (by simp;omega))
theorem jK{x:Key}{l:U Key}:x∈mN l↔x∈l:=xE.1.trans ?s
theorem oC(l:U Key):(mN l).length<=?ll:=ce (xE (x:=.inl bd)).2 ?s
def kk(J:U V)(i:b8):Key:=kC (J.getD i .non)
noncomputable def xv(J am:U V)(is:U b8)(Au:Key):U V:=(is.filter λi=>decide (kk J i=Au)).map λi=>am.getD i .non
theorem n9(J am:U V)(is:U b8)(i:b8)(Au:Key):xv J am (is++[i]) Au=xv J am is Au++if kk J i=Au then [am.getD i .non] else []:=by
 rw[xv,xv];by_cases h:kk J i=Au <;> simp[h]
theorem vY{Au:Key}(h:Au∉mN (is.map (kk J))):xv J am is Au=[]:=by
 rw[xv,List.filter_eq_nil_iff.mpr λi m e=>h (jK.mpr (cv.mpr (i,m,eh e)))];rfl
noncomputable def dq:U V->U cs
 |[]=>[]
 |.int i::l=>i::dq l
 |_::l=>dq l
theorem y0:∀(a b:U V),dq (a++b)=dq a++dq b
 |[],_=>rfl
 |x::a,b=>by cases x <;> simp[dq,y0 a b]
theorem y3:∀{l:U V},(∀x∈l,x = .non\/∃i,x = .int i)->(dq l).map V.int=l.filter λx=>!decide (x = .non)
 |[],_=>rfl
 |x::l,h=>by
  have a:=y3 λy m=>h y (.tail _ m);rcases h x (.head _) with rfl |⟨n,rfl⟩
  ·exact a
  ·exact eG (V.int n :: ·) a
noncomputable def gT(J am:U V)(is:U b8)(Au:Key):U V:=[kV Au,.int (xv J am is Au).length,.int (dq (xv J am is Au)).sum]
theorem nf.keep(a:nf t H)(k:∀b o,(∀kvs,o≠.dK kvs)->H b=O o->A b=O o):nf t A:=λe m=>by
 let(B,d,f,h):=a e m;exact(B,k _ _ nofun d,f,h.imp id λ⟨c,a,Av,g,t,j,r⟩=>(c,a,Av,g,t,k _ _ nofun j,r))
inductive Xq(d:Hp)(Ar:a_)(J am:U V)(is:U b8)(H:Hp):Prop
 |i(kvs:U (Key×V))(_:H Ar=O (.dK kvs))(_:kvs.map (·.1)=mN (is.map (kk J)))(_:∀Au z,aO kvs Au=O z->∃a,z = .ref a/\H a=O (.lst (xv J am is Au))/\d a=bd/\a≠Ar)(_:∀Au c z,aO kvs Au=O z->aO kvs c=O z->Au=c)
  (_:∀b o,b≠Ar->d b=O o->H b=O o)
inductive pZ(t:Ad)(c:U V)(H:Hp)(Q:VK)(E:XK):Prop
 |i(Am a:a_)(C:U c3)(B:U aU)(u:U cs)(kd:c3->eg)(q:Tr Wh)(z b:c3)(_:c=[.ref Am,.str z,.ref a,.str b])(_:Ey t H Am C B u kd)(_:bD (LW kd) H a q)(_:nf t H)(_:?lu<=6)(_:∀p∈B,∀x∈p.2.2.cells,∀y∈p.2.2.cells,ro x y)
  (_:∀p∈B,aR C B z=O p.2.2->∀g,aR C B b=O (.num g)->n8 (cW t (aR C B)) t.eBadQuestion 1 q=bd->∀l X A Ap,RT t H A->A l=O (.lst (X.map V.ref))->F8 b1 id ((mN ((eO (q.holds (hW (aR C B))) ?lu).map (kk p.2.2.cells))).map kV) Ap->
   ny A X (Ap.map λy=>gT p.2.2.cells (g.map ov) (eO (q.holds (hW (aR C B))) ?lu) (kC y))->Q (.ref l) A)
  (_:z∉C\/b∉C->∀A,RT t H A->E (.ref t.eNoColumn) bd A) (_:∀I g,aR C B b=O (.wrd I g)->∀A,RT t H A->E (.ref t.eBadQuestion) bd A) (_:∀g,aR C B b=O (.num g)->∀Ak,n8 (cW t (aR C B)) t.eBadQuestion 1 q=O Ak->∀A,RT t H A->E (.ref Ak) bd A)
theorem Ya:(["value","found"]:U c3).Nodup:=?k
theorem Ww:(["amount"]:U c3).Nodup:=?k
def Rb[T:Gd]:=cM T.D94 28 (pZ gt) λF=>by
 let(Bq,Cs,BQ,BR,BS):=lG;let(Bq,Cs,Cp,Cq,Cr):=id iR;let(Bq,Cs,Bj,Bk,Bl):=UH;let(Bm,Bq,Bn,Bo,_,Bp):=vD;refine F.oX ["self","by","where","of","values","summed","amounts","found","place"] λA7 Cs Aq Bq Br H CS Q E G h=>?_;have BU:=gB G;let(Am,a,C,B,u,kd,q,z,AT,Y,A4,c,A5,Bq,Bt,k,BV,Ct,Cu):=h;refine(_,(ak (aD 4 A7 (pM T.toTxt iR nB (G.mono ?a) (aX (pv 0) T.a8 BR BQ (G.mono ?a) BS .nil bF (e0 (pv 1)))))
  (ak (aD 5 A7 (aX ?A T.a8 BR BQ (G.mono ?a) BS .nil bF (e0 ?E)))
  (ak (aI (bY (aH (cJ gK) ?r T.cK z3 (fH ?H (dj T.oP)))) (aj (cU cY T.jX Y ?r T.i5 (e0 au)))
   aK)
  (ak (aD 6 A7 (dZ ?H T.c9 Cq Cp (G.mono ?a) Cr .nil ap))
  (ak (aD 7 A7 kT)
  (ak (dk B3 Y (ba (aX ?A T.a8 Bk Bj (G.mono ?a) Bl .nil bF (e0 ?C))) (aF 8 A7)
   (aj (aV (bX gK d2 eH eL gE (bX gK o1 my m0 tL ?J (fH (nC gK ?G ?K) (bO dJ))) (e0 (nC gK ?I ?K))))))
  (aj (ay (bf (Ae:=["value","found"]) (fr:=[bd,O 7]) (ba (zr ?r T.ik (e0 (fw (oq Y) ?r T.gG z5 (e0 ?J))) (dj Bo))) (λAk As Br H=>(aF 0 Ya,bh,(bP (aJ ?A (fH (aH (bR gK) ?r T.be z4 (e0 (fX BU ?B ?A (λ_ _=>rfl)))) (aH (Rm gK Y) ?r T.zjs qn (e0 (bf (Ae:=["amount"]) (fr:=[bd]) (OF gK (fX BU ?B ?A (λ_ _=>rfl))) (λAk As Br H=>(aF 0 Ww,(gQ (aE kQ ?A a9)),?A))))))))))))))))))),?_)
 refine aM λA7 Cv=>(Am,C,B,u,kd,z,Y,Y,A4,λp A8 A7 Bu Ai AU BW Cw=>Cv _ _ ?_,λBv=>BV (.inl Bv) _ (RT.refl _ _))
 have k:=k p A8 A7;have BX:=(iC p.2.2).trans (A4.ok p A8).2;have BY:=iB p.2.2;have Bt:=Bt p A8;generalize p.2.2.cells=J at *;have A9:Ey gt Ai Am C B u kd:=A4.via λb o _ e=>AU b o e;let(pd,ll,o,P,TA):=A9.1;let(N,Cy):=TA.1;refine aM λA7 Bw=>(Am,N,1,Cy,Y,Am,pd,ll,o,C,B,u,P,AT,Y,TA,A9.2,λi A7 K D=>Bw _ _ ?_,λBv=>BV (.inr Bv) _ (.of AU))
 have A9:=a0 D;have M:aR C B AT=O A7.2.2:=by
  rcases A4.pm AT with⟨n,_⟩ |⟨_,_,e,_,_,only⟩
  ·exact cx (a0 K) n
  ·rw[only i A7 K D];exact e
 have AA:=TA.par.1 A7 A9;have AB:=A4.ok A7 A9;let(Bx,A9,By):=A7;cases By with
 |wrd I g=>
  let(_,_,((Bz,AC),_),_):=AA;exact(_,_,1,kE AC T.db T.u5 T.kh T.sO,1,aA (?a,Ct I g M _ (.of AU)))
 |num g=>
  let((Bz,AC),_):=AA;refine(_,_,1,kE AC T.c9 T.uY T.kh T.sN,1,ao ?_);have k:=k g M;dsimp only[lx];refine aM λA7 B0=>(Bx,Bz,1,AC,Y,Bx,g,Y,(Bz,AC),AB.1,λAV An BZ Ca Cz=>B0 _ _ ?_)
  have am:∀j,sG ((g.map ov).getD j .non):=iB (.num g);have B4:(g.map ov).length=?lu:=(iC (.num g)).trans AB.2;have AD:=AU.trans BZ;intro Ar R;have B5:aa An (upd An Ar (.dK [])):=aa.new R;have C0:(upd An Ar (.dK [])) Ar=O (.dK []):=ae;have f:=AD.trans B5;have AE:=A4.via λb o _ e=>f b o e;have A4:∀{b o},An b=O o->b≠Ar:=λe=>aC e R;generalize upd An Ar (.dK [])=H3 at *;let(_,_,_,_,A4):=AE.1;let(B6,C4):=A4.1;refine(Am,B6,1,C4,Y,Am,a,C,B,u,kd,q,Y,AE,c.kt ((RT.of (t:=gt) f).kt A5),A5.same f,λA4 B7 H4 AF AW=>?_,λAk e A r=>Cu g M Ak e A ((RT.of f).trans r));have k:=k A4;have M:=zC (q.holds (hW (aR C B))) ?lu;have AG:∀i∈eO (q.holds (hW (aR C B))) ?lu,i<?lu:=λi AH=>el.mp (en.mp AH).1;generalize eO (q.holds (hW (aR C B))) ?lu=is at *;have M:=AF.2 (A5.same f);have AI:=(RT.of f).trans AF;have AJ:=AF.keep (A5.same f) C0 nofun;have AX:=AF.keep (A5.same f) (B5 _ _ Cz) nofun;have B8:=AF.keep (A5.same f) (B5 _ _ (BZ _ _ Cw)) nofun;have B9:B7≠Ar:=λe=>by rw[e,AJ]at AW;cases AW
  have BB:AV≠Ar:=λe=>by rw[e,AJ]at AX;cases AX
  have C6:Bu≠Ar:=λe=>by rw[e,AJ]at B8;cases B8
  refine(B7,Y,(_,eb.of AW),⟨fQ (K:=gK) (a:=B7) (B:=is.map λi=>.int (i:b8)) (λj σ A=>∃BC:b5 V,σ=[O (.ref Am),O (.str z),O (.ref a),O (.str AT),O (.ref Bu),O (.ref Bx),O (.ref AV),O (.ref Ar),BC]/\Xq H4 Ar J (g.map ov) (is.take j) A) (bd,Y,[],AJ,Y,(λ_ _ e=>by cases e),(λ_ _ _ e=>by cases e),λ_ _ _ e=>e) ?_ ?_ ?_⟩)
  ·rintro j σ A BD ⟨_,rfl,_,_,_,_,_,S⟩;exact eb.of (S _ _ B9 AW)
  ·rintro j x σ A6 BE ⟨BC,rfl,kvs,X,d,AK,AY,S⟩;have BD:j<?lis:=by
    have:=(bg.mp BE).1
    rwa[ai]at this
   have Cb:=ag BD;rw[a',Cb]at BE;cases BE;have AH:=AG _ (d1 BD);have C7:is.take (j+1)=is.take j++[is[j]]:=by rw[ei,Cb];rfl
   rw[C7];generalize is[j]=i at AH ⊢;have AZ:?lkvs<=6:=by
    rw[<-ai (f:=(·.1)),d];refine ce (oC _) ?_;rw[ai,d8];omega
   have C8:(is.take j).length<=6:=by rw[d8];omega
   generalize is.take j=L at *;have gt:∀{l:U V},?ll=?lu->l[i]?=O (l.getD i .non):=λ{l} e=>by rw[bb,ag ?o];rfl
   refine(.inr (.inr (.inl (Y,.inl (_,X)))),Bu,_,_,J.getD i .non,Y,Y,eb.of (S _ _ C6 B8),cf (gt BX),av Y,λq c=>?_);have AL:=aa.new (o:=.lst []) c;have Cc:=AL _ _ X;have BF:(upd A6 q (.lst [])) q=O (.lst []):=ae;have s:=λb o n e=>AL b o (S b o n e);have v:∀Au z,aO kvs Au=O z->∃a,z = .ref a/\(upd A6 q (.lst [])) a=O (.lst (xv J (g.map ov) L Au))/\H4 a=bd/\a≠Ar/\a≠q:=λAu z e=>by
    let(a,K,D,Ba,Cd):=AK Au z e;exact(a,K,AL _ _ D,Ba,Cd,aC D c)
   have Ce:H4 q=bd:=by
    cases e:H4 q with
    |none=>rfl
    |some o=>rw[S q o (λz=>by rw[z,X]at c;cases c) e]at c;cases c
   have BG:q≠Ar:=λz=>by rw[z,X]at c;cases c
   generalize upd A6 q (.lst [])=Bb at *;have ad:∀Au,(xv J (g.map ov) L Au).length<=6:=λAu=>by rw[xv,ai];exact ce (eu _ _) C8
   refine(Ar,kvs,kk J i,.ref q,Y,by rw[kk,ig (BY i)],Cc,λz e=>?_,λe=>(gi AZ ?a,?_))
   ·let(a,Y,K,D,Ba,Cd):=v _ _ e;refine(.inl (Y,_,eb.of K),AV,_,_,(g.map ov).getD i .non,Y,Y,eb.of (s _ _ BB AX),cf (gt B4),a,_,1,Y,K,gi (ad _) ?a,1,kvs,by rw[af (fU Ba)];exact Cc,?_,λAu z h=>?_,AY,λb o n h=>?_)
    ·rw[b3,h5,lU,d6 (jH.mpr (d ▸ Su e))];exact d
    ·let(b,Y,BH,BI,Bd,Be):=v Au z h;rw[n9];by_cases w:kk J i=Au
     ·subst w;rw[e]at h;cases h;exact(a,Y,by rw[ae,d6 Y],D,Ba)
     ·refine(b,Y,?_,BI,Bd);rw[du w,f2,af (show b≠a from λy=>w (AY _ _ _ e (y ▸ h)))];exact BH
    ·rw[af λy=>by rw[y,D]at h;cases h];exact s b o n h
   ·have Cf:kk J i∉mN (L.map (kk J)):=d ▸ uQ e;rw[mW _ e];have Cg:∀{b o},b≠Ar->b≠q->Bb b=O o->upd (upd Bb Ar (.dK (kvs++[(zzq (kk J i) (.ref q))]))) q (.lst ([]++[(g.map ov).getD i .non])) b=O o:=λc Ca h=>by rw[af Ca,af c];exact h
    have eq:(upd Bb Ar (.dK (kvs++[(zzq (kk J i) (.ref q))]))) q=O (.lst []):=by rw[af BG];exact BF
    refine(.inl (Y,_,eb.of eq),AV,_,_,(g.map ov).getD i .non,Y,Y,eb.of (by rw[af BB];exact s _ _ BB AX),cf (gt B4),q,_,1,Y,eq,?a,1,kvs++[(zzq (kk J i) (.ref q))],by rw[af (fU BG),ae],?_,λAu z h=>?_,λAu BJ z h A3=>?_,λb o n h=>Cg n (λy=>by rw[y,Ce]at h;cases h) (s b o n h))
    ·rw[b3,d,b3 (l₁:=L),h5 (f:=kk J),lU,du λy=>Cf (jH.mp y)];rfl
    ·rw[uR _ _ _ _ e]at h;rw[n9];by_cases w:Au=kk J i
     ·rw[d6 w]at h;cases h;exact(q,Y,by rw[ae,w,vY Cf,d6 Y],Ce,BG)
     ·rw[du w]at h;let(b,Y,BH,BI,Bd,Be):=v Au z h;exact(b,Y,by rw[du (fU w),f2];exact Cg Bd Be BH,BI,Bd)
    ·rw[uR _ _ _ _ e]at h A3;have AM:∀{Au},aO kvs Au=O (.ref q)->fP:=λh=>by
      let(b,e,_,_,_,Be):=v _ _ h;cases e;exact Be Y
     by_cases w:Au=kk J i <;> by_cases Bf:BJ=kk J i
     ·rw[w,Bf]
     ·rw[d6 w]at h;rw[du Bf]at A3;cases h;exact (AM A3).elim
     ·rw[du w]at h;rw[d6 Bf]at A3;cases A3;exact (AM h).elim
     ·rw[du w]at h;rw[du Bf]at A3;exact AY _ _ _ h A3
  ·rintro σ A6 ⟨BC,rfl,kvs,X,d,AK,AY,S⟩;rw[ai,dw]at d AK;have AZ:?lkvs<=6:=by
    rw[<-ai (f:=(·.1)),d];refine ce (oC _) ?_;rw[ai];omega
   have ex:(kvs.map λc=>kV c.1)=(mN (is.map (kk J))).map kV:=by rw[<-d,d_];rfl
   have BK:∀x∈(mN (is.map (kk J))).map kV,x∈J/\∃a,aO kvs (kC x)=O (.ref a)/\kV (kC x)=x:=λx m=>by
    let(Au,AN,Y):=cv.mp m;let(i,BL,Y):=cv.mp (jK.mp AN);have e:=ig (BY i);show kV (kC (J.getD i .non))∈J/\∃a,aO kvs (kC (kV (kC (J.getD i .non))))=_/\kV (kC (kV (kC (J.getD i .non))))=kV (kC (J.getD i .non));rw[e,e];refine(?_,?_)
    ·rw[bb,ag (show i<?lJ by rw[BX];exact AG i BL)];exact d1 _
    ·cases h:aO kvs (kC (J.getD i .non)) with
     |none=>exact cx (d ▸ AN) (uQ h)
     |some z=>let(a,Y,_):=AK _ _ h;exact(a,Y,Y)
   refine(Ar,kvs,Y,X,λBg c=>?_);rw[ex];have AL:=aa.new (o:=.lst ((mN (is.map (kk J))).map kV)) c;have BF:(upd A6 Bg (.lst ((mN (is.map (kk J))).map kV))) Bg=O (.lst ((mN (is.map (kk J))).map kV)):=ae;generalize upd A6 Bg (.lst ((mN (is.map (kk J))).map kV))=Bb at *;refine(Bg,Bm,_,id,Y,Y,eb.of BF,by rw[<-ex,ai];exact AZ,λx m y C9=>Bt x (BK x m).1 y (BK y C9).1,λCh Br CB=>P6 Bn Bp (G.mono ?a) CB λx m A Q E CC=>(x,Y,CC),λCD c Ap Bh M Ci BM=>?_);have CF:∀y∈Ap,y∈(mN (is.map (kk J))).map kV:=λy m=>by
    let(ix,Y,pm,_):=id BM;let(i,BL,Y):=cv.mp (show y∈ix.map λi=>((mN (is.map (kk J))).map kV).getD i .non from m);have AH:=el.mp (pm.mem_iff.mp BL);rw[bb,ag AH];exact d1 _
   have c:?lAp<=6:=by
    let(ix,Y,pm,_):=BM;rw[MY,ai,pm.length_eq,dV,<-ex,ai];exact AZ
   have Bh:=AL.trans Bh;have BN:∀{Au},∀x∈xv J (g.map ov) is Au,x = .non\/∃i,x = .int i:=λx m=>by
    let(i,_,Y):=cv.mp m;rw[bb,a'];cases g[i]? with
    |none=>exact .inl Y
    |some o=>cases o <;> first |exact .inl Y |exact .inr ⟨_,Y⟩
   refine(CD,Y,(_,eb.of Ci),rH (Ap:=Ap) (G:=id) (λ_=>bm) (λy=>gT J (g.map ov) is (kC y)) (by rw[hH];exact eb.of Ci) ?o (λj y CG BO CK Z BP Bi _=>?_) λp CN BO BP A8 Cj=>?_)
   ·have AO:=Bh.trans BP;let(_,a,Ck,AQ):=BK y (CF y (a0 CG));let(_,e,AR,_):=AK _ _ Ck;cases e;have hd:d9 BO Ar y (O (.ref a)):=.inl (kvs,kC y,.inl (AO _ _ X),?yAQ,?yCk);have AR:=AO _ _ AR;have B4:(xv J (g.map ov) is (kC y)).length<=6:=by rw[xv,ai];exact ce (eu _ _) ?o
    have Bi:=Bi Y;rw[gT,AQ]at Bi;have BN:=@BN (kC y);generalize xv J (g.map ov) is (kC y)=AS at *;refine(Wk.set Y,tT (Ar,.ref a,Y,hd,a,1,.inl (eb.of AR),Ar,.ref a,Y,hd,a,Y,(_,eb.of AR),iX (ys:=AS) (G:=id) (λx=>!decide (x = .non)) id (by rw[hH];exact eb.of AR) ?o (λ_ x _ Cn CK Z Co y z=>(Wk.set Y,Y,1,kF (λe=>y e _ (.refl _)) λe=>z e _ (.refl _))) λCO Cn Co CP _=>(CO,dq AS,Y,eb.of ?_,by show 3<=bT;decide,λb c=>Bi b Cn Co c)));rw[CP,hH,y3 BN]
   ·rw[nb.mpr λ_ _=>rfl]at Cj;have BW:∀{b o},H b=O o->b≠Ar:=λe=>aC (AD _ _ e) R;have fin:∀b o,b≠Ar->H4 b=O o->BO b=O o:=λb o n e=>Bh.trans BP b o (S b o n e);refine k p CN _ Ap (λb o c e=>fin b o (BW e) (AI.1 b o c e),λd=>(AI.2 d).keep λb o n e=>fin b o (λz=>?_) e) A8 BM Cj;rw[z,AJ]at e;cases e;exact n _ Y
inductive EQ(t:Ad)(Q:VK)(cls:b0)(H:Hp):Prop
 |i(Ak:a_)(z:c3)(_:cls = .ref Ak)(_:(Ak=t.eBadQuestion/\z = "question")\/(Ak=t.eNoColumn/\z = "column"))(_:∀A,aa H A->Q (.str z) A)
def qF(Ay:Sp):Prop:=∀{a H Q E b d},Ay a H Q E->(∀v A,Q v A->b v A)->(∀c A,E c bd A->d c bd A)->Ay a H b d
theorem Rc:qF (uJ gt):=by
 rintro a H Q E a a ⟨Am,C,B,u,kd,z,b,e,a,c,d,f,k,g⟩ j m;exact(Am,C,B,u,kd,z,b,e,a,c,d,f,λp q s l A ix r h o=>j _ _ (k p q s l A ix r h o),λn=>m _ _ (g n))
theorem R6:qF (pZ gt):=by
 rintro b H Q E b b ⟨Am,a,C,B,u,kd,q,z,d,e,f,b,j,m,s,k,v,w,x⟩ y c;exact(Am,a,C,B,u,kd,q,z,d,e,f,b,j,m,s,λp D G g ex J l X A Ap r h K L=>y _ _ (k p D G g ex J l X A Ap r h K L),λn A r=>c _ _ (v n A r),λI g ex A r=>c _ _ (w I g ex A r),λg ex Ak M A r=>c _ _ (x g ex Ak M A r))
theorem V2:qF (p6 gt):=by
 rintro a H Q E a a ⟨Am,b,C,B,u,kd,c,d,a,f,z,w,e,x,g,y,D,k,G,j⟩ I v;exact(Am,b,C,B,u,kd,c,d,a,f,z,w,e,x,g,y,D,λp J K L m q l X A s h M=>I _ _ (k p J K L m q l X A s h M),λn=>v _ _ (G n),λn A s=>v _ _ (j n A s))
inductive ψ(t:Ad)(d:U V)(H:Hp)(Q:VK)(_E:XK):Prop
 |i(n:cs)(Am:a_)(a b c:V)(_:d=[.int n,.ref Am,a,b,c])(_:(n=0/\uJ t [.ref Am,a,b] H Q λc _ A=>EQ t Q c A)\/(n=1/\pZ t [.ref Am,a,b,c] H Q λc _ A=>EQ t Q c A)\/n=2/\p6 t [.ref Am,a,b,c] H Q λc _ A=>EQ t Q c A)
def ip[T:Gd]:=cD T.D108 29 (ψ gt) λF=>by
 let(d,f,g,j,m):=RB;let(d,f,p,s,u):=Rb;let(d,f,w,x,y):=OJ;refine F.o ["_law_way","_law_table","_law_one","_law_other","_law_third","_law_kept","_law_found_here","e"] λd C Aq B D H G Q E f h=>?_;let(n,Am,a,b,c,Y,h):=h;refine(_,(ak (aD 5 d a9)
  (ak (aD 6 d a9)
  (ak (Ni Y Y Y d (i:=7) Y Y ?r T.zfx
   (λC D E B=>(aj (aI (aE aW ?A ah) (aj (aD 6 d (aX ?B T.a8 j g (f.mono ?a) m .nil B (fH ?C ?E))))
   (aj (aI (aE aW ?A ah) (aj (aD 6 d (aX ?B T.a8 s p (f.mono ?a) u .nil B (aJ ?C (fH ?E ?G)))))
   (aj (aD 6 d (aX ?B T.a8 x w (f.mono ?a) y .nil B (aJ ?C (fH ?E ?G)))))))))) (λa=>(aj (aD 5 d ?J))))
  (aj (ay (cT (aE c7 ?H a9) ?I (Qg.pe f ap (e0 ?H)))))))),?_)
 rcases h with⟨rfl,h⟩ |⟨rfl,h⟩ |⟨rfl,h⟩
 case' inl=>
  let(_,_,_,_,_,_,_,e,d,_):=id h;cases e;let(_,_,_,_,(N,f),_):=d.1;refine(Y,1,aA (Am,N,1,f,Y,Rc h (λv A q=>(Y,1,aA q)) λcls A q=>?_))
 case' inr.inl=>
  let(_,_,_,_,_,_,_,_,_,e,d,_):=id h;cases e;let(_,_,_,_,(N,f),_):=d.1;refine(Y,1,ao (Y,1,aA (Am,N,1,f,Y,R6 h (λv A q=>(Y,1,aA q)) λcls A q=>?_)))
 case' inr.inr=>
  let(_,_,_,_,_,_,_,_,_,_,_,_,e,d,_):=id h;cases e;let(_,_,_,_,(N,f),_):=d.1;refine(Y,1,ao (Y,1,ao (Am,N,1,f,Y,V2 h (λv A q=>(Y,1,aA q)) λcls A q=>?_)))
 all_goals
  let(Ak,z,Y,hz,k):=q;refine(?_,λb d=>(Y,1,ao (.inr (b,Ak,z,Y,ae,hz,λAn f=>k An ((aa.new d).trans f)))));rcases hz with⟨rfl,_⟩ |⟨rfl,_⟩
  ·exact T.zhv
  ·exact T.zhw
theorem Vr{b:eg}{c:U b8}(h:Ord b J ix)(d:Ord b J c):ix=c:=by
 let(p,q):=h;let(c,g):=d;refine (p.trans ?yc).eq_of_pairwise (λi j _ _ a b=>?_) q g;rcases a.2 with e |e
 ·rw[b.1]at e;cases e
 ·rcases b.2 with f |f
  ·rw[a.1]at f;cases f
  ·omega
def I0(b:eg)(v w:V):eg:=if b=bm then o3 w v else o3 v w
theorem sZ(b:eg)(J:U V)(i j:b8):ltB b J i j=I0 b (J.getD i .non) (J.getD j .non):=by cases b <;> rfl
theorem Wy{b:eg}{a:U V}(d:∀x∈J,∀y∈J,ro x y)(p:a.Pairwise λv w=>I0 b v w=bm)(u:∀x∈J,x∈a):Ord b J (a.flatMap λv=>(da ?lJ).filter λi=>decide (J.getD i .non=v)):=by
 have c:∀{i},i<?lJ->J.getD i .non∈J:=λ{i} h=>by rw[bb,ag h];exact d1 _
 have A:∀x∈J,o3 x x=b1:=λx m=>by
  cases e:o3 x x with
  |false=>rfl
  |true=>exact cx (mw (d x m x m) e) (by simp[e])
 have f:∀{x y},x∈J->y∈J->I0 b x y=bm->I0 b y x=b1:=λ{x y} g n e=>by
  cases b with
  |false=>exact mw (d x g y n) e
  |true=>exact mw (d y n x g) e
 have q:(a.flatMap λv=>(da ?lJ).filter λi=>decide (J.getD i .non=v)).Pairwise (C3 (ltB b J)):=by
  refine List.pairwise_flatMap.mpr (λv _=>?_,p.imp λ{v w} e i d j g=>?_)
  ·refine (List.pairwise_lt_range.filter _).imp_of_mem λ{i j} d g h=>?_;let(n,a):=en.mp d;let(s,p):=en.mp g;refine(?_,.inr h);rw[sZ,eh a,eh p];have:=A _ (eh a ▸ c (el.mp n));cases b <;> exact this
  ·let(n,a):=en.mp d;let(s,p):=en.mp g;have d:=c (el.mp n);have g:=c (el.mp s);rw[C3,sZ,sZ];rw[eh a]at d ⊢;rw[eh p]at g ⊢;exact(f d g e,.inl e)
 refine((v8 (q.imp λ{i j} h z=>?_) List.nodup_range).mpr λi=>?_,q)
 ·subst z;rcases h.2 with e |e
  ·rw[h.1]at e;cases e
  ·exact fS _ e
 ·rw[FW];exact(λ⟨v,_,m⟩=>(en.mp m).1,λm=>(_,u _ (c (el.mp m)),en.mpr (m,dg Y)))
theorem sG.flat(h:sG x):bz x=bm:=by cases h <;> rfl
theorem sG.eq{y:V}(a:sG x)(b:sG y):m3 x y=bm↔x=y:=by cases a <;> cases b <;> simp[m3]
theorem xU{l:U V}(a:sG x)(h:∀y∈l,sG y):sH x l=bm↔x∈l:=by
 rw[sH,hZ];exact(λ⟨y,m,e⟩=>((h y m).eq a).mp e ▸ m,λm=>(x,m,(a.eq a).mpr Y))
noncomputable def ED(l:U V):U V:=l.foldl (λa x=>if sH x a=bm then a else a++[x]) []
theorem xb(l:U V)(x:V):ED (l++[x])=if sH x (ED l)=bm then ED l else ED l++[x]:=by rw[ED,F7];rfl
theorem xa:∀{l:U V},(∀y∈l,sG y)->(∀y,y∈ED l↔y∈l)/\(ED l).Nodup/\(ED l).length<=?ll:=by
 intro l;induction h:?ll generalizing l with
 |zero=>intro _;rw[pu.mp h];exact(λy=>MX,.nil,b2 _)
 |succ n j=>
  intro d;obtain⟨l,x,rfl⟩:∃c x,l=c ++ [x]:=(l.dropLast,l.getLast (λz=>by rw[z]at h;cases h),(mI _).symm)
  let(c,f,g):=j (by simpa using h) λy m=>d y (hh _ m);have p:=d x ?s;have j:=xU p λy m=>d y (hh _ ((c y).mp m));rw[xb];by_cases e:sH x (ED l)=bm
  ·rw[d6 e];have e:=(c x).mp (j.mp e);refine(λy=>(c y).trans (hh _,λm=>(ek.mp m).elim id λm=>d4.mp m ▸ e),f,hq g)
  ·rw[du e];refine(λy=>by rw[ek,ek,c],hn.mpr (f,?s,λa d b p z=>?_),by rw[cc];exact tJ g);rw[d4.mp p]at z;exact e (j.mpr (z ▸ d))
theorem tf{y:V}(c:ro x y)(a:o3 x y=b1)(b:o3 y x=b1):x=y:=by
 rcases c with rfl |rfl |c
 ·exact (mE a).symm
 ·exact mE b
 ·rw[jI c]at a;rcases c with⟨i,j,rfl,rfl⟩ |⟨i,j,rfl,rfl⟩
  ·rw[jI (.inl (_,1,Y))]at b;simp only[ltV,jl]at a b;exact eG V.int ?o
  ·rw[jI (.inr (_,1,Y))]at b;simp only[ltV,jl]at a b;exact eG V.str (eG Str.mk (Array.toList_inj.mp (List.le_antisymm (show _<=_ from b) (show _<=_ from a))))
theorem MA{g:U V}(p:g.Nodup)(n:∀x∈g,∀y∈g,ro x y)(b:F8 b1 id g Ap):Ap.Pairwise (λv w=>o3 v w=bm)/\∀x,x∈Ap↔x∈g:=by
 let(ix,Y,pm,a):=b;have a:ix.Pairwise (C3 λi j=>o3 (g.getD i .non) (g.getD j .non)):=by rw[hH]at a;exact a
 show (ix.map λi=>g.getD i .non).Pairwise _/\∀x,x∈(ix.map λi=>g.getD i .non)↔x∈g;have c:∀{i},i∈ix->i<?lg:=λm=>el.mp (pm.mem_iff.mp m);have b:∀{i},i<?lg->g[i]?=O (g.getD i .non):=λ{i} h=>by rw[bb,ag h];rfl
 have gm:∀{i},i∈ix->g.getD i .non∈g:=λm=>a0 (b (c m));refine(o2.mpr (a.imp_of_mem λ{i j} b d h=>?_),λx=>(λm=>?_,λm=>?_))
 ·cases e:o3 (g.getD i .non) (g.getD j .non) with
  |true=>rfl
  |false=>
   rcases h.2 with f |f
   ·exact cx (e.symm.trans f) ?s
   ·have q:=tf (n _ (gm b) _ (gm d)) e h.1;have a:=c b;have n:=c d;rw[bb,bb,ag a,ag n]at q;exact cx q (kS.mp p i j a n f)
 ·let(i,b,Y):=cv.mp m;exact gm b
 ·let(i,a,e):=g6.mp m;exact cv.mpr (i,pm.mem_iff.mpr (el.mpr a),by rw[bb,ag a];exact e)
theorem OY{l:U V}(f:l.Nodup)(c:∀x∈l,∀y∈l,ro x y)(d:F8 b1 id (l.filter λx=>!decide (x = .non)) Ap):(l.filter (λx=>decide (x = .non))++Ap).Pairwise (λv w=>I0 b1 v w=bm)/\∀x,x∈l↔x∈l.filter (λx=>decide (x = .non))++Ap:=by
 let(j,g):=MA (f.filter _) (λx m y p=>c x (en.mp m).1 y (en.mp p).1) d;refine(hI.mpr (?_,j,λa c b d=>?_),λx=>?_)
 ·refine (f.filter _).imp_of_mem λ{a b} c d n=>cx ?_ n;rw[eh (en.mp c).2,eh (en.mp d).2]
 ·show o3 a b=bm;rw[eh (en.mp c).2];cases e:o3 .non b with
  |true=>rfl
  |false=>exact cx (mE e) (by simpa using (en.mp ((g b).mp d)).2)
 ·rw[ek,g];by_cases h:x = .non <;> simp[h]
theorem xz{f:V->U b8}(h:∀v,(f v).length<=6):∀l:U V,(l.flatMap f).length<=?ll * 6
 |[]=>b2 _
 |v::l=>by
  have:=xz h l;have:=h v;rw[List.flatMap_cons,cc,e_];omega
inductive XU(c:U V)(H:Hp)(Q:VK)(_E:XK):Prop
 |i(a:a_)(u:U cs)(rows:U (a_×U V))(k:b8)(b:eg)(J:U V)(_:c=[.ref a,.int k,.bl b])(_:H a=O (.dK (bZ u rows)))(_:∀r∈rows,H r.1=O (.lst r.2)/\k<r.2.length)(_:?lrows=?lu)(_:u.Pairwise (· < ·))(_:?lu<=6)(_:J=rows.map λr=>r.2.getD k .non)
  (_:∀x∈J,sG x) (_:∀x∈J,∀y∈J,ro x y) (_:∀q A ix,aa H A->A q=O (.lst (ix.map λi=>.int (u.getD i 0)))->Ord b J ix->Q (.ref q) A)
theorem yK:(["_law_value"]:U c3).Nodup:=?k
theorem Yl:(["_law_number","_law_value","_law_at","_law_rows"]:U c3).Nodup:=?k
def vz[T:Gd]:=cD T.D109 1 XU λF=>by
 refine F.o ["_law_rows","_law_at","_law_falling","_law_some","_law_number","_law_value","_law_order","_law_found_here"] λa X Aq M s H L Q E G h=>?_;have X:=gB G;let(D,u,rows,k,b,J,Y,hd,M,G,ris,L,Y,N,AF,AL):=h;refine(_,(ak (aD 3 a (bO dJ))
  (ak (dk ev Y (ba (aH (kg Y) ?r T.ik qf (e0 ?A))) (aF 4 a)
   (ak (aD 5 a (nC gK (fX X ?A ?G (λ_ _=>rfl)) ?B))
  (aj (aI (iN (zi gK) ?H ?E ?r) (aj (aV (bX gK d2 eH eL gE ?E (e0 ?H))))
   aK))))
  (ak (gR 6 a (Ae:=["_law_value"]) (fr:=[bd]) (ba ?E) (λAk As s H=>(aF 0 yK,(gQ (aE c7 ?A a9)),?A)))
  (ak (aD 6 a (aq jc ?I (aH (zev gK) ?r T.ik qf (e0 (bf (Ae:=["_law_value"]) (fr:=[bd]) (ba ?E) (λAk As s H=>(aF 0 yK,(gQ (aE kQ ?A a9)),?A)))))))
  (ak (aI (bY ?C) (aj (aD 6 a (OM gK ?I (fz fE ah))))
   aK)
  (ak (aD 7 a (bO dJ))
  (ak (dk ev Y (ba ?I) (aF 5 a)
   (aj (aD 7 a (aq jc ?J (bf (Ae:=["_law_number","_law_value","_law_at","_law_rows"]) (fr:=[bd,O 5,O 1,O 0]) (ba (aH (kg Y) ?r T.ik qf (e0 ?A))) (λAk As s H=>(aF 0 Yl,(gQ (aE aW (nC gK (fX X ?E ?A (λ_ _=>rfl)) ?C) ?B)),?A)))))))
  (aj (ay ?J))))))))),?_)
 have P:∀{A:Hp}{Q:VK},aa H A->(∀l,A l=bd->Q (.ref l) (upd A l (.lst (u.map V.int))))->∃(d:a_)(C:U cs)(I:U V),[V.ref D]=[.ref d]/\A d=O (.dK ((C.zip I).map λq=>(zzq (.inl (O q.1)) q.2)))/\?lC=?lI/\C.Pairwise (·<=·)/\?lC<64/\∀l,A l=bd->Q (.ref l) (upd A l (.lst (C.map V.int))):=λs q=>(D,u,rows.map λ(r:a_×U V)=>V.ref r.1,Y,s _ _ hd,by rw[ai,G],ris.imp k7,?o,q)
 have cell:∀{j:b8}{A:Hp},aa H A->j<?lu->∃r:a_×U V,rows[j]?=O r/\d9 A D (.int (u.getD j 0)) (O (.ref r.1))/\A r.1=O (.lst r.2)/\r.2[k]?=O (r.2.getD k .non)/\(rows.map λr=>r.2.getD k .non)[j]?=O (r.2.getD k .non):=λ{j A} s B=>by
  have a:=ag (show j<?lrows by omega);have X:=ag B;let(K,L):=M _ (d1 (show j<?lrows by omega));refine(_,a,.inl (_,.inl (O (u.getD j 0)),.inl (s _ _ hd),Y,?_),s _ _ K,by rw[bb,ag L];rfl,by rw[a',a];rfl);rw[pS ris (show u[j]?=O (u.getD j 0) by rw[bb,X];rfl) a]
 refine aM λX M=>(av Y,λf a=>M _ _ ?_)
 have X:=aa.new (o:=.lst []) a;have M:(upd H f (.lst [])) f=O (.lst []):=ae;generalize upd H f (.lst [])=Ai at *;have A9:(rows.map λr=>r.2.getD k .non).length=?lu:=by rw[ai,G]
 generalize G:(rows.map λr=>r.2.getD k .non)=J at *;refine aM λL A5=>P X λR c=>(R,Y,(_,eb.of ae),⟨fQ (K:=gK) (a:=R) (B:=u.map V.int) (λj σ A=>∃S g:b5 V,σ=[O (.ref D),O (.int k),O (.bl b),O (.ref f),S,g,bd,bd]/\(∀b o,b≠f->upd Ai R (.lst (u.map V.int)) b=O o->A b=O o)/\A f=O (.lst (ED (J.take j)))) (bd,bd,Y,λ_ _ _ e=>e,by rw[af (aC M c)];exact M) ?_ ?_ ?_⟩)
 ·rintro j σ A B ⟨_,_,rfl,s,_⟩;exact eb.of (s _ _ (λz=>by rw[z,M]at c;cases c) ae)
 ·rintro j x σ An p ⟨S,g,rfl,s,Ao⟩;have B:j<?lu:=by
   have:=(bg.mp p).1
   rwa[ai]at this
  rw[a',ag B]at p;cases p;have G:aa H An:=λb o e=>s b o (aC e a) (aG X c b o e);let(r,AM,A6,AA,AB,A7):=cell G B;have M:u.getD j 0=u[j]:=by rw[bb,ag B];rfl
  rw[M]at A6;have AC:J.take (j+1)=J.take j++[r.2.getD k .non]:=by rw[ei,A7];rfl
  have L:∀y∈J.take j,sG y:=λy m=>N y (qU m);let(M,A4,A3):=xa L;have p:=N _ (a0 A7);have dl:(ED (J.take j)).length<=6:=by rw[d8]at A3;omega
  have K:(ED (J.take j)).all bz=bm:=dv.mpr λy m=>(L y ((M y).mp m)).flat;refine(D,.ref r.1,Y,A6,r.1,_,_,r.2.getD k .non,Y,Y,eb.of AA,cf AB,f,1,.inl (eb.of Ao),p.flat,K,1,?_);rw[AC,xb];cases e:sH (r.2.getD k .non) (ED (J.take j)) with
  |true=>exact ao (_,1,s,by rw[d6 Y];exact Ao)
  |false=>
   refine aA (.inl (Y,_,eb.of Ao),f,_,1,Y,Ao,gi dl ?a,_,1,λb o n h=>?_,by rw[ae,du ?s]);rw[af n];exact s b o n h
 ·rintro σ An ⟨S,g,rfl,s,Ao⟩;refine A5 _ _ ?_;rw[ai,<-A9,dw]at Ao;have G:aa H An:=λb o e=>s b o (aC e a) (aG X c b o e);let(M,A4,A3):=xa N;have dl:(ED J).length<=6:=?o
  generalize ED J=a at *;refine aM λX s=>(f,Y,(_,eb.of Ao),iX (ys:=a) (G:=id) (λx=>decide (x = .non)) id (by rw[hH];exact eb.of Ao) ?o (λj x _ H3 AG Z X y z=>(Wk.set Y,Y,1,kF (λe=>y e _ (.refl _)) λe=>z e _ (.refl _))) λAK H4 A5 AE _=>s _ _ ?_)
  rw[hH]at AE;have X:=A5 _ _ Ao;have A5:=G.trans A5;refine aM λL A8=>(f,Y,(_,eb.of X),iX (ys:=a) (G:=id) (λx=>!decide (x = .non)) id (by rw[hH];exact eb.of X) ?o (λj x _ L AG Z G y z=>(Wk.set Y,Y,1,kF (λe=>y e _ (.refl _)) λe=>z e _ (.refl _))) λAN AH AI A3 _=>?_)
  rw[hH]at A3;have G:∀x∈a,∀y∈a,ro x y:=λx s y L=>AF x ((M x).mp s) y ((M y).mp L);refine(AN,1,eb.of A3,ce (eu _ _) dl,λx s y L=>?_,λAD Ap X AJ=>?_)
  ·let(s,ex):=en.mp s;let(L,A3):=en.mp L;exact (G x s y L).two (by simpa using ex) (by simpa using A3)
  let(A3,s):=OY A4 G AJ;have L:?lAp<=6:=by
   let(ix,Y,pm,_):=AJ;rw[MY,ai,pm.length_eq,dV];exact ce (eu _ _) dl
  have L:(a.filter λx=>decide (x = .non)).length<=6:=ce (eu _ _) dl;refine(AK,AD,_,1,Y,aG AI X _ _ AE,ae,by rw[e2];omega,λA4 G=>A8 _ _ ?_);have AE:=A5.trans (aG (o:=.lst (a.filter (λx=>decide (x = .non))++Ap)) (aG (o:=.lst Ap) AI X) G);have AI:(upd (upd AH AD (.lst Ap)) A4 (.lst (a.filter (λx=>decide (x = .non))++Ap))) A4=O (.lst (a.filter (λx=>decide (x = .non))++Ap)):=ae;have AJ:(a.filter (λx=>decide (x = .non))++Ap).length<=12:=by rw[cc];omega
  generalize upd (upd AH AD (.lst Ap)) A4 (.lst (a.filter (λx=>decide (x = .non))++Ap))=AH at *;have s:∀x,x∈J↔x∈a.filter (λx=>decide (x = .non))++Ap:=λx=>(M x).symm.trans (s x);generalize a.filter (λx=>decide (x = .non))++Ap=AD at *;refine aM λL X=>?_;have fin:∀G a M,aa AH M->M G=O (.lst a)->?la<=12->a.Pairwise (λv w=>I0 b v w=bm)->(∀x,x∈J↔x∈a)->L [O (.ref D),O (.int k),O (.bl b),O (.ref f),S,g,O (.ref G),bd] M:=λG a M A5 AN L AO AK=>X _ _ <| by
   refine aM λX L=>(av Y,λA8 X=>L _ _ ?_)
   have L:=AE.trans (aG (o:=.lst []) A5 X);have A5:=aa.new (o:=.lst []) X _ _ AN;have X:(upd M A8 (.lst [])) A8=O (.lst []):=ae;generalize upd M A8 (.lst [])=AE at *;let K:V->U b8:=λv=>(da ?lJ).filter λi=>decide (J.getD i .non=v);refine(G,Y,(_,eb.of A5),⟨fQ (K:=gK) (a:=G) (B:=a) (λj σ A=>∃(g:b5 V)(M:a_),σ=[O (.ref D),O (.int k),O (.bl b),O (.ref f),S,g,O (.ref G),O (.ref M)]/\aa AE A/\A M=O (.lst (((a.take j).flatMap K).map λi=>.int (u.getD i 0)))) (g,A8,Y,aa.refl _,X) ?_ ?_ ?_⟩)
   ·rintro j σ A B ⟨_,_,rfl,f,_⟩;exact eb.of (f _ _ A5)
   ·rintro j x σ X p ⟨g,M,rfl,f,B⟩;have AC:(a.take (j+1)).flatMap K=(a.take j).flatMap K++K x:=by rw[ei,p,List.flatMap_append];simp
    have S:∀v,(K v).length<=6:=λv=>ce (eu _ _) (by rw[dV];omega);have K:=xz S (a.take j);have a:=(bg.mp p).1;rw[d8,hG (dn a)]at K;have sc:∀i,i<?lJ->y1 (J.getD i .non) x=bm:=λi h=>(N _ (by rw[bb,ag h];exact d1 _)).sc (N _ ((AK x).mpr (a0 p)));refine P (L.trans f) λR c=>(R,Y,(_,eb.of ae),iX (ys:=da ?lu) (G:=λi=>.int (u.getD i 0)) (λi=>decide (J.getD i .non=x)) (λi=>.int (u.getD i 0)) (by rw[tq];exact eb.of ae) (by rw[dV];omega) (λ_ i N P AG Z K y z=>?_) λA5 A8 a p _=>?_)
    ·let(r,AM,A6,AA,AB,A7):=cell ((L.trans f).trans ((aa.new c).trans K)) (el.mp (a0 N));have K:r.2.getD k .non=J.getD i .non:=by rw[bb (l:=J),A7];rfl
     refine(Wk.set Y,D,.ref r.1,Y,A6,r.1,_,_,r.2.getD k .non,Y,Y,eb.of AA,cf AB,K ▸ sc i (by rw[A9];exact el.mp (a0 N)),1,?_);rw[K];exact kF (λe=>y e _ (.refl _)) λe=>z e _ (.refl _)
    ·rw[<-A9]at p;have N:=S x;have a:=(aa.new c).trans a;refine(M,A5,_,1,Y,a _ _ B,p,by rw[ai,ai,e2];have:((da ?lJ).filter λi=>decide (J.getD i .non=x)).length<=6:=N;omega,λP K=>(_,P,Y,f.trans (aG a K),?_));rw[ae,AC,b3]
   ·rintro σ X ⟨g,M,rfl,f,B⟩;rw[dw]at B;exact AL M X _ (L.trans f) B (Wy AF AO λx m=>(AK x).mp m)
  cases b with
  |false=>exact(1,ao (fin A4 AD AH (aa.refl _) AI AJ A3 s))
  |true=>exact(1,aA (A4,AD,Y,eb.of AI,λG M=>fin G AD.reverse _ (aa.new M) ae (by rw[EL];exact AJ) (Ex.mpr A3) λx=>(s x).trans ?yt0))
theorem xf:∀{l:U Key},(mN l).Nodup:=by
 intro l;induction h:?ll generalizing l with
 |zero=>rw[pu.mp h];exact .nil
 |succ n c=>
  obtain⟨l,x,rfl⟩:∃d x,l=d ++ [x]:=(l.dropLast,l.getLast (λz=>by rw[z]at h;cases h),(mI _).symm)
  have c:=c (by simpa using h);rw[lU];by_cases e:G6 x (mN l)=bm
  ·rw[d6 e];exact c
  ·rw[du e];refine hn.mpr (c,?s,λa d b f z=>e (jH.mpr ?_));rw[d4.mp f]at z;exact z ▸ d
theorem ZL{a b:U V}(h:a.Perm b):(dq a).sum=(dq b).sum:=by
 induction h with
 |nil=>rfl
 |cons x _ c=>cases x <;> simp[dq,c]
 |swap x y l=>cases x <;> cases y <;> simp[dq];omega
 |trans _ _ i j=>exact i.trans j
theorem OE{l a:U b8}(h:l.Perm a)(Au:Key):gT J am l Au=gT J am a Au:=by
 have p:(xv J am l Au).Perm (xv J am a Au):=(h.filter _).map _;rw[gT,gT,p.length_eq,ZL p]
theorem ny.snoc{H:Hp}{a:a_}{p:U V}:∀{X:U a_}{B:U (U V)},ny H (X++[a]) (B++[p])->ny H X B/\H a=O (.tup p)
 |[],[],h=>(trivial,h.1)
 |[],_::_,h=>by have:=h.2.len;simp at this
 |_::_,[],h=>by have:=h.2.len;simp at this
 |_::X,_::B,h=>((h.1,(ny.snoc h.2).1),(ny.snoc h.2).2)
def JM(J:U V)(L:U b8):Prop:=L.Pairwise λi j=>o3 (J.getD j .non) (J.getD i .non)=b1
theorem Uv(c:∀i,sG (J.getD i .non))(d:∀i j,ro (J.getD i .non) (J.getD j .non)){L:U b8}{m:b8}(f:JM J (L++[m]++[i]))(h:kk J i∈(L++[m]).map (kk J)):kk J m=kk J i:=by
 let(n,b,e):=cv.mp h;let(g,_,p):=hI.mp f;let(_,_,f):=hI.mp g;rcases ek.mp b with b |b
 ·have e:J.getD n .non=J.getD i .non:=by rw[<-ig (c n),<-ig (c i)];exact eG kV e
  have a:=f n b m ?s;rw[e]at a;exact eG kC (tf (d m i) a (p m ?s i ?s))
 ·rw[<-d4.mp b];exact e
theorem xc(c:∀i,sG (J.getD i .non))(d:∀i j,ro (J.getD i .non) (J.getD j .non)):∀{L:U b8},JM J L->(mN (L.map (kk J))).getLast?=(L.map (kk J)).getLast?/\(mN (L.map (kk J))).Pairwise λa b=>o3 (kV a) (kV b)=bm:=by
 intro L;induction h:?lL generalizing L with
 |zero=>intro _;rw[pu.mp h];exact(Y,.nil)
 |succ n q=>
  intro g;obtain⟨L,i,rfl⟩:∃p x,L=p ++ [x]:=(L.dropLast,L.getLast (λz=>by rw[z]at h;cases h),(mI _).symm)
  let(s,_,u):=hI.mp g;let(v,p):=q (by simpa using h) s;rw[b3,h5,lU];by_cases e:G6 (kk J i) (mN (L.map (kk J)))=bm
  ·rw[d6 e];refine(?_,p);have e:=jK.mp (jH.mp e);rw[v,ku];rcases mn L with rfl |⟨L,m,rfl⟩
   ·cases e
   ·rw[mo]at *;rw[b3,h5,ku,Uv c d g e]
  ·rw[du e];refine(by rw[ku,ku],hI.mpr (p,?s,λa g b q=>?_));rw[d4.mp q];let(n,p,Y):=cv.mp (jK.mp g);rw[kk,kk,ig (c n),ig (c i)];cases f:o3 (J.getD n .non) (J.getD i .non) with
   |true=>rfl
   |false=>exact cx (jH.mpr ((show kk J n=kk J i from eG kC (tf (d n i) f (u n p i ?s))) ▸ g)) e
theorem xM{L:U b8}: ∀Au,Au≠kk J i->gT J am (L++[i]) Au=gT J am L Au:=λAu n=>by rw[gT,gT,n9,du (fU n),f2]
theorem xN{L:U b8}(a:∀i,sG (J.getD i .non)):gT J am (L++[i]) (kk J i)=[J.getD i .non,.int ((xv J am L (kk J i)).length+1),.int ((dq (xv J am L (kk J i))).sum+(dq [am.getD i .non]).sum)]:=by
 rw[gT,n9,d6 Y,y0,Gr,cc,kk,ig (a i)];rfl
theorem OP(b:∀i,sG (J.getD i .non))(c:∀i j,ro (J.getD i .non) (J.getD j .non)){L:U b8}(f:JM J (L++[i])):
  (∃a,mN (L.map (kk J))=a++[kk J i]/\(mN ((L++[i]).map (kk J))).map (gT J am (L++[i]))=a.map (gT J am L)++[gT J am (L++[i]) (kk J i)])\/
  (kk J i∉mN (L.map (kk J))/\(mN ((L++[i]).map (kk J))).map (gT J am (L++[i]))=(mN (L.map (kk J))).map (gT J am L)++[gT J am (L++[i]) (kk J i)]):=by
 have d:=(xc b c f).1;have c:=xf (l:=(L++[i]).map (kk J));rw[b3,h5,lU]at *;by_cases e:G6 (kk J i) (mN (L.map (kk J)))=bm
 ·rw[d6 e]at *;left;rw[ku]at d;let(a,b):=List.getLast?_eq_some_iff.mp d;refine(a,b,?_);rw[b,b3]
  congr 1
  refine f6 λAu m=>xM Au λz=>?_;rw[b]at c;exact (hn.mp c).2.2 Au m _ ?s z
 ·rw[du e]at *;right;have e:=λz=>e (jH.mpr z);refine(e,?_);rw[b3]
  congr 1
  exact f6 λAu m=>xM Au λz=>e (z ▸ m)
theorem QS(s:∀i,sG (J.getD i .non))(u:∀i j,ro (J.getD i .non) (J.getD j .non)){Ao:b8->eg}(f:Ord b1 J ix)(D:F8 b1 id ((mN ((eO Ao ?lJ).map (kk J))).map kV) Ap):
  (mN ((ix.filter Ao).map (kk J))).map (gT J am (ix.filter Ao))=Ap.map λy=>gT J am (eO Ao ?lJ) (kC y):=by
 let(pm,c):=f;have A:(ix.filter Ao).Perm (eO Ao ?lJ):=pm.filter Ao;have c:=(c.filter Ao).imp λh=>h.1;have d:=(xc s u c).2;have g:∀{L:U b8},∀Au∈mN (L.map (kk J)),∃i,Au=kC (J.getD i .non)/\kV Au=J.getD i .non:=λAu m=>by
  let(i,_,Y):=cv.mp (jK.mp m);exact(i,Y,ig (s i))
 have B:∀{L:U b8},((mN (L.map (kk J))).map kV).Nodup:=λ{L}=>by
  refine o2.mpr (xf.imp_of_mem λ{a b} f p n z=>n ?_);let(i,Y,s):=g a f;let(j,Y,c):=g b p;rw[s,c]at z;rw[z]
 have c:∀{L:U b8},∀x∈(mN (L.map (kk J))).map kV,∃i,x=J.getD i .non:=λx m=>by
  let(Au,mk,Y):=cv.mp m;let(i,_,e):=g Au mk;exact(i,e)
 have s:∀{L:U b8},∀x∈(mN (L.map (kk J))).map kV,∀y∈(mN (L.map (kk J))).map kV,ro x y:=λx v y w=>by
  let(i,Y):=c x v;let(j,Y):=c y w;exact u i j
 let(C,q):=MA B s D;have D:∀{L E:U b8}{x y:V},x∈(mN (L.map (kk J))).map kV->y∈(mN (E.map (kk J))).map kV->o3 x y=bm->o3 y x=bm->fP:=λ{L E x y} v w h s=>by
  let(i,Y):=c x v;let(j,Y):=c y w;rw[mw (u i j) h]at s;cases s
 have e:Ap=(mN ((ix.filter Ao).map (kk J))).map kV:=by
  refine ((v8 (C.imp_of_mem λ{a b} f p h z=>?_) B).mpr λx=>?_).eq_of_pairwise (λa b f p h s=>?_) C (o2.mpr d)
  ·subst z;exact D ((q a).mp f) ((q a).mp f) h h
  ·rw[q];simp only[jK,cv,A.mem_iff]
  ·exact (D ((q a).mp f) p h s).elim
 rw[e,d_];refine f6 λAu m=>?_;let(i,Y,e):=g Au m;show _=gT J am _ (kC (kV _));rw[e,OE A]
theorem rF{r:a_×U V}(a:rows[j]?=O r)(h:k<r.2.length):r.2[k]?=O ((rows.map λr=>r.2.getD k .non).getD j .non):=by
 simp[ a,h]
inductive T4(d:U V)(H:Hp)(Q:VK)(_E:XK):Prop
 |i(b c:a_)(u:U cs)(rows:U (a_×U V))(k a:b8)(Ao:b8->eg)(J am:U V)(_:d=[.ref b,.int k,.int a,.ref c])(_:H b=O (.dK (bZ u rows)))(_:∀r∈rows,H r.1=O (.lst r.2)/\k<r.2.length/\a<r.2.length)(_:?lrows=?lu)(_:u.Pairwise (· < ·))(_:?lu<=6)
  (_:H c=O (.lst ((eO Ao ?lu).map λi=>.int (u.getD i 0)))) (_:J=rows.map λr=>r.2.getD k .non) (_:am=rows.map λr=>r.2.getD a .non)
  (_:∀x∈J,sG x) (_:∀x∈J,∀y∈J,ro x y) (_:∀x∈am,x = .non\/∃i:cs,x = .int i) (_:∀q X A ix,aa H A->A q=O (.lst (X.map V.ref))->Ord b1 J ix->ny A X ((mN ((ix.filter Ao).map (kk J))).map (gT J am (ix.filter Ao)))->Q (.ref q) A)
def Θ[T:Gd]:=cD T.D110 2 T4 λF=>by
 refine F.o ["_law_rows","_law_by_here","_law_of","_law_good","_law_found_here","_law_number","_law_value","_law_last"] λI N Aq v s H d Q E Z h=>?_;have N:=gB Z;let(w,R,u,rows,k,C,Ao,J,am,Y,hd,v,a,ris,P,A3,Y,Y,p,f,A9,AI):=h;refine(_,(ak (aD 4 I (bO dJ))
  (ak (dk ev Y (ba (vz.pe Z ap (aJ ?A (fH ?B di)))) (aF 5 I)
   (aj (aI (iN (iL gK) ?H ?E ?r) (ak (aD 6 I (nC gK (fX N ?A ?H (λ_ _=>rfl)) ?B))
  (ak (aI (PW.pt (fc (aE (Ou gK N) ?G (bO dJ)) (fB (aE eK (l3 gK (nC gK ?G (fz fE ah)) ah) ?I)))) (aj (aV (bX gK d2 eH eL gE ?G (e0 (bP (aJ ?I (fH ah ah)))))))
   aK)
  (ak (aD 7 I (nC gK ?G (fz fE ah)))
  (aj (pP (bP (aJ ?I (fH (aq aT (l3 gK ?J ah) ah) (aq aT (l3 gK ?J ah) (Zi (nC gK (fX N ?A ?H (λ_ _=>rfl)) ?C) (d0 ah)))))) (Uf ?G (fz fE ah) ZN))))))
   aK)))
  (aj (ay ?G)))),?_)
 have cell:∀{j:b8}{A:Hp},aa H A->j<?lu->∃r:a_×U V,rows[j]?=O r/\d9 A w (.int (u.getD j 0)) (O (.ref r.1))/\A r.1=O (.lst r.2)/\r.2[k]?=O ((rows.map λr=>r.2.getD k .non).getD j .non)/\r.2[C]?=O ((rows.map λr=>r.2.getD C .non).getD j .non):=λ{j A} s K=>by
  have B:=ag (show j<?lrows by omega);have N:=ag K;let(Z,I,d):=v _ (d1 (show j<?lrows by omega));refine(_,B,.inl (_,.inl (O (u.getD j 0)),.inl (s _ _ hd),Y,?_),s _ _ Z,?_,?_)
  ·rw[pS ris (show u[j]?=O (u.getD j 0) by rw[bb,N];rfl) B]
  ·exact rF B I
  ·exact rF B d
 have S:(rows.map λr=>r.2.getD k .non).length=?lu:=by rw[ai,a]
 have AA:(rows.map λr=>r.2.getD C .non).length=?lu:=by rw[ai,a]
 generalize Z:(rows.map λr=>r.2.getD k .non)=J at *;generalize (rows.map λr=>r.2.getD C .non)=am at *;have D:∀i,sG (J.getD i .non):=λi=>by
  rw[bb];cases e:J[i]? with
  |none=>exact .n
  |some x=>exact p x (a0 e)
 have gm:∀i j,ro (J.getD i .non) (J.getD j .non):=λi j=>by
  rw[bb,bb];cases e:J[i]? with
  |none=>exact .inl Y
  |some x=>cases d:J[j]? with
   |none=>exact .inr (.inl Y)
   |some y=>exact f x (a0 e) y (a0 d)
 refine aM λc d=>(av Y,λc G=>d _ _ ?_)
 have A7:=aa.new (o:=.lst []) G;have d:(upd H c (.lst [])) c=O (.lst []):=ae;generalize upd H c (.lst [])=Ai at *;refine aM λM AJ=>(w,u,rows,k,b1,J,Y,A7 _ _ hd,λr m=>(A7 _ _ (v r m).1,(v r m).2.1),a,ris,P,?yZ,p,f,λq An ix A8 I AE=>(q,Y,(_,eb.of I),⟨fQ (K:=gK) (a:=q) (B:=ix.map λi=>.int (u.getD i 0)) (λj σ A=>∃(A4 A5 M:b5 V)(X:U a_),σ=[O (.ref w),O (.int k),O (.int C),O (.ref R),O (.ref c),A4,A5,M]/\(∀b o,b≠c->An b=O o->A b=O o)/\A q=O (.lst (ix.map λi=>.int (u.getD i 0)))/\A c=O (.lst (X.map V.ref))/\ny A X ((mN (((ix.take j).filter Ao).map (kk J))).map (gT J am ((ix.take j).filter Ao)))) (bd,bd,bd,[],Y,λ_ _ _ e=>e,I,A8 _ _ d,trivial) ?_ ?_ ?_⟩))
 ·rintro j σ A K ⟨_,_,_,_,rfl,_,Z,_⟩;exact eb.of Z
 ·rintro j x σ H3 v ⟨A4,A5,M,X,rfl,A6,Z,K,f⟩;obtain⟨i,N,rfl⟩:∃i,ix[j]?=O i/\x = .int (u.getD i 0):=by
   rw[a']at v;cases e:ix[j]? with
   |none=>rw[e]at v;cases v
   |some i=>rw[e]at v;cases v;exact(i,Y,Y)
  have AF:q≠c:=λz=>by
   subst z;rw[A8 _ _ d]at I;cases ix with
   |nil=>cases N
   |cons _ _=>cases I
  let(pm,d):=id AE;have I:i<?lu:=by rw[<-S];exact el.mp (pm.mem_iff.mp (a0 N))
  have p:aa H H3:=λb o e=>A6 b o (aC e G) (A8 b o (A7 b o e));have AC:=p _ _ A3;let(r,AB,A3,AD,AG,v):=cell p I;have a:(ix.take (j+1)).filter Ao=(ix.take j).filter Ao++if Ao i=bm then [i] else []:=by
   rw[ei,N,h3,Option.toList,gk];simp
  have N:sH (.int (u.getD i 0)) ((eO Ao ?lu).map λi=>.int (u.getD i 0))=Ao i:=by
   have inj:∀{v},v<?lu->u.getD v 0=u.getD i 0->v=i:=λ{v} h e=>by
    rw[bb,bb,ag h,ag I]at e;have e:u[v]=u[i]:=e;rcases FY v i with l |l |l
    ·have:=kS.mp ris v i h I l;omega
    ·exact l
    ·have:=kS.mp ris i v I h l;omega
   refine g0.mpr ((xU (.i _) λy m=>?_).trans (λm=>?_,λm=>cv.mpr (i,en.mpr (el.mpr I,m),Y)))
   ·let(_,_,Y):=cv.mp m;exact .i _
   ·let(v,AH,e):=cv.mp m;let(v,AK):=en.mp AH;cases inj (el.mp v) (V.int.inj e);exact AK
  have ll:((ix.take j).filter Ao).length<=6:=ce (eu _ _) (ce (List.length_take_le' ..) (by rw[pm.length_eq,dV,S];exact P));have AK:JM J ((ix.take (j+1)).filter Ao):=((d.sublist (Fq _ _)).filter Ao).imp λh=>h.1;refine(R,1,.inl (eb.of AC),Y,dv.mpr λy m=>by let(_,_,Y):=cv.mp m;rfl,1,?_);rw[N];cases v:Ao i with
  |false=>
   rw[v,du ?s,f2]at a;rw[a];exact ao (_,_,_,X,Y,A6,Z,K,f)
  |true=>
   rw[v,d6 Y]at a;rw[a]at *;generalize (ix.take j).filter Ao=L at *;refine aA (aM λN v=>(w,.ref r.1,Y,A3,r.1,_,_,1,Y,eb.of AD,cf AG,v _ _ ?_));have AL:am.getD i .non = .non\/∃n:cs,am.getD i .non = .int n:=A9 _ (by rw[bb,ag (show i<?lam by rw[AA];exact I)];exact d1 _);refine aM λAG P=>?_;have fin:∀a d v n s H4,(∀b o,b≠c->H3 b=O o->H4 b=O o)->H4 c=O (.lst ((a++[d]).map V.ref))->ny H4 a v->H4 d=O (.tup [J.getD i .non,.int n,.int s])->v++[[J.getD i .non,.int (n+1),.int (s+(dq [am.getD i .non]).sum)]]=(mN ((L++[i]).map (kk J))).map (gT J am (L++[i]))->AG [O (.ref w),O (.int k),O (.int C),O (.ref R),O (.ref c),O (.int (u.getD i 0)),O (J.getD i .non),M] H4:=λa d v n s H4 N A3 AC AH B=>P _ _ <| by
    have P:aa H H4:=λb o e=>N b o (aC e G) (p b o e);let(p,v,AM,AN,S,AO):=cell P I;rw[AB]at v;cases v;have p:s8 ((a++[d]).map V.ref) (-1)=O (.ref d):=by rw[b3];exact oh _ _
    refine aM λI v=>(1,c,_,_,1,Y,eb.of A3,p,v _ _ ?_)
    have AD:Fd ((a++[d]).map V.ref).length (-1)=O ?la:=by
     rw[ai,cc,f'];unfold Fd;rw[du ?a,d6 ?o]
     congr 1
     omega
    have bU:∀m,m=(dq [am.getD i .non]).sum->∀b,H4 b=bd->upd H4 b (.tup [J.getD i .non,.int (n+1),.int (s+m)]) c=O (.lst ((a++[d]).map V.ref))/\(∃(A4 A5 M:b5 V)(X:U a_),[O (V.ref w),O (.int k),O (.int C),O (.ref R),O (.ref c),O (.int (u.getD i 0)),O (J.getD i .non),O (.ref d)]=[O (.ref w),O (.int k),O (.int C),O (.ref R),O (.ref c),A4,A5,M]/\(∀v o,v≠c->An v=O o->upd (upd H4 b (.tup [J.getD i .non,.int (n+1),.int (s+m)])) c (.lst (((a++[d]).map V.ref).set ?la (.ref b))) v=O o)/\upd (upd H4 b (.tup [J.getD i .non,.int (n+1),.int (s+m)])) c (.lst (((a++[d]).map V.ref).set ?la (.ref b))) q=O (.lst (ix.map λi=>.int (u.getD i 0)))/\upd (upd H4 b (.tup [J.getD i .non,.int (n+1),.int (s+m)])) c (.lst (((a++[d]).map V.ref).set ?la (.ref b))) c=O (.lst (X.map V.ref))/\ny (upd (upd H4 b (.tup [J.getD i .non,.int (n+1),.int (s+m)])) c (.lst (((a++[d]).map V.ref).set ?la (.ref b)))) X ((mN ((L++[i]).map (kk J))).map (gT J am (L++[i])))):=by
     rintro m rfl b I;have A9:c≠b:=λz=>by rw[<-z,A3]at I;cases I
     have S:∀{v o} {g:U V},v≠c->H4 v=O o->upd (upd H4 b (.tup [J.getD i .non,.int (n+1),.int (s+(dq [am.getD i .non]).sum)])) c (.lst g) v=O o:=λP e=>by rw[af P,af (aC e I)];exact e
     have AB:((a++[d]).map V.ref).set ?la (.ref b)=(a++[b]).map V.ref:=by
      rw[b3,b3,List.set_append_right _ _ (by rw[ai];exact b2 _),ai,q4];rfl
     rw[AB];refine(by rw[af A9];exact A3,_,_,_,a++[b],Y,λv o P e=>S P (N v o P (A6 v o P e)),S AF (N _ _ AF Z),ae,?_);rw[<-B];refine ny.app ?_ (AC.kt λv g e=>S (λz=>by rw[z,A3]at e;cases e) e);exact(by rw[af (fU A9)];exact ae,trivial)
    refine(d,_,_,1,Y,fx.of AH,Y,_,1,Y,d,_,_,1,Y,fx.of AH,Y,w,.ref r.1,Y,AM,r.1,_,_,1,Y,eb.of AN,cf AO,?_);rcases AL with v |⟨m,v⟩
    ·refine .inl (v,_,1,Y,show 3<=bT by decide,λb I=>?_);let(s,N):=bU 0 (by rw[v];rfl) b I;exact(1,c,_,_,?la,Y,Y,s,AD,N)
    ·refine .inr (m,v,?_);by_cases z:m=0
     ·rw[d6 z];refine(_,1,Y,show 3<=bT by decide,λb I=>?_);let(s,N):=bU 0 (by rw[v,z];rfl) b I;exact(1,c,_,_,?la,Y,Y,s,AD,N)
     ·rw[du z];refine(_,1,v,show 3<=bT by decide,λb I=>?_);let(s,N):=bU m (by rw[v];simp[dq]) b I;exact(1,c,_,_,?la,Y,Y,s,AD,N)
   rcases OP (am:=am) D gm AK with⟨N,v,B⟩ |⟨AC,B⟩
   ·have I:(mN (L.map (kk J))).map (gT J am L)=N.map (gT J am L)++[gT J am L (kk J i)]:=by rw[v,b3];rfl
    rw[I]at f;have Z:=f.len;rcases mn X with rfl |⟨a,d,rfl⟩
    ·rw[cc]at Z;cases Z
    rw[mo]at *;let(AB,A3):=f.snoc;rw[gT,kk,ig (D i)]at A3;have p:s8 ((a++[d]).map V.ref) (-1)=O (.ref d):=by rw[b3];exact oh _ _
    refine(av Y,λs I=>?_);have v:=aa.new (o:=.lst []) I;refine(c,s,1,Y,eb.of (v _ _ K),eb.of ae,1,?_);rw[show ((a++[d]).map V.ref).isEmpty=b1 by simp];refine ao (1,c,_,_,1,Y,eb.of (v _ _ K),p,d,_,_,1,Y,fx.of (v _ _ A3),Y,(D i).sc (D i),1,?_);refine nF Y (fin a d (N.map (gT J am L)) _ _ _ (λb o _ e=>v b o e) (v _ _ K) (AB.kt λb g e=>v b _ e) (v _ _ A3) ?_);rw[B,xN D];rfl
   ·have AA:?lX<=6:=by
     rw[f.len,ai];exact ce (oC _) (by rw[ai];exact ll)
    refine(av Y,λs I=>?_);have v:=aa.new (o:=.lst []) I;have I:=v _ _ K;have AD:(upd H3 s (.lst [])) s=O (.lst []):=ae;generalize upd H3 s (.lst [])=AB at *;refine(c,s,1,Y,eb.of I,eb.of AD,1,?_);have app:∀s,AB s=bd->AG [O (.ref w),O (.int k),O (.int C),O (.ref R),O (.ref c),O (.int (u.getD i 0)),O (J.getD i .non),M] (upd (upd AB s (.tup [J.getD i .non,.int 0,.int 0])) c (.lst (X.map V.ref++[.ref s]))):=λs w=>by
     have A9:c≠s:=λz=>by rw[<-z,I]at w;cases w
     have S:∀{b o},b≠c->H3 b=O o->upd (upd AB s (.tup [J.getD i .non,.int 0,.int 0])) c (.lst (X.map V.ref++[.ref s])) b=O o:=λP e=>by
      have e:=v _ _ e;rw[af P,af (aC e w)];exact e
     refine fin X s ((mN (L.map (kk J))).map (gT J am L)) 0 0 _ (λb o n e=>S n e) (by rw[ae,b3];rfl) (f.kt λb g e=>S (λz=>by rw[z,K]at e;cases e) e) (by rw[af (fU A9),ae]) ?_;rw[B,xN D,vY AC];rfl
    have sz:(X.map V.ref).length<bT:=by rw[ai];exact gi AA ?a
    rcases mn X with rfl |⟨a,d,rfl⟩
    ·refine aA (aA (.inl (Y,_,eb.of I),show 3<=bT by decide,λs w=>?_));exact(c,_,1,Y,by rw[af λz=>by rw[<-z,I]at w;cases w];exact I,sz,app s w)
    ·rw[mo]at *;have p:s8 ((a++[d]).map V.ref) (-1)=O (.ref d):=by rw[b3];exact oh _ _
     rw[show ((a++[d]).map V.ref).isEmpty=b1 by simp];have Z:=f.len;rw[ai]at Z;rcases mn (mN (L.map (kk J))) with e |⟨N,Au,e⟩
     ·rw[e]at Z;simp at Z
     rw[mo]at e;have N:Au∈mN (L.map (kk J)):=by rw[e];simp
     rw[e,b3]at f;have A3:=v _ _ f.snoc.2;let(m,_,Y):=cv.mp (jK.mp N);rw[gT,kk,ig (D m)]at A3;refine ao (1,c,_,_,1,Y,eb.of I,p,d,_,_,1,Y,fx.of A3,Y,(D m).sc (D i),1,?_);refine nT (λz=>AC ((show kk J m=kk J i from eG kC z) ▸ N)) (.inl (Y,_,eb.of I),show 3<=bT by decide,λs w=>?_);exact(c,_,1,Y,by rw[af λz=>by rw[<-z,I]at w;cases w];exact I,sz,app s w)
 ·rintro σ H3 ⟨A4,A5,M,X,rfl,A6,_,K,f⟩;rw[ai,dw]at f;exact AJ _ _ (AI c X H3 ix (λb o e=>A6 b o (aC e G) (A8 b o (A7 b o e))) K AE f)
theorem bK.tbo(h:bK t H S)(a:S.g<=6):Ey t H S.2 (S.hs.map (·.1)) S.9 S.10 (C1 S.8):=by
 have a:=h.fit.6;refine((_,_,_,_,h.4),h.lh.nodup,h.fit.okp ?l,?l,λi z q a b=>?_);rw[a']at a;let(c,e,Y):=d3.mp a;simp only[sT h.lh.nodup (a0 e),h.fit.kin i c q e b]
theorem bK.pm(h:bK t H S){z:c3}:(z∈S.hs.map (·.1)->(aR (S.hs.map (·.1)) S.9 z).isSome=bm)/\(z∉S.hs.map (·.1)->aR (S.hs.map (·.1)) S.9 z=bd):=by
 have a:=h.fit.1;refine(λhz=>?_,λhz=>?_)
 ·have a:=e5 hz;rw[aR,ag ?x];rfl
 ·rw[aR,hb (by simp only[EB hz,ai];exact g3 ‹_›)];rfl
theorem bK.holds(h:bK t H S){r:a_×U V}(a:S.12[i]?=O r)(q:Tr Wh):q.holds (hW (aR (S.hs.map (·.1)) S.9)) i=q.holds (hR S.8 r.2) ():=by
 refine me (λx=>?_) q;cases x with
 |any=>rfl
 |bad w b=>rfl
 |isin z q=>
  simp only[hW,hR,aR];generalize (S.hs.map (·.1)).idxOf z=j;cases e:S.9[j]? with
  |none=>
   have:=k6.mp e;rw[bb (l:=r.2),hb (by rw[((h.fit.fit r (a0 a)).1),<-h.fit.1];exact this)];rfl
  |some p=>
   rw[bb (l:=r.2),h.fit.cells i j r p a e]
   simp_all
theorem RT.seq{g:U V}(r:RT t H A)(b:nf t H)(h:eb K H a g):eb K A a g:=by
 rcases h with (h |⟨o,h⟩) |h
 ·exact .inl (.inl (r.keep b h nofun))
 ·exact .inl (.inr (o,r.keep b h nofun))
 ·exact .inr h
theorem VE:("no" : c3)∉E1:=?k
theorem bK.no(h:bK t H S):("no" : c3)∉S.hs.map (·.1):=λz=>by let(x,a,e):=cv.mp z;exact VE (e ▸ (h.lh.mem a).1)
theorem ou(p:PM):∀x∈p.cells,∀y∈p.cells,ro x y:=λx b y c=>by
 cases p with
 |num g=>
  let(o,_,Y):=cv.mp b;let(a,_,Y):=cv.mp c;cases o with
  |none=>exact .inl Y
  |some i=>cases a with
   |none=>exact .inr (.inl Y)
   |some j=>exact .inr (.inr (.inl (_,1,Y)))
 |wrd I g=>
  let(o,_,Y):=cv.mp b;let(a,_,Y):=cv.mp c;cases o with
  |none=>exact .inl Y
  |some i=>cases a with
   |none=>exact .inr (.inl Y)
   |some j=>exact .inr (.inr (.inr (_,1,Y)))
structure EC(S:LT)(i:b8)(h:p')(a:a_)(q:aU):Prop where
 lt:i<S.hs.length
 hd:S.8[i]?=O h
 ad:S.7[i]?=O a
 pt:S.9[i]?=O q
theorem bK.col(h:bK t H S)(b:i<?lS.hs):∃c a q,EC S i c a q:=
 (_,_,_,b,ag b,ag (by rw[h.heads.1];exact b),ag (by rw[h.fit.1];exact b))
theorem EC.at'(c:EC S i h a q):s8 (S.as.map V.ref) (i:cs)=O (.ref a):=cf (by rw[a',c.3];rfl)
theorem EC.tup(c:EC S i h a q)(f:bK t H S):H a=O (.tup [.str h.1,.str h.2]):=f.heads.2 i a h c.3 c.2
theorem EC.mem(c:EC S i h a q):h.1∈S.hs.map (·.1):=g_ (a0 c.2)
theorem EC.pm(c:EC S i h a q)(f:bK t H S):aR (S.hs.map (·.1)) S.9 h.1=O q.2.2:=by
 have e:(S.hs.map (·.1))[i]?=O h.1:=by rw[a',c.2];rfl
 let(l,e):=bg.mp e;rw[aR,<-e,f.lh.nodup.idxOf_getElem,c.4];rfl
theorem EC.cells(c:EC S i h a q)(f:bK t H S):(S.rows.map λr=>r.2.getD i .non)=q.2.2.cells:=by
 have b:=(iC q.2.2).trans (f.fit.ok q (a0 c.4)).2;refine F4 λj=>?_;rw[a'];cases e:S.12[j]? with
 |none=>rw[hb (by rw[b,<-f.fit.7];exact k6.mp e)];rfl
 |some r=>
  have d:=f.fit.cells j i r q e c.4;have g:j<q.2.2.cells.length:=by rw[b,<-f.fit.7];exact (bg.mp e).1
  rw[ag g]at d ⊢;show O (r.2.getD i .non)=_;rw[bb,d];rfl
theorem EC.row(c:EC S i h a q)(f:bK t H S):∀r∈S.12,H r.1=O (.lst r.2)/\i<r.2.length:=λr m=>((f.rows r m).1,by rw[(f.fit.fit r m).1];exact c.1)
theorem bK.cell(f:bK t H S)(b:j<?lS.living):∃r:a_×U V,S.12[j]?=O r/\r∈S.12/\d9 H S.3 (.int (S.living.getD j 0)) (O (.ref r.1))/\H r.1=O (.lst r.2):=by
 have a:j<?lS.rows:=by rw[f.fit.7];exact b
 have c:=ag a;refine(_,c,d1 a,.inl (_,.inl (O (S.living.getD j 0)),.inl f.5,Y,?_),(f.rows _ (d1 a)).1);rw[pS f.fit.4 (show S.10[j]?=O (S.living.getD j 0) by rw[bb,ag b];rfl) c]
theorem EC.val(c:EC S i h a q)(f:bK t H S){r:a_×U V}(b:S.12[j]?=O r):s8 r.2 (i:cs)=O (q.2.2.cells.getD j .non):=by
 have:=rF b (c.row f r (a0 b)).2;rw[c.cells f]at this;exact cf this
theorem yg(h:i<?ll):(l.map V.int)[i]?=O (.int (l.getD i 0)):=?x
theorem wJ(p:PM)(i:b8):p.cells.getD i .non = .non\/(p.isW=bm/\∃z,p.cells.getD i .non = .str z)\/p.isW=b1/\∃n:cs,p.cells.getD i .non = .int n:=by
 cases p with
 |num g=>
  rw[PM.cells,bb,a'];rcases g[i]? with _ |_ |n
  ·exact .inl Y
  ·exact .inl Y
  ·exact .inr (.inr (Y,n,Y))
 |wrd I g=>
  rw[PM.cells,bb,a'];rcases g[i]? with _ |_ |n
  ·exact .inl Y
  ·exact .inl Y
  ·exact .inr (.inl (Y,1))
theorem Sw(a:∀x∈J,∀y∈J,ro x y)(i j:b8):ro (J.getD i .non) (J.getD j .non):=by
 rw[bb,bb];cases e:J[i]? with
 |none=>exact .inl Y
 |some x=>cases b:J[j]? with
  |none=>exact .inr (.inl Y)
  |some y=>exact a x (a0 e) y (a0 b)
theorem ny.eqd{B:U (U V)}(e:ny H X B)(f:ny H bs B)(g:∀p∈B,p.all bz=bm)(j:b8)(a b:V)(c:(X.map V.ref)[j]?=O a)(d:(bs.map V.ref)[j]?=O b):Hy K H 50 a b:=by
 rw[a']at c d;let(m,h,Y):=d3.mp c;let(c,m,Y):=d3.mp d;let(p,c,d):=e.get h;let(n,e,h):=f.get m;cases c.symm.trans e;refine .tup (fx.of d) (fx.of h) Y λj x y ex d=>?_;cases ex.symm.trans d;exact .flat _ (dv.mp (g p (a0 c)) _ (a0 ex))
theorem V0{l:U Key}:∀p∈l.map (gT J am is),p.all bz=bm:=λp m=>by
 let(Au,_,Y):=cv.mp m;rcases Au with (_ |_) |_ <;> rfl
noncomputable def Fc(J:U V)(lv:U cs)(cs2:U V)(lv2:U cs)(i j:b8):U (cs×cs):=if J.getD i .non = .non then [] else ((da j).filter λj=>decide (cs2.getD j .non=J.getD i .non)).map λj=>(zzq (lv.getD i 0) (lv2.getD j 0))
theorem Zx      : Fc J lv cs2 lv2 i 0=[]:=by rw[Fc];split <;> rfl
theorem PX      : (Fc J lv cs2 lv2 i j).length<=j:=by
 rw[Fc]
 split
 ·exact ej _
 ·rw[ai];exact ce (eu _ _) (g3 dV)
theorem Uk(h:J.getD i .non = .non\/cs2.getD j .non≠J.getD i .non):Fc J lv cs2 lv2 i (j+1)=Fc J lv cs2 lv2 i j:=by
 rw[Fc,Fc];by_cases e:J.getD i .non = .non
 ·rw[d6 e,d6 e]
 ·rw[du e,du e,hr,h3,gk,du (by rw[g1];exact h.resolve_left e)];simp
theorem X3(h:J.getD i .non≠.non)(e:cs2.getD j .non=J.getD i .non):Fc J lv cs2 lv2 i (j+1)=Fc J lv cs2 lv2 i j++[(zzq (lv.getD i 0) (lv2.getD j 0))]:=by
 rw[Fc,Fc,du h,du h,hr,h3,gk,d6 (by rw[g1];exact e),b3];rfl
inductive Jn(H:Hp)(b:eg)(gs:U (U V))(v:V):Prop
 |n(p:a_)(X:U a_)(_:b=b1)(_:v = .ref p)(_:H p=O (.lst (X.map V.ref)))(_:ny H X gs)
 |w(_:b=bm)(_:v = .str "question")
theorem Jn.rt{b:eg}{gs:U (U V)}{v:V}(h:Jn H b gs v)(d:nf t H)(r:RT t H A):Jn A b gs v:=by
 rcases h with⟨p,X,a,c,f,j⟩ |⟨a,c⟩
 ·exact .n p X a c (r.keep d f nofun) (j.kt λb g e=>r.keep d e nofun)
 ·exact .w a c
structure Lw(K:bI)(t:Ad)(p:a_)(ns:U cs)(S S':LT)(H:Hp):Prop where
 a:bK t H S
 b:bK t H S'
 u:nf t H
 s:eb K H p (ns.map V.int)
theorem Lw.rt{C:U cs}{a:LT}(h:Lw K t p C S a H)(r:RT t H A):Lw K t p C S a A:=
 (h.a.mono λb o n e=>r.keep h.u e n,h.b.mono λb o n e=>r.keep h.u e n,r.2 h.u,r.seq h.u h.s)
theorem tI(h:0<n):∃i:b8,m % (n:cs)=i/\i<n:=by
 have a:=fi m (b:=(n)) ?o;have a:=fl m (b:=(n)) (sJ.mpr ‹_›);exact((m % (n)).toNat,?o,?x)
theorem ZW:(["_law_number","_law_where_here","_law_columns_here","_law_rows"]:U c3).Nodup:=?k
theorem UE:(["_law_one"]:U c3).Nodup:=?k
def Wz[T:Gd]{f:a_}(F:rS gK "law" "law" jf f Ar):aN gP gw gK gm gb r_ 30 f Ar ["_law_script"] (k9 gK (nv gt)):=by
 refine F.o ["_law_script","_law_columns_here","_law_table","_law_rows","_law_theirs","_law_other","_law_others","_law_by_here","_law_of","_law_at","_law_name","_law_falling","_law_where_here","_law_good","_law_due","_law_found_here","_law_pairs","_law_number","_law_one","_law_value","_law_bad"] λG DL Aq Cu A4 H El Q E B h=>?_;let(p,C,Y,Cd,Cv,Dj,q):=h;have BE:=gB B;have oV:=oV B;refine gz (_,(bi (aD 1 G (vA.pe B ap (fH ?A ah)))
  (bi (pP (vB.pe B ap (aJ ?A (aJ ah (fH ?B ah)))) (dA gK (n:=2) Y (bv (aF 2 G) (bv (aF 3 G) dB))))
  (bi (aD 4 G (vA.pe B ap (fH ?A ah)))
  (bi (pP (vB.pe B ap (aJ ?A (aJ ah (fH ?G ah)))) (dA gK (n:=2) Y (bv (aF 5 G) (bv (aF 6 G) dB))))
  (bi (aD 7 G (aq bV (fF.pe B ap (fH ?A ah)) (aH (bR gK) ?r T.be z4 (e0 ?B))))
  (bi (aD 8 G (aq bV (fF.pe B ap (fH ?A ah)) (aH (bR gK) ?r T.be z4 (e0 ?B))))
  (bi (aD 9 G (aq bV (fF.pe B ap (fH ?A ah)) (aH (bR gK) ?r T.be z4 (e0 ?G))))
  (bi (aD 10 G (l3 gK (nC gK ?B ?J) ah))
  (bi (dk ev Y (jP (bP (fH di di))) (aF 11 G)
   (aj (aI (aE (QB gK BE) (ip.pe B ap (aJ ah (aJ ?C (aJ ?M (fH ?N a9))))) (vz.pe B ap (aJ ?E (fH ?J ?N)))) (aj (ay di))
   aK)))
  (bi (aD 12 G (RN.pe B ap (aJ ?A (aJ ah (fH ?B ah)))))
  (bi (gR 13 G (Ae:=["_law_number","_law_where_here","_law_columns_here","_law_rows"]) (fr:=[bd,O 12,O 1,O 3]) (ba (aH (kg Y) ?r T.ik qf (e0 ?E))) (λAk As A4 H=>(aF 0 ZW,(gQ (bY (UB.pe B ap (aJ ?B (fH ?C (fX BE ?E ?A (λ_ _=>rfl))))))),?A)))
  (bi (aD 14 G (cT (aE aW (l3 gK (nC gK ?B ?K) ah) au) (Θ.pe B ap (aJ ?E (aJ ?J (fH ?K ?P)))) au))
  (bi (aD 15 G (ip.pe B ap (aJ ah (aJ ?C (aJ ?M (fH ?O (l3 gK (nC gK ?B ?K) ah)))))))
  (bi (aI (PW.pt (fc (aE (l6.alt (zg gK oV) eK) ?R ?Q) (fB (PW.pt (je (aE (l6.alt (ZB gK BE) eK) ?Q au) (jQ (dQ (bY (aH (jz gK Y) ?r T.i8 zb (e0 (bf (Ae:=["_law_one"]) (fr:=[bd]) (ba ?R) (λAk As A4 H=>(aF 0 UE,bh,(fW (vC.pe B ap (e0 (l3 gK ?A ah))) (d0 (vC.pe B ap (e0 (l3 gK ?A ah)))))))))))))))))) (aj (ay di))
   aK)
  (bi (aD 16 G (bO dJ))
  (bi (dk ev Y (ba (aH (kg Y) ?r T.ik qf (e0 ?E))) (aF 17 G)
   (aj (dk ev Y (ba (aH (kg Y) ?r T.ik qf (e0 ?I))) (aF 18 G)
   (ak (aD 19 G (nC gK (fX BE ?E ?V (λ_ _=>rfl)) ?J))
  (aj (aI (PW.pt (je (aE kQ ?X a9) (je (aE aW (l3 gK (nC gK ?B ?J) ah) (l3 gK (nC gK ?G ?L) ah)) (jQ (aE aW (nC gK (fX BE ?I ?W (λ_ _=>rfl)) ?L) ?X))))) (aj (aV (bX gK d2 eH eL gE ?U (e0 (bP (fH ?V ?W))))))
   aK))))))
  (bi (aI (aE (zg gK oV) (ip.pe B ap (aJ ah (aJ ?C (aJ ?M (fH ?H (l3 gK (nC gK ?G ?L) ah)))))) ?U) (aj (ay di))
   aK)
  (bi (aD 20 G (bO (fH (ip.pe B ap (aJ ah (aJ ?C (aJ au (fH di a9))))) (ip.pe B ap (aJ ah (aJ ?C (aJ au (fH (bP (e0 au)) au))))))))
  (bi (aD 20 G (aq jc ?Y (bO (fH (ip.pe B ap (aJ ah (aJ ?C (aJ ?M (fH (bP (e0 au)) au))))) (ip.pe B ap (aJ ah (aJ ?C (aJ au (fH ?H au)))))))))
  (bi (aD 20 G (aq jc ?Y (bO (e0 (ip.pe B ap (aJ ah (aJ ?C (aJ ?M (fH ?H au)))))))))
  (bi (aI (aE eK (ip.pe B ap (aJ ah (aJ ?C (aJ ?M (fH (bP (e0 au)) (l3 gK (nC gK ?B ?K) ah)))))) au) (aj (ay di))
   aK)
  (pR (ay (eN (Ol gK BE) ?Y (aq OV (bO (e0 au)) ah))))))))))))))))))))))))),?_)
 have Dk:nf gt H:=λe m=>(#[],Dj _ (g_ m),trivial,.inl Y)
 refine aM λN d=>(p,C,(0),Y,Cd,λl X hs Ai Bb Cw A5 BI L=>d _ _ ?_)
 clear d N;refine aM λN d=>(p,l,C,(10),X,hs,Y,Bb.seq Cd,A5,BI,L,λpr An S Cy AH Cz Bm AF Bd=>?_)
 subst Bm AF;refine(pr,1,fx.of AH,Y,_,1,_,1,Y,d _ _ ?_);clear d N;have Dl:=Dk.same (Bb.trans Cy);have Ce:=(Bb.trans Cy).seq Cd;clear A5 BI Cw Bb Cy Dk AH Dj Cd;refine aM λN d=>(p,C,(5),Y,Ce,λl X hs H3 Be C0 Bn BI DM=>d _ _ ?_)
 clear d N;refine aM λN d=>(p,l,C,(100),X,hs,Y,Be.seq Ce,Bn,BI,DM,λpr H4 s Cf AH Bo Bm AF Bp=>?_)
 subst Bm AF;refine(pr,1,fx.of AH,Y,_,1,_,1,Y,d _ _ ?_);clear d N;have W:Lw gK gt p C S s H4:=(Cz.same (Be.trans Cf),Bo,Dl.same (Be.trans Cf),(Be.trans Cf).seq Ce)
 have C4:=Cz.fit.6;have BJ:=Bo.fit.6;clear Bn BI C0 Be Cf Cz Bo Dl Ce AH;let(b,Dm,B):=tI (m:=mix C 50) W.a.lh.1;let(o,Dn,G):=tI (m:=mix C 51) W.a.lh.1;let(a,Do,AH):=tI (m:=mix C 52) W.b.lh.1;let(A5,Dp,P,c1):=W.a.col B;let(C6,Cg,AI,A9):=W.a.col G;let(Bn,Dq,AG,AN):=W.b.col AH;have Bq:∀(S:LT){H:Hp},bK gt H S->((S.as.map V.ref).length:cs)=(?lS.hs:cs):=λS _ h=>by rw[ai,h.heads.1]
 refine aM λN d=>(p,C,(50),Y,W.s,S.l,1,.inl (eb.of W.a.1),_,1,Y,by rw[Bq S W.a];exact v1.mpr W.a.lh.1,d _ _ ?_)
 clear d N
 try dsimp only
 rw[Bq S W.a,Dm];refine aM λN d=>(p,C,(51),Y,W.s,S.l,1,.inl (eb.of W.a.1),_,1,Y,by rw[Bq S W.a];exact v1.mpr W.a.lh.1,d _ _ ?_)
 clear d N
 try dsimp only
 rw[Bq S W.a,Dn];refine aM λN d=>(p,C,(52),Y,W.s,s.l,1,.inl (eb.of W.b.1),_,1,Y,by rw[Bq s W.b];exact v1.mpr W.b.lh.1,d _ _ ?_)
 clear d N
 try dsimp only
 rw[Bq s W.b,Do];clear Bq Dm Dn Do;refine aM λN d=>(S.l,_,_,1,Y,eb.of W.a.1,c1.at',Dp,_,_,1,Y,fx.of (c1.tup W.a),Y,d _ _ ?_)
 clear d N;have AR:?lS.living<=6:=ce C4 Bd;have Br:?ls.living<=6:=ce BJ Bp;have Bt:∀{p:aU},aR (S.hs.map (·.1)) S.9 A5.1=O p.2.2->p.2.2=P.2.2:=λe=>c_ (e.symm.trans (c1.pm W.a));have C7:∀{L:LT}{ix:U b8},(ix.map λi=>V.int (L.living.getD i 0)).all bz=bm:=λ{L ix}=>by rw[l',dv];intro _ _;rfl
 have B:=λj=>iB P.2.2 j;have C8:=ou P.2.2;have BK:∀{p:PM},∀x∈p.cells,sG x:=λ{p} x m=>by
  let(i,e):=ez m;have:=iB p i
  rwa[bb,e]at this
 refine aM λN d=>(av Y,λu BL=>(u,Y,(_,fx.of ae),?_))
 have W:=W.rt (.of (aa.new (o:=.tup [.bl b1,.bl bm]) BL));have Dr:(upd H4 u (.tup [.bl b1,.bl bm])) u=O (.tup [.bl b1,.bl bm]):=ae;generalize upd H4 u (.tup [.bl b1,.bl bm])=Dt at *;refine⟨xG (K:=gK) (a:=u) (B:=[.bl b1,.bl bm]) (λi σ A=>∃R:b5 V,σ=[O (.ref p),O (.ref S.l),O (.ref S.2),O (.ref S.3),O (.ref s.l),O (.ref s.2),O (.ref s.3),O (.int b),O (.int o),O (.int a),O (.str A5.1),R,bd,bd,bd,bd,bd,bd,bd,bd,bd]/\RT gt Dt A) (bd,Y,RT.refl _ _) ?_ ?_ ?_⟩
 ·rintro i σ A _ ⟨_,rfl,r⟩;exact fx.of (r.keep W.u Dr nofun)
 ·rintro i x σ Du Bu ⟨R,rfl,BM⟩;obtain⟨c,rfl⟩:∃c:eg,x = .bl c:=by
   have:=a0 Bu;simp only[bG,dH,f8]at this;exact this.elim (λe=>(_,e)) λe=>(_,e)
  have AS:=W.rt BM;refine((0),S.2,_,_,1,.inl (Y,S.2,_,S.9,S.10,C1 S.8,A5.1,c,Y,AS.a.tbo Bd,AR,AS.u,λp _=>ou p.2.2,λp _ Bv lr C9 ix Dv DN Bf=>?_,λn=>cx c1.mem n));rw[Bt Bv]at Bf;have Bw:=AS.rt Dv;refine(S.3,S.10,S.12,b,c,P.2.2.cells,Y,Bw.a.5,c1.row Bw.a,Bw.a.fit.7,Bw.a.fit.4,AR,(c1.cells Bw.a).symm,BK,C8,λAI Ch DO BN DP CB=>(lr,AI,_,1,Y,eb.of (BN _ _ DN),eb.of DP,C7,C7,1,?_));rw[Vr Bf CB,xr C7];exact ao (1,BM.trans (Dv.trans (.of BN)))
 rintro σ Du ⟨R,rfl,BM⟩;refine d _ _ ?_;clear d N;have W:=W.rt BM;clear BM Dr BL;refine aM λN d=>(p,S.l,C,(60),(3),S.7,S.8,Y,W.s,W.a.1,W.a.2,W.a.3,?a,?a,λBg Bx C9 AT Bw=>d _ _ ?_)
 clear d N;let(AA,CC):=Bw;have DQ:n8 (cW gt (aR (S.hs.map (·.1)) S.9)) gt.eBadQuestion 1 Bx=bd:=CC _ (λh B=>W.a.pm.1 (g_ B)) 1 ?o;have DR:n8 (cW gt (H5 S.8)) gt.eBadQuestion 1 Bx=bd:=CC _ (λh B=>by rw[H5,d6 (g_ B)];rfl) 1 ?o;have W:=W.rt (.of AT);clear AT CC;obtain⟨Ao,Dw⟩:∃Ao,Bx.holds (hW (aR (S.hs.map (·.1)) S.9))=Ao:=⟨_,Y⟩
 have Dx:∀{i:b8}{r:a_×U V},S.12[i]?=O r->Ao i=Bx.holds (hR S.8 r.2) ():=λCD=>Dw ▸ W.a.holds CD Bx;refine aM λN d=>(S.3,S.10,S.rows.map (λr:a_×U V=>V.ref r.1),Y,W.a.5,by rw[ai,W.a.fit.7],W.a.fit.ris.imp k7,?o,λBy A6=>(By,Y,(_,eb.of ae),iX (ys:=da ?lS.living) (G:=λi=>.int (S.living.getD i 0)) Ao (λi=>.int (S.living.getD i 0)) (by rw[tq];exact eb.of ae) (by rw[dV];omega) (λ_ i BF A DS Z Bz y z=>?_) λB0 DT Bh Dy _=>d _ _ ?_))
 ·have Bz:=(aa.new A6).trans Bz;have AS:=W.rt (.of Bz);let(r,CD,DU,DV,CF):=AS.a.cell (el.mp (a0 BF));refine(Wk.set Y,S.3,1,DV,Bg,S.l,r.1,S.7,S.8,r.2,Bx,(1),Y,AA.kt (cX Bz),DR,?a,AS.a.1,AS.a.2,AS.a.3,CF,AS.a.fit.fit _ DU,λC9 AT=>(1,?_));rw[<-Dx CD];exact kF (λe=>y e _ AT) λe=>z e _ AT
 have Bh:=(aa.new A6).trans Bh;have W:=W.rt (.of Bh);have AA:=AA.kt (cX Bh);clear d N Dx Bh A6;have BO:=W.a.fit.kin o C6 AI A9.2 A9.4;have two:=(W.a.lh.mem (a0 A9.2)).2;have DW:P.2.2.cells.length=?lS.living:=(iC _).trans (W.a.fit.ok _ (a0 c1.4)).2;have BP:=A9.pm W.a;refine aM λN d=>?_;have BQ:∀A7 gs A,RT gt DT A->(AI.2.2.isW=b1->∃ix,Ord b1 P.2.2.cells ix/\gs=(mN ((ix.filter Ao).map (kk P.2.2.cells))).map (gT P.2.2.cells AI.2.2.cells (ix.filter Ao)))->Jn A AI.2.2.isW gs A7->N [O (.ref p),O (.ref S.l),O (.ref S.2),O (.ref S.3),O (.ref s.l),O (.ref s.2),O (.ref s.3),O (.int b),O (.int o),O (.int a),O (.str A5.1),R,O (.ref Bg),O (.ref B0),O A7,bd,bd,bd,bd,bd,bd] A:=by
  intro A7 gs G B B4 AJ;have AA:=AA.kt (B.kt W.u);have W:=W.rt B;refine d _ _ ?_;clear d N B Dy;refine aM λN d=>?_;have BR:∀AB A,RT gt G A->Jn A AI.2.2.isW gs AB->N [O (.ref p),O (.ref S.l),O (.ref S.2),O (.ref S.3),O (.ref s.l),O (.ref s.2),O (.ref s.3),O (.int b),O (.int o),O (.int a),O (.str A5.1),R,O (.ref Bg),O (.ref B0),O A7,O AB,bd,bd,bd,bd,bd] A:=by
   intro AB G B BS;have AJ:=AJ.rt W.u B;have W:=W.rt B;refine d _ _ ?_;clear d N B AA;refine aM λN d=>?_;have BU:∀A,RT gt G A->N [O (.ref p),O (.ref S.l),O (.ref S.2),O (.ref S.3),O (.ref s.l),O (.ref s.2),O (.ref s.3),O (.int b),O (.int o),O (.int a),O (.str A5.1),R,O (.ref Bg),O (.ref B0),O A7,O AB,bd,bd,bd,bd,bd] A:=by
    intro AD B;have W:=W.rt B;refine d _ _ ?_;clear d N B AJ BS B4;have no:=W.a.no;have CG:=W.b.no;have BV:∀{p:aU},aR (s.hs.map (·.1)) s.9 Bn.1=O p.2.2->p.2.2=AG.2.2:=λe=>c_ (e.symm.trans (AN.pm W.b));have Bi:=W.a.fit.kin b A5 P c1.2 c1.4;have Bj:=W.b.fit.kin a Bn AG AN.2 AN.4;have Bk:=(W.a.lh.mem (a0 c1.2)).2;have Bl:=(W.b.lh.mem (a0 AN.2)).2;refine aM λN d=>(av Y,λAC B5=>d _ _ ?_)
    clear d N;refine aM λN d=>?_;have BG:aa AD (upd AD AC (.lst [])):=aa.new B5;have gP:(upd AD AC (.lst [])) AC=O (.lst []):=ae;generalize upd AD AC (.lst [])=CK at BG gP ⊢;have AU:=W.rt (.of BG);refine(S.3,S.10,S.rows.map (λr:a_×U V=>V.ref r.1),Y,AU.a.5,by rw[ai,AU.a.fit.7],AU.a.fit.ris.imp k7,?o,λBy A6=>(By,Y,(_,eb.of ae),?_));clear AU;refine kA (P:=λAj=>_) (aa.refl CK) A6 λB B6 AK=>?_;have Dz:By≠AC:=λz=>by rw[z,gP]at A6;cases A6
    have gP:=B6 _ _ gP;have BG:=BG.trans B6;clear B6 A6;refine⟨fQ (K:=gK) (a:=By) (B:=S.living.map V.int) (λi σ A=>∃(AV J K:b5 V)(bs:U a_),σ=[O (.ref p),O (.ref S.l),O (.ref S.2),O (.ref S.3),O (.ref s.l),O (.ref s.2),O (.ref s.3),O (.int b),O (.int o),O (.int a),O (.str A5.1),R,O (.ref Bg),O (.ref B0),O A7,O AB,O (.ref AC),AV,J,K,bd]/\aa AD A/\A By=O (.lst (S.living.map V.int))/\A AC=O (.lst (bs.map V.ref))/\ny A bs ((GY P.2.2.cells S.10 AG.2.2.cells s.10 i).map pT)) (bd,bd,bd,[],Y,BG,AK,gP,trivial) ?_ ?_ ?_⟩
    ·rintro i σ A _ ⟨_,_,_,_,rfl,_,e,_⟩;exact eb.of e
    ·rintro i x σ A Bu ⟨AV,J,K,bs,rfl,M,AO,A8,u⟩;have BF:i<?lS.living:=by have:=(bg.mp Bu).1;rwa[ai]at this
     cases (yg BF).symm.trans Bu;have AE:=W.rt (.of M);refine(s.3,s.10,s.rows.map (λr:a_×U V=>V.ref r.1),Y,AE.b.5,by rw[ai,AE.b.fit.7],AE.b.fit.ris.imp k7,?o,λCi AW=>(Ci,Y,(_,eb.of ae),?_));refine kA (P:=λAj=>_) (aa.refl A) AW λB AL CN=>?_;have DX:Ci≠AC:=λz=>by rw[z,A8]at AW;cases AW
     have AO:=AL _ _ AO;have A8:=AL _ _ A8;have u:=u.kt λb g e=>AL b _ e;have M:=M.trans AL;clear AE AL AW;refine⟨fQ (K:=gK) (a:=Ci) (B:=s.living.map V.int) (λj σ A=>∃(J K:b5 V)(bs:U a_),σ=[O (.ref p),O (.ref S.l),O (.ref S.2),O (.ref S.3),O (.ref s.l),O (.ref s.2),O (.ref s.3),O (.int b),O (.int o),O (.int a),O (.str A5.1),R,O (.ref Bg),O (.ref B0),O A7,O AB,O (.ref AC),O (.int (S.living.getD i 0)),J,K,bd]/\aa AD A/\A By=O (.lst (S.living.map V.int))/\A Ci=O (.lst (s.living.map V.int))/\A AC=O (.lst (bs.map V.ref))/\ny A bs ((GY P.2.2.cells S.10 AG.2.2.cells s.10 i++Fc P.2.2.cells S.10 AG.2.2.cells s.10 i j).map pT)) (J,K,bs,Y,M,AO,CN,A8,by rw[Zx,f2];exact u) ?_ ?_ ?_⟩
     ·rintro j σ A _ ⟨_,_,_,rfl,_,_,e,_⟩;exact eb.of e
     ·rintro j x σ A Bu ⟨J,K,bs,rfl,M,AO,gm,A8,u⟩;have DA:j<?ls.living:=by have:=(bg.mp Bu).1;rwa[ai]at this
      cases (yg DA).symm.trans Bu;have AE:=W.rt (.of M);let(DY,CO,_,CP,CS):=AE.a.cell BF;let(DZ,CU,_,CV,CY):=AE.b.cell DA;refine aM λN d=>(S.3,1,CP,DY.1,_,_,1,Y,eb.of CS,c1.val AE.a CO,d _ _ ?_)
      have BW:=wJ P.2.2 i;have B7:=wJ AG.2.2 j;have CZ:=iB P.2.2 i;have Db:=iB AG.2.2 j;have Dc:=Uk (J:=P.2.2.cells) (lv:=S.10) (cs2:=AG.2.2.cells) (lv2:=s.10) (i:=i) (j:=j);have Ea:=X3 (J:=P.2.2.cells) (lv:=S.10) (cs2:=AG.2.2.cells) (lv2:=s.10) (i:=i) (j:=j);have Eb:=AN.val AE.b CU;generalize P.2.2.cells.getD i .non=x at *;generalize AG.2.2.cells.getD j .non=y at *;refine(Y,1,?_);by_cases ex:x = .non
      ·rw[ex];exact ao (ao (_,_,bs,Y,M,AO,gm,A8,by rw[Dc (.inl ex)];exact u))
      refine nT ex (S.l,_,_,1,Y,eb.of AE.a.1,c1.at',Dp,_,_,1,Y,fx.of (c1.tup AE.a),Y,s.l,_,_,1,Y,eb.of AE.b.1,AN.at',Dq,_,_,1,Y,fx.of (AN.tup AE.b),Y,Y,1,?_);by_cases Cj:A5.2=Bn.2
      case neg=>
       refine dF (λz=>Cj (V.str.inj z)) (ao (_,_,bs,Y,M,AO,gm,A8,?_));rw[Dc (.inr λz=>?_)]
       ·exact u
       rw[Bi]at BW;rw[Bj]at B7;rcases BW with c |⟨c,n,e⟩ |⟨c,n,e⟩
       ·exact ex c
       ·rcases B7 with AX |⟨AX,m,BX⟩ |⟨AX,m,BX⟩
        ·exact ex (z.symm.trans AX)
        ·exact Cj ((eh c).trans (eh AX).symm)
        ·cases BX.symm.trans (z.trans e)
       ·rcases B7 with AX |⟨AX,m,BX⟩ |⟨AX,m,BX⟩
        ·exact ex (z.symm.trans AX)
        ·cases BX.symm.trans (z.trans e)
        ·exact Cj ((Bk.resolve_right (tS c)).trans (Bl.resolve_right (tS AX)).symm)
      refine dT (eG V.str Cj) (s.3,1,CV,DZ.1,_,_,1,Y,eb.of CY,Eb,Db.sc CZ,1,?_);by_cases AY:y=x
      case neg=>
       exact dF AY (_,_,bs,Y,M,AO,gm,A8,by rw[Dc (.inr AY)];exact u)
      rw[dg AY];have Ec:?lbs<bT:=by
       have:=u.len;rw[ai,cc]at this;have:=sR P.2.2.cells S.10 AG.2.2.cells Br i;have:=PX (J:=P.2.2.cells) (lv:=S.10) (cs2:=AG.2.2.cells) (lv2:=s.10) (i:=i) (j:=j);exact bJ ?o
      refine aA (.inl (Y,_,eb.of A8),av Y,λDd AZ=>(AC,_,1,Y,aa.new AZ _ _ A8,by rw[ai];exact Ec,?_));have Ck:∀{Cn:a_}{o:HO}{Aw v:HO},Cn≠AC->A Cn=O o->upd (upd A Dd Aw) AC v Cn=O o:=λB e=>by rw[af B,af (aC e AZ)];exact e
      refine(_,_,bs++[Dd],Y,λb o e=>Ck (aC e B5) (M b o e),Ck Dz AO,Ck DX gm,by rw[b3];exact ae,?_);rw[Ea ex AY,<-mc,b3];refine ny.app (show ny _ [Dd] [[.int (S.living.getD i 0),.int (s.living.getD j 0)]] from(?_,trivial)) (u.kt λCn g e=>Ck (λz=>by rw[z,A8]at e;cases e) e);rw[af (λz=>by rw[z,A8]at AZ;cases AZ)];exact ae
     ·rintro σ A ⟨J,K,bs,rfl,M,AO,_,A8,u⟩;rw[ai]at u;exact(_,J,K,bs,Y,M,AO,A8,by rw[sS];exact u)
    rintro σ B ⟨AV,J,K,bs,rfl,BY,_,A8,u⟩;rw[ai]at u;have W:=W.rt (.of BY);refine d _ _ ?_;clear d N BG gP AK Dz BY B5 Bi Bj Bk Bl;refine aM λN d=>(s.l,_,_,1,Y,eb.of W.b.1,AN.at',Dq,_,_,1,Y,fx.of (AN.tup W.b),Y,(2),S.2,_,_,1,.inr (.inr (Y,S.2,s.2,_,S.9,S.10,C1 S.8,_,s.9,s.10,C1 s.8,A5.1,Bn.1,Y,W.a.tbo Bd,W.b.tbo Bp,AR,Br,λB _ Bv Ed _ B8 l X A M Cv Co=>?_,λn=>cx c1.mem n,λn=>cx AN.mem n)))
    rw[Bt Bv,BV B8]at Co;refine(l,AC,_,1,Y,eb.of Cv,eb.of (M _ _ A8),by rw[ai,ai,Co.len,u.len],Co.eqd (u.kt λb g e=>M b _ e) (λp m=>by let(_,_,Y):=cv.mp m;rfl),1,ao (d _ _ ?_));have W:=W.rt (.of M);clear d N Co Cv u A8 BV M;have Cp:aR (S.hs.map (·.1)) S.9 "no" =bd:=W.a.pm.2 no;have De:aR (s.hs.map (·.1)) s.9 "no" =bd:=W.b.pm.2 CG;have Cq:∀{Q:VK}{A:Hp},(∀D,aa A D->Q (.str "column") D)->EQ gt Q (.ref gt.eNoColumn) A:=λk=>(_,1,.inr (Y,Y),k)
    have B9:∀p∈S.9,∀x∈p.2.2.cells,∀y∈p.2.2.cells,ro x y:=λp _=>ou p.2.2;have Df:∀{Ai:Hp}{Q:VK}{AQ:a_}{z:c3},Lw gK gt p C S s Ai->Ai AQ=bd->(∀An,RT gt Ai An->Q (.str "column") An)->pZ gt [.ref S.2,.str z,.ref AQ,.str "no"] (upd Ai AQ (.tup [.str "x"])) Q λc _ A=>EQ gt Q c A:=λ{Ai Q AQ z} Cr A3 k=>
     let A4:=aa.new A3;let DB:=Cr.rt (.of A4)
     (S.2,AQ,_,S.9,S.10,C1 S.8,.lf (.bad "x" []),z,"no",Y,DB.a.tbo Bd,(ae,ej _,Y,nofun),DB.u,AR,B9,λp _ _ g ex=>cx (Cp.symm.trans ex) nofun,λ_ A r=>Cq λD M=>k _ ((RT.of A4).trans (r.trans (.of M))),λI g ex=>cx (Cp.symm.trans ex) nofun,λg ex=>cx (Cp.symm.trans ex) nofun)
    have Dg:∀{Ai:Hp}{Q:VK}{z:c3},Lw gK gt p C S s Ai->(∀An,aa Ai An->Q (.str "column") An)->p6 gt [.ref S.2,.str z,.ref s.2,.str "no"] Ai Q λc _ A=>EQ gt Q c A:=λ{Ai Q z} Cr k=>
     (S.2,s.2,_,S.9,S.10,C1 S.8,_,s.9,s.10,C1 s.8,z,"no",Y,Cr.a.tbo Bd,Cr.b.tbo Bp,AR,Br,λp _ _ Ed _ B8=>cx (De.symm.trans B8) nofun,λ_=>Cq k,λ_ A A4=>Cq λD M=>k _ (A4.trans M))
    refine aM λN d=>((0),S.2,_,_,1,.inl (Y,S.2,_,S.9,S.10,C1 S.8,"no",b1,Y,W.a.tbo Bd,AR,W.u,B9,λp _ Bv=>cx (Cp.symm.trans Bv) nofun,λ_=>Cq λAi Bb=>(av Y,λAQ A3=>((1),S.2,_,_,1,.inr (.inl (Y,Df (W.rt (.of Bb)) A3 λAn DE=>(av Y,λEe B=>d _ _ ?_)))))))
    have W:=(W.rt (.of Bb)).rt DE;refine kA (P:=λAj=>f9 _ _ _ _ Aj) (.refl _) B λH3 Be DF=>?_;have W:=W.rt (.of Be);clear d N Be B DE A3 Bb;refine aM λN d=>(av Y,λAQ A3=>((1),S.2,_,_,1,.inr (.inl (Y,Df W A3 λH4 Cs=>((2),S.2,_,_,1,.inr (.inr (Y,Dg (W.rt Cs) λDt Dh=>(av Y,λEf BB=>(Ee,Ef,_,1,Y,aa.new BB _ _ (Dh _ _ (Cs.keep W.u DF nofun)),ae,av Y,λEg B=>d _ _ ?_)))))))))
    have W:=(W.rt Cs).rt (.of Dh);refine kA (P:=λAj=>f9 _ _ _ _ Aj) (aa.new BB) B λDu Bz DG=>?_;have W:=W.rt (.of Bz);clear d N Bz B BB Cs Dh A3 DF;refine aM λN d=>((2),S.2,_,_,1,.inr (.inr (Y,Dg W λC9 AT=>(av Y,λEh BC=>(Eg,Eh,_,1,Y,aa.new BC _ _ (AT _ _ DG),ae,av Y,λDH B=>d _ _ ?_)))))
    have W:=W.rt (.of AT);refine kA (P:=λAj=>f9 _ _ _ _ Aj) (aa.new BC) B λCh BN Ei=>?_;have W:=W.rt (.of BN);clear d N BN B BC AT DG Df Dg;refine aM λN d=>(av Y,λAQ A3=>?_)
    have Bh:=aa.new (o:=.tup [.str "x"]) A3;have Ct:=W.rt (.of Bh);have DI:∀{Q:VK}{A:Hp},RT gt (upd Ch AQ (.tup [.str "x"])) A->(∀D,RT gt Ch D->Q (.str "question") D)->EQ gt Q (.ref gt.eBadQuestion) A:=λr k=>(_,1,.inl (Y,Y),λD A4=>k _ ((RT.of Bh).trans (r.trans (.of A4))))
    have fin:∀A,RT gt Ch A->N [O (.ref p),O (.ref S.l),O (.ref S.2),O (.ref S.3),O (.ref s.l),O (.ref s.2),O (.ref s.3),O (.int b),O (.int o),O (.int a),O (.str A5.1),R,O (.ref Bg),O (.ref B0),O A7,O AB,O (.ref AC),AV,J,K,O (.ref DH)] A:=λA r=>d _ _ (av Y,λEj Bm=>(Ej,(5),1,Y,ae,?a,?a,av Y,λEk AF=>(DH,Ek,_,1,Y,eb.of (aG (aa.new Bm) AF _ _ (r.keep W.u Ei nofun)),eb.of ae,Y,Y,q _)));refine(S.l,_,_,1,Y,eb.of Ct.a.1,A9.at',Cg,_,_,1,Y,fx.of (A9.tup Ct.a),Y,(1),S.2,_,_,1,.inr (.inl (Y,S.2,AQ,_,S.9,S.10,C1 S.8,.lf (.bad "x" []),A5.1,C6.1,Y,Ct.a.tbo Bd,(ae,ej _,Y,nofun),Ct.u,AR,B9,λ_ _ _ _ _ BW=>cx (show O gt.eBadQuestion=bd from BW) nofun,λn=>n.elim (cx c1.mem) (cx A9.mem),λI g ex A r=>DI r λD Di=>(Y,1,ao (fin _ Di)),λg ex Ak e A r=>?_)));obtain rfl:gt.eBadQuestion=Ak:=c_ e;exact DI r λD Di=>(Y,1,ao (fin _ Di))
   rcases BS with⟨BZ,AM,w,rfl,BD,Ba⟩ |⟨w,rfl⟩
   ·rcases AJ with⟨Ca,DJ,_,rfl,AK,Cb⟩ |⟨Cc,_⟩
    ·let(ix,Bf,Y):=B4 w;refine .inl (BZ,Ca,_,1,Y,eb.of BD,eb.of AK,by rw[ai,ai,Ba.len,Cb.len],Ba.eqd Cb V0,1,ao (.inl (Ca,_,"question",Y,Y,eb.of AK,1,aA ?_)));refine(BZ,Y,(_,eb.of BD),eC (ys:=AM) (G:=V.ref) (λ_=>.bl bm) (eb.of BD) ?_ (λi a BF A DS A4 k=>?_) λpd A A4 h _=>?_)
     ·have:=ce (oC ((ix.filter Ao).map (kk P.2.2.cells))) (g3 (ai _));have:=eu Ao ix;have:=Bf.1.length_eq;rw[dV]at this;rw[Ba.len,ai];omega
     ·let(B,Bm,AF):=Ba.get BF;let(Au,_,Y):=cv.mp (a0 Bm);exact(Wk.set Y,_,_,_,1,Y,fx.of (A4 _ _ AF),Y,2,aA (_,_,_,1,Y,fx.of (A4 _ _ AF),Y,1,k _ (.refl _)))
     ·refine(pd,AM.map λ_=>bm,Y,eb.of (by rw[d_];exact h),1,?_);rw[show (AM.map λ_=>bm).all id=bm by simp];exact ao (BU _ (.of A4))
    ·rw[w]at Cc;cases Cc
   ·rcases AJ with⟨_,_,Cc,_⟩ |⟨_,rfl⟩
    ·rw[w]at Cc;cases Cc
    ·exact .inr (Y,1,ao (.inr (Y,1,ao (ao (BU _ (.refl _ _))))))
  refine(S.l,_,_,1,Y,eb.of W.a.1,A9.at',Cg,_,_,1,Y,fx.of (A9.tup W.a),Y,(1),S.2,_,_,1,.inr (.inl (Y,S.2,Bg,_,S.9,S.10,C1 S.8,Bx,A5.1,C6.1,Y,W.a.tbo Bd,AA,W.u,AR,λp _=>ou p.2.2,λp _ Bv g ex BW l X A Ap r h DK u=>?_,λn=>n.elim (cx c1.mem) (cx A9.mem),λI g ex A r=>(_,"question",Y,.inl (Y,Y),λD A4=>BR _ _ (r.trans (.of A4)) (.w (by rw[c_ (BP.symm.trans ex)];rfl) Y)),λ_ _ Ak e=>cx (DQ.symm.trans e) nofun)));have AF:=c_ (BP.symm.trans ex);let(ix,Bf,Y):=B4 (by rw[AF];rfl);rw[Bt Bv,Dw,<-DW]at DK u;refine BR _ _ r (.n _ _ (by rw[AF];rfl) Y h ?_);rw[QS (iB _) (Sw C8) Bf DK,AF];exact u
 rcases two with e |e
 ·have BH:AI.2.2.isW=b1:=by rw[BO,e];decide +kernel
  obtain⟨g,ex⟩:∃g,AI.2.2 = .num g:=by cases h:AI.2.2 with
   |num g=>exact(g,Y)
   |wrd _ _=>rw[h]at BH;cases BH
  refine(S.l,_,_,1,Y,eb.of W.a.1,A9.at',Cg,_,_,1,Y,fx.of (A9.tup W.a),Y,Y,1,?_);rw[e];refine aA (S.3,B0,S.10,S.12,b,o,Ao,_,1,W.a.5,λr m=>((c1.row W.a r m).1,(c1.row W.a r m).2,(A9.row W.a r m).2),W.a.fit.7,W.a.fit.4,AR,Dy,(c1.cells W.a).symm,(A9.cells W.a).symm,BK,C8,?_,λq X A ix A4 h Bf u=>BQ _ _ _ (.of A4) (λ_=>(ix,Bf,Y)) (.n q X BH Y h u));rw[ex];intro x m;let(o,_,Y):=cv.mp m;cases o with
  |none=>exact .inl Y
  |some i=>exact .inr (i,Y)
 ·have BH:AI.2.2.isW=bm:=by rw[BO,e];decide +kernel
  refine(S.l,_,_,1,Y,eb.of W.a.1,A9.at',Cg,_,_,1,Y,fx.of (A9.tup W.a),Y,Y,1,?_);rw[e];exact ao (BQ _ [] _ (.refl _ _) (λz=>by rw[BH]at z;cases z) (.w BH Y))
theorem Ϸ{b:b8}{k0 c d e f:GZ}(l:K.lookup a=O (.type "tuple",bd,.seq #[.str "plain" k0,.str "runs" c,.str "book" d,.str "base" e,.str "steps" f] b,ksl))(H:Hp):fx K H a dI:=
 .inr (_,_,b,l,Y,Y,av Y,.cons (k0,Y) (.cons (c,Y) (.cons (d,Y) (.cons (e,Y) (.cons (f,Y) .nil)))))
theorem Ϻ{d:Data}(l:K.lookup a=O (.type "tuple",bd,d,ksl)):∃o,K.lookup a=O o/\o.cls = .type "tuple" /\ o.dict=bd:=(_,l,Y,Y)
theorem gen{P:f0}{b:fy}(h:Gp P w K Al b t){f:a_}(F:rS K "law" "law" jf f Ar):aN P w K Al b r_ 30 f Ar ["_law_script"] (k9 K [t.p_check_question_of,t.p_marked_values,t.p_Table_places_where,t.p_Table_places_where,t.p_Table_sorted_by,t.p_Table_sorted_by]):=
 KL λn=>by
  have e:Kv G_:=KN (p:=Kv) ((P,w,K,Al,b,t),h,f,Ar,F,n);let(a,f,Ar,F,n):=e;have T:Gd:=⟨by with_unfolding_all exact a⟩
  exact n (by with_unfolding_all exact Wz F)
theorem Ϯ{l:Ht}{I:a_}{z C A m E J s q y G j u B x H L d M h N b P g:a_}(Q:t=(z,C,A,m,E,J,s,q,y,G,j,u,B,x,H,L,d,M,h,N,b,P,g))(d:Al "law" =O (.ref I))(T:Txt K Al t)(D:Ds K Al t)(g:Fb w K Al "JOINING" JL)(h:Fb w K Al "SIMPLE_asking" SL)(j:Fb w K Al "SIMPLE_tables" TL)(ne:t.p_marked_values≠t.p_check_question_of/\t.p_Table_places_where≠t.p_check_question_of/\t.p_Table_sorted_by≠t.p_check_question_of/\t.p_Table_places_where≠t.p_marked_values/\t.p_Table_sorted_by≠t.p_marked_values/\t.p_Table_sorted_by≠t.p_Table_places_where)(hz:∀p∈[t.p_check_question_of,t.p_marked_values,t.p_Table_places_where,t.p_Table_places_where,t.p_Table_sorted_by,t.p_Table_sorted_by],K.lookup p=bd)(tWRITERS:(∃a b n,Al "WRITERS" =O (.ref a)/\K.lookup a=O (.type "dict",bd,.dict b n,#[])/\q1 w.params b.toList/\(∃f,lw K a "plain" =O (O (.ref f))/\Al "plain_bits" =O (.ref f))/\(∃f,lw K a "book" =O (O (.ref f))/\Al "book_bits" =O (.ref f))/\(∃f,lw K a "base" =O (O (.ref f))/\Al "base_bits" =O (.ref f))/\(∃f,lw K a "steps" =O (O (.ref f))/\Al "steps_bits" =O (.ref f))))(tREADERS:(∃a b n,Al "READERS" =O (.ref a)/\K.lookup a=O (.type "dict",bd,.dict b n,#[])/\q1 w.params b.toList/\(∃f,lw K a "plain" =O (O (.ref f))/\Al "read_plain" =O (.ref f))/\(∃f,lw K a "book" =O (O (.ref f))/\Al "read_book" =O (.ref f))/\(∃f,lw K a "base" =O (O (.ref f))/\Al "read_base" =O (.ref f))/\(∃f,lw K a "steps" =O (O (.ref f))/\Al "read_steps" =O (.ref f))))
  : (∀p∈[t.p_check_question_of,t.p_marked_values,t.p_Table_places_where,t.p_Table_places_where,t.p_Table_sorted_by,t.p_Table_sorted_by],K.lookup p=bd/\∃c,kL K c p=bm)/\∃Ar:i3,(∀(s:b')(v:b0),zJ s Ar ([v],[]) [(zzq ("_law_script") v)])/\∀b:fy,K.In b->b.Ns h7 Al->iQ b Al->aN l.prog w K Al b r_ 30 I Ar ["_law_script"] (k9 K [t.p_check_question_of,t.p_marked_values,t.p_Table_places_where,t.p_Table_places_where,t.p_Table_sorted_by,t.p_Table_sorted_by]):=by
 let(_,e,_,((_,_,kV,m,pm,q,u,x,_,Y,y,z),A),_):=D.D111;cases d.symm.trans e;have F:=lZ (st:=jf) y z A;refine(λp d=>(hz p d,?_),ki "law" "law" (dG jf) (ci jf) (aQ jf) .none kV m pm q u x,λs v=>.of_eq Y,λb _ _ A0=>?_)
 ·rcases bG.mp d with rfl |d
  ·exact(_,D.D77.hd)
  rcases bG.mp d with rfl |d
  ·exact(_,D.D83.hd)
  rcases bG.mp d with rfl |d
  ·exact(_,D.D91.hd)
  rcases bG.mp d with rfl |d
  ·exact(_,D.D91.hd)
  rcases bG.mp d with rfl |d
  ·exact(_,D.D93.hd)
  ·rw[d4.mp d];exact(_,D.D93.hd)
 exact gen (T,D,A0,g,h,j,ne,tWRITERS,tREADERS) F
theorem ϭ{l:Ht}{q:f0}{e:U c3}{s:(c3->b5 b0)->fy->Prop}{g:gl->fy->Prop}{d:ϊ}{K:Jz->bI}{j:U a_}(u:l.most=O 63)(m:d.params.defaults=[])(v:∀(w:gl)(h:fy),g w h->(K w.params).In h)(x:∀(w:gl)(h:fy),g w h->∀p∈j,h.get? p=O (Ip #[]))(F:∀(w:gl)(Al:c3->b5 b0)(n:a_)(h:fy),(K w.params).In h->h.Ns h7 Al->Al d.name=O (.ref n)->
   (∀p∈j,(K w.params).lookup p=bd/\∃c,kL (K w.params) c p=bm)/\∃Ar:i3,(∀(b:b')(Aw:b0),zJ b Ar ([Aw],[]) [(zzq ("_law_script") Aw)])/\∀b:fy,(K w.params).In b->b.Ns h7 Al->iQ b Al->aN l.prog w (K w.params) Al b r_ 30 n Ar ["_law_script"] (k9 (K w.params) j)):
  W.WalkO q e s g l.row.toRowW d [] (λf b=>EJ f b):=
 L2.Z3 (n:=63) (k:=30) (x := "_law_script") (CX:=r_) (sp:=k9) u ?a m (Y,?a,?a) v x F (λ_ _ a C b e g=>(a,C,Y,g,b,e,λ_=>rfl)) λ_ _ _ _ z=>z
end T1
end
open PySem PySem.W PyProof.Rows
set_option maxRecDepth 100000 in
set_option maxHeartbeats 0 in
theorem PySem.Challenge.cw_tightrows_k32_whole_groups_holds : PySem.Challenge.rw_tightrows_k32_whole_groups.Holds :=
 hdk (by
  k_fill
  refine T1.ϭ (l:=PySem.Challenge.rw_tightrows_k32_whole_groups) (j:=[466,492,890,890,900,900]) rfl rfl (fun w h Y=>PySem.W.km_in_of Y) ?Z ?F
  case Z=>
    intro w h Y p hp;exact PySem.W.km_tabs_of Y p ((by decide:∀ p∈([466,492,890,890,900,900]:List Nat),p∈([900,890,492,466]:List Nat)) p hp)
  case F=>
    intro w mg fa h KX G hmg;refine' T1.Ϯ (d:=466) (h:=492) (b:=890) (g:=900) rfl hmg ?T ?D ?CJOINING ?CSIMPLE_asking ?CSIMPLE_tables ?ne ?hz ?tWRITERS ?tREADERS
    case ne=>dsimp only;decide
    case hz=>
      intro p hp;dsimp only at hp;simp only [List.mem_cons,List.not_mem_nil,or_false] at hp;rcases hp with rfl | rfl | rfl | rfl | rfl | rfl <;> first | k_is | kernel_rfl
    case CJOINING=>exact L2.rO (mg_of KX G (by k_is)) (by decide) (by k_is) (by (repeat (first | exact trivial | refine ⟨⟨_,_,rfl,rfl⟩,?_⟩))) (by (repeat (first | exact trivial | refine ⟨⟨_,rfl⟩,⟨_,rfl⟩,?_⟩)))
    case CSIMPLE_asking=>exact L2.rO (mg_of KX G (by k_is)) (by decide) (by k_is) (by (repeat (first | exact trivial | refine ⟨⟨_,_,rfl,rfl⟩,?_⟩))) (by (repeat (first | exact trivial | refine ⟨⟨_,rfl⟩,⟨_,rfl⟩,?_⟩)))
    case CSIMPLE_tables=>exact L2.rO (mg_of KX G (by k_is)) (by decide) (by k_is) (by (repeat (first | exact trivial | refine ⟨⟨_,_,rfl,rfl⟩,?_⟩))) (by (repeat (first | exact trivial | refine ⟨⟨_,rfl⟩,⟨_,rfl⟩,?_⟩)))
    case T=>
      constructor
      all_goals (try dsimp only)
      all_goals (try exact mg_of KX G (by k_is))
      all_goals first | exact mg_none_of KX G (by k_is) | exact ⟨_,mg_of KX G (by k_is)⟩ | (show kitOne _ _ _=_;kit_is) | (show exmOne _ _ _=_;kts_exm) | (show findIn _ _ _=_;k_is) | exact ⟨by k_is,by k_is,by k_is,by k_is⟩ | exact ⟨by k_exc⟩ | exact ⟨(show isClsIn _ _=true by k_is),by k_is,by k_is,by k_is,by k_is,by k_is,by k_is,by k_is⟩ | exact ⟨by k_is,by k_is⟩ | exact T1.Ϸ (by k_is) | exact T1.Ϻ (by k_is)
    case D=>
      constructor
      all_goals (try dsimp only)
      all_goals first | refine ⟨_,mg_of KX G (by k_is),?_⟩ | refine ⟨_,⟨by k_is,by k_is,by k_is⟩,?_⟩ | refine ⟨_,⟨by k_is,by k_is,by k_is,by k_is⟩,?_⟩
      all_goals first | exact L2.fb2 (by k_is) (by k_is) (by k_is) fun _ _ _ _ _ _ _ _=>rfl | exact L2.Ϧ (by k_is) (by k_is) (by k_is) fun _ _ _ _ _ _ _=>rfl | exact L2.ϲ (by k_is) (by k_is) (by k_is) fun _ _ _ _ _ _ _ _ _=>rfl | exact L2.fb4 (by k_is) (by k_is) (by k_is) fun _ _ _ _ _ _ _ _ _ _=>rfl | exact L2.ϫ (by k_is) (by k_is) (by k_is) fun _ _ _ _ _ _=>rfl | exact L2.ϴ (by k_is) (by k_is) (by k_is) fun _ _ _ _ _ _ _ _ _ _ _=>rfl | exact L2.Ϫ (by k_is) (by k_is) (by first | k_is | kernel_rfl) (by k_is) fun _ _ _ _ _ _ _ _=>rfl | exact L2.fc3 (by k_is) (by k_is) (by first | k_is | kernel_rfl) (by k_is) fun _ _ _ _ _ _ _ _ _=>rfl
    case tWRITERS=>exact ⟨_,_,_,mg_of KX G (by k_is),by k_is,by (repeat (first | exact trivial | refine ⟨⟨_,_,rfl,rfl⟩,?_⟩)),⟨_,by k_is,mg_of KX G (by k_is)⟩,⟨_,by k_is,mg_of KX G (by k_is)⟩,⟨_,by k_is,mg_of KX G (by k_is)⟩,⟨_,by k_is,mg_of KX G (by k_is)⟩⟩
    case tREADERS=>exact ⟨_,_,_,mg_of KX G (by k_is),by k_is,by (repeat (first | exact trivial | refine ⟨⟨_,_,rfl,rfl⟩,?_⟩)),⟨_,by k_is,mg_of KX G (by k_is)⟩,⟨_,by k_is,mg_of KX G (by k_is)⟩,⟨_,by k_is,mg_of KX G (by k_is)⟩,⟨_,by k_is,mg_of KX G (by k_is)⟩⟩
  )
#print axioms PySem.Challenge.cw_tightrows_k32_whole_groups_holds
