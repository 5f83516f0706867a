import PyProof.Rows.All
import Wide.All
import OpenK.AllK
import Wide.FinOn
import Lean
import PyProof.EqAt
import PyProof.EqKinds
import PyProof.TupleCall
import PyProof.NeKinds
import PySem.Challenge.RW_manypurses_k20_whole_world_audits
open List (mem_filter mem_range filterMap_cons mem_cons_self mem_cons_of_mem mem_cons mem_append mem_append_left getElem_inj getElem?_set_self getElem?_set_ne mem_filterMap mem_append_right size_toArray length_cons map_cons length_map append_nil nodup_cons length_take getElem?_map mem_of_getElem? length_append length_replicate length_nil map_nil length_set any_cons replicate_succ flatten_cons foldl_cons find?_cons nodup_nil mem_map lookup_cons all_eq_true filter_cons_of_pos filter_cons_of_neg mem_singleton getElem?_eq_getElem length_range nodup_range getD_eq_getElem?_getD pairwise_singleton pairwise_map pairwise_iff_getElem map_append mem_iff_getElem length_eraseIdx_le length_eq_one_iff pairwise_append mem_map_of_mem take_length length_eq_zero_iff map_map getElem?_eq_none map_set nodup_append length_filter_le filter_append mem_of_mem_erase foldl_append length_erase_of_mem length_pos_of_mem sum_cons length_pos_iff)
open Nat (lt_of_lt_of_le lt_irrefl ne_of_lt le_trans le_of_lt le_refl zero_le lt_succ_self le_succ lt_of_le_of_lt le_succ_of_le)
set_option Elab.async false
set_option genSizeOf false
set_option genInjectivity false
set_option linter.all false
set_option compiler.extract_closed false
set_option maxRecDepth 100000
section
open Array renaming append_assoc->adL,getD_eq_getD_getElem?->abK,getElem?_eq_none->acO,getElem?_toList->đ,length_toList->Ï,perm_iff_toList_perm->ab6,range->ad7,toList_inj->aes
open Bool renaming and_eq_true->L_,and_false->Ŧ,eq_false_iff->adK,eq_iff_iff->ċ,false_and->acg,false_eq_true->Ā,false_ne_true->t?,false_or->afo,not_eq_true'->adJ,not_true->aaZ,or_eq_true->Œ,or_true->ť,true_and->acA,true_or->ac3
open Classical renaming byContradiction->afD,propDecidable->ľ
open Decidable renaming decide->s?
open False renaming elim->J?
open ForInStep renaming yield->Ĝ
open Int renaming emod_lt_of_pos->ě,emod_nonneg->Ł,le_refl->abv,mul_le_mul_of_nonneg_left->aba,toNat_natCast->R_,toNat_of_nonneg->Đ,zero_add->afn
open LE renaming le->ž
open LT renaming lt->ś
open LawfulBEq renaming eq_of_beq->Ų
open List renaming all_cons->acz,all_eq_true->ñ,any_cons->ű,any_eq_true->abu,any_map->afz,append_assoc->aa8,append_nil->â,contains_cons->adu,drop_eq_getElem_cons->ab4,eq_of_mem_replicate->Ť,eraseIdxIfInBounds_toArray->ī,ext_getElem->ad6,ext_getElem?->aa7,filterMap_cons->Ħ,filter_append->ı,filter_cons_of_neg->É,filter_cons_of_pos->V',filter_nil->aeq,filter_sublist->adj,find?_append->aa6,find?_cons->Ą,find?_eq_none->adt,find?_some->abJ,flatten_cons->ń,foldl->ad5,foldl_append->aaY,foldl_cons->Ż,forIn_cons->aep,forIn_nil->aeS,getD_eq_getElem?_getD->J',getElem?_append_left->Ś,getElem?_append_right->ő,getElem?_eq_getElem->u?,getElem?_eq_none->Ű,getElem?_eq_none_iff->ř,getElem?_eq_some_iff->l?,getElem?_map->y_,getElem?_range->aaH,getElem?_replicate->ų,getElem?_set_ne->ø,getElem?_set_self->Y_,getElem_inj->abt,getElem_take->adI,idxOf_cons->abI,idxOf_lt_length_iff->acf,length->Ĕ,length_append->p_,length_cons->C?,length_drop->ad4,length_eq_one_iff->ĥ,length_eq_zero_iff->Ŏ,length_eraseIdx_le->ō,length_eraseIdx_of_lt->abH,length_erase_of_mem->æ,length_filter_le->ê,length_map->g_,length_nil->ź,length_pos_iff->Ō,length_pos_of_mem->û,length_range->ß,length_replicate->Ċ,length_set->Ź,length_singleton->acM,length_take->Ñ,lookup->ÿ,lookup_cons->ð,map_append->K_,map_congr_left->aaG,map_cons->A_,map_inj_right->ads,map_map->aav,map_nil->ĉ,map_replicate->adq,map_set->ad3,mem_append->v_,mem_append_left->I_,mem_append_right->z_,mem_cons->D?,mem_cons_of_mem->q_,mem_cons_self->p?,mem_erase_of_ne->aau,mem_filter->D_,mem_filterMap->aaF,mem_iff_getElem->Ý,mem_map->H?,mem_map_of_mem->Q?,mem_of_find?_eq_some->Ř,mem_of_getElem?->u_,mem_of_mem_drop->ac2,mem_of_mem_erase->é,mem_of_mem_take->aat,mem_or_eq_of_mem_set->ŗ,mem_range->Z?,mem_singleton->j',nil_append->aeo,nodup_append->Ê,nodup_cons->W',nodup_nil->Ņ,nodup_range->abr,not_mem_nil->abq,not_of_lt_findIdx->acy,of_mem_zip->abG,pairwise_append->Ľ,pairwise_iff_getElem->ĵ,pairwise_map->aaX,pairwise_singleton->ĕ,perm_cons_erase->ac1,range->V_,range_succ->abF,replicate->B_,replicate_succ->Ù,replicate_succ'->ac0,size_toArray->G',sum_cons->ŋ,take_append_drop->aaf,take_append_of_le_length->abg,take_length->Z_,toArray->acZ,toList_toArray->aaE,zip_cons_cons->aaM,zip_nil_right->adp
open List.Pairwise renaming filter->abh,map->à,nil->afm
open List.Perm renaming eq_of_pairwise->Ď,refl->adk
open List.cons renaming inj->ĸ
open Nat renaming le_of_eq->afl,le_of_lt->aam,le_refl->r_,le_succ->Ÿ,le_succ_of_le->ţ,le_trans->P_,lt_irrefl->Ě,lt_of_le_of_lt->aal,lt_of_lt_of_le->F?,lt_succ_of_lt->aaL,lt_succ_self->Ĥ,mul_add->acY,mul_le_mul_left->aas,ne_of_gt->afk,ne_of_lt->N?,not_lt_zero->ad2,succ->Á,succ_le_succ->adH,zero_le->T?
open Ne renaming symm->M_
open Option.some renaming inj->s_
open Or renaming inl->o_,inr->ad0
open Prod.mk renaming inj->Ó
open Pure renaming pure->ó
open PyProof.Rows renaming AllBare->Ŗ,IntsAre->Y?,IsTup->adh,UnaryOp_->afj,args_list_sort->ab3,args_sorted1->acL,callWith_builtin1->aeR,callWith_type1->ę,entry_list_sort->aby,entry_sorted->acK,envOfC->È,isBoolOf->adg,kind_sorted->adf,listUpdate_at->acm,list_sort_tree->afi,lt_int->aaz,plain_sorted->acJ,seqEpoch_at->ade,seqObj->è,slot_list_sort->ab2,sortedAll->aen,sortedHeap->ab1,sortedHeap_at->afy,sortedHeap_old->afh,subscriptTail->afx,subscriptTail_builtinR->acI,units_in1->abf
open PySem renaming Addr->c_,Around->C_,BindsTo->aar,Builtin->Ü,CmpOp->adZ,DictEntry->Ĉ,Env->Ţ,Expr->G?,FuncData->l',GenState->abY,Heap->k?,Keyword->Ŷ,Model->aak,NameKind->F0,Obj->L?,Operator->aff,OwnTail->aaq,Paired->h_,PassesOwn->Ç,Pos->ğ,Program->D',Result->š,Scope->Ã,Sem->Ī,SetTable->Ğ,Shared->d?,Stmt->K?,Str->y?,Value->b_,Within->İ,World->I?,argBest->Þ,assign->aaj,assignEach->į,atKey->aai,attributeBase->Ē,backTo->W_,backToKw->Ö,behindInMarks->aaB,binaryOp->ŉ,bindArgs->ada,bindC->acu,bindL->acs,bootBuiltins->N_,builtinLookup_eq_fast->acR,builtinsNs->abU,cLine->Â,call->ħ,callWith->aah,call_list_seq->afs,call_meets->ň,call_meetsIn->ł,callerA->aap,cellOf->adD,cellsFrom->Ŭ,checkBuiltinCall->ū,checkCount->ŵ,closureFor->adC,codeAny->Ú,codeAny_builtin->ż,codeAny_call_builtin->ā,codeAny_loop->aaR,codeAny_mono->ć,codeAny_of_tree->aew,compEnvC->ac9,compPost->ae3,compareOp->Q_,comprehension->afr,dictSetDefault->abT,entryFor->abS,entryFor_alias->ae2,entryOfKey->adB,entryPlaceOf->acE,eval->U?,excClassObj->Ė,firstArgMember->ae1,fitsIndex_both->ae0,foldedSetIterable->Ŕ,frameOf->abc,getItem->abA,getMethod->Ū,holding->ģ,intBits_le_64->afq,intKind->aao,intKind_is->abR,isInstance->abQ,isSubtype_stop->aeZ,isSubtype_type->aeY,isTrue->abP,keywordEach->U_,leaving->adU,letOwnedTupleGo->Ļ,mainGlobals->î,mem_of_lookup->ü,model->n_,newFunctionEnv->Ň,noteFrame->acr,pastItsLine_dict->aeb,pickOrder->ũ,plainId_quiet->Ş,plainObj_wpAny_Assign_Attribute->aa0,pushCells->abb,putSet_of->acq,pyIter->abO,pyNext->ĺ,rawInt->ŝ,recursionLimit->aeX,refuseLoop_ref->aeW,relabel->adT,richCompare->abm,seqIndex?->acp,seqIndex_neg->acD,seqIndex_of->ac8,seqItems?->aco,setAttr->adS,setField->aeV,setItem->adR,setsByText->adA,signature?_of->afp,sizeLine->k_,sizeLine_eq->Ĳ,standAt->Ŵ,starEach->x?,subscripted->abl,swapsWith->aan,sysModules->Yd,theTreesLotGoes->aev,tupleKind->Į,tupleKind_room_in1->Õ,typeIs_int->adz,typeLookup->ņ,typeLookup_type->aeu,typeOf->ady,unbindBehindTheSuite->ac7,updateSeq->acn,valueAt->aaQ,wpAny->l_,wpAny_Call_Name_kw->ò,wpAny_Call_method->aaP,wpAny_Name->adx,wpAny_askSetting->ĭ,wpAny_assign_Name->adQ,wpAny_attempt->ach,wpAny_bind->d_,wpAny_call->Ĭ,wpAny_callSpecial?_slot->Ũ,wpAny_call_entry->Æ,wpAny_comprehension_free->Ŝ,wpAny_dictEntries->Ģ,wpAny_dictEpoch->abw,wpAny_eqBool_int->aea,wpAny_execs_cons->ad9,wpAny_execs_nil->Ĺ,wpAny_fieldsOf->abN,wpAny_holding->M?,wpAny_isOneOf_keyiter->aaa,wpAny_isSubtype_exc->aaw,wpAny_isTrue_Compare1->acQ,wpAny_ite_split->õ,wpAny_letGo->abk,wpAny_loadPart->aeU,wpAny_loadPart_at->P?,wpAny_lookBehind->ad8,wpAny_mono->G_,wpAny_newList->aaA,wpAny_newObj_type->ù,wpAny_notOrdered_dict->acP,wpAny_of_eq->ac6,wpAny_passesOwn->ô,wpAny_pure->j_,wpAny_pyIter_enum->adP,wpAny_pyIter_keyiter->ac5,wpAny_pyIter_list->ġ,wpAny_pyIter_slot->aaO,wpAny_pyNext_list_end->ſ,wpAny_pyNext_list_item->Ġ,wpAny_rule->adw,wpAny_seqItems->abM,wpAny_setEntries_of->adl,wpAny_setEpoch_of->adO,wpAny_setField->abL,wpAny_setState_of->œ,wpAny_specialOf->aet,wpAny_standAt->á,wpAny_storeSet_of->adN,wpAny_truthy_bool->X_,wpAny_tryCatch->aag,wpAny_typeNameOfWhole_keyiter->í,wpAny_typeOf->acC
open PySem.Around renaming under_plainId->ŕ
open PySem.Builtin.List renaming listLengthHint->abe,listTooLong->ů
open PySem.Calls renaming Name_function_global->Ĵ,callWith_builtin->å,call_function_entry->ļ,evalArgs_plain->Ø,loadGlobal_global->abp,spliced_cons->ä,spliced_nil->ŀ
open PySem.Code renaming quiet_builtin->ķ
open PySem.Data renaming cell->abx,fields->acd,seq->acb
open PySem.EqMixed renaming eq_bool_str->ael,eq_int_str->aek,eq_str_bool->aej,eq_str_int->aei,ne_bool_str->aeh,ne_int_str->aeg,ne_str_bool->aef,ne_str_int->aee
open PySem.EqNone renaming eq_bool_none->aeN,eq_int_none->aeM,eq_none_bool->aeL,eq_none_int->aeK,eq_none_none->aeJ,eq_none_str->aeI,eq_str_none->aeH,ne_bool_none->aeG,ne_int_none->aeF,ne_none_bool->aeE,ne_none_int->aeD,ne_none_none->aeC,ne_none_str->aeB,ne_str_none->aeA
open PySem.F renaming args_dict_get_2->aa5,args_dict_get_3->aa4,args_dict_keyiterator_next_1->aaW,attr_ValueError->ado,entry_dict_get->č,entry_dict_keyiterator_next->aa3,excBase_ValueError->acH,plainAttrs_dict->Ć,plainAttrs_list->B?,plain_min_loop->aaV,slot_dict_get->Í,slot_dict_iter->adF,slot_dict_keyiterator_next->Ë,slot_dict_setdefault->aay,slot_dict_values->aaU,slot_gs_get->ab0,slot_int_rmul->adY,slot_list_append->E_,slot_list_count->aa2,slot_list_index->aa1,slot_list_pop->acx,slot_list_remove->abZ,slot_set_iter->adX,store_ValueError->Ä,typeOf_object_class->ŷ,type_dict_get->abo,type_list_append->F_
open PySem.Heap renaming FlyingW->ď,MadeExcOf->aaD,SameBut->H_,get?_none_of_le->Ŀ,get?_push_at->adE,get?_push_of_some->f_,get?_push_size->v?,get?_some_iff->adn,get?_update_ne->Ŋ,get?_update_other->Û,get?_update_self->R?,lt_size->r?,size_push->Ę
open PySem.Heap.SameBut renaming update->ē
open PySem.MeetsSeq renaming entry_remove_loop->aaC,plain_remove_loop->ï
open PySem.NameKind renaming cell->ĩ,free->ì
open PySem.Obj renaming cls_mapFields->aaK,data_mapDictKeys->acF,data_mapFields->ö,isFreed_of_fields->Ž,mapFields->þ,mapSeq->X'
open PySem.Paired renaming length->q?
open PySem.PassesOwn renaming never->ú
open PySem.Sem renaming wp->ĳ,wp_mono->afv
open PySem.SeqAt renaming EqAt->m?,RcAt->A?,RcNeAt->x_,in_listAt->acT,notIn_listAt->ack
open PySem.SeqAt.EqAt renaming bool_bool->aca,bool_int->afe,bool_none->aez,bool_str->afd,int_bool->afc,int_int->acX,int_none->afb,int_str->acW,none_bool->aey,none_int->afa,none_str->ae9,of_refs->acV,same->adb,str_bool->ae8,str_int->acU,str_none->ae7,str_str->afu
open PySem.Value renaming bool->Å,builtin->abn,float->adW,int->ą,isInt->adV,isStrOf->aft,none->ė,ref->t_,str->acS,type->Ĩ
open PySem.W renaming Frag->e?,Looks->V?,OpenLaw->Ķ,WalkO->acj,callWith_K->ă,callWith_KW->abD,cellsFrom_some->abd,clsIn->aaT,codeIn->aae,emptyDict->W?,excIn->aaS,findIn->J_,fnOf->Ă,handedIn->aci,hasDictIn->aad,hideAll->ý,hideAll_get->abC,hideAll_none->Š,instObj->Ð,isFn->aaJ,kas_place->aed,kas_sort->ae5,kdu_collect->abB,keepIn->ã,kia_one->T_,kia_tup->acw,kitCls->Ò,kitOne->S?,kitx_dict->ab9,kitx_list->aac,kitx_tuple->abX,lookIn->ş,looks_findIn->À,looks_mroIn->Ů,makesIn->acv,methodCall_KW->ç,methodObj->aab,mroIn->Č,nsIn->ae4,of_hideAll->abW,plainGet->Ń,plainGet_of->ŭ,plainOver->ab8,specialIn->ab7,tail_of_in->abV,takerIn->aax
open Sum renaming inl->S_,inr->ŏ
open True renaming intro->xv
open _root_ renaming Array->E?,Bool->o?,Decidable->aer,DecidableEq->ĝ,False->w?,ForInStep->Ì,Int->f?,List->b?,Nat->i_,Option->g?,String->ë,Sum->Ő,True->O?,Unit->acB,absurd->w_,autoParam->e_,beq_eq_false_iff_ne->Î,beq_iff_eq->Ô,beq_self_eq_true->ŧ,bne_iff_ne->adv,bne_self_eq_false->adM,congrArg->X?,decide_eq_false->z?,decide_eq_true->i?,decide_eq_true_eq->O_,decide_eq_true_iff->aaI,if_false->aaN,if_neg->j?,if_pos->m_,if_true->abz,of_decide_eq_true->n?,or_false->aeT,rfl->a_
noncomputable section
theorem aP (a:O?:=by rfl)(b:O?:=by decide)(c:O?:=by intro _;rfl)(d:O?:=by decide+kernel)(e:O?:=by first|exact .inl rfl|exact .inr rfl|assumption)(f:O?:=by intro vs H Q E h;repeat(first|(obtain⟨rfl,_⟩:=h;rfl)|(obtain⟨_,h⟩:=h)))(g:O?:=by exact True.intro)(h:O?:=by exact bG):O?:=a
def aP1:=aP._auto_1
def aP2:=aP._auto_2
def aP3:=aP._auto_3
def aP4:=aP._auto_4
def aP5:=aP._auto_5
def aP6:=aP._auto_6
def aP7:=aP._auto_7
def aP8:=aP._auto_8
theorem xa0 {A0 A1:Type}{p:A0->A1->Prop}(a0:A0)(a1:A1)(h:p a0 a1):∃b0 b1,p b0 b1:=⟨a0,a1,h⟩
theorem xa1 {A0 A1 A2:Type}{p:A0->A1->A2->Prop}(a0:A0)(a1:A1)(a2:A2)(h:p a0 a1 a2):∃b0 b1 b2,p b0 b1 b2:=⟨a0,a1,a2,h⟩
theorem xa2 {A0 A1 A2 A3:Type}{p:A0->A1->A2->A3->Prop}(a0:A0)(a1:A1)(a2:A2)(a3:A3)(h:p a0 a1 a2 a3):∃b0 b1 b2 b3,p b0 b1 b2 b3:=⟨a0,a1,a2,a3,h⟩
theorem xa3 {A0 A1 A2 A3 A4:Type}{p:A0->A1->A2->A3->A4->Prop}(a0:A0)(a1:A1)(a2:A2)(a3:A3)(a4:A4)(h:p a0 a1 a2 a3 a4):∃b0 b1 b2 b3 b4,p b0 b1 b2 b3 b4:=⟨a0,a1,a2,a3,a4,h⟩
theorem xa5 {A0 A1 A2 A3 A4 A5:Type}{p:A0->A1->A2->A3->A4->A5->Prop}(a0:A0)(a1:A1)(a2:A2)(a3:A3)(a4:A4)(a5:A5)(h:p a0 a1 a2 a3 a4 a5):∃b0 b1 b2 b3 b4 b5,p b0 b1 b2 b3 b4 b5:=⟨a0,a1,a2,a3,a4,a5,h⟩
theorem xa6 {A0 A1 A2 A3 A4 A5 A6:Type}{p:A0->A1->A2->A3->A4->A5->A6->Prop}(a0:A0)(a1:A1)(a2:A2)(a3:A3)(a4:A4)(a5:A5)(a6:A6)(h:p a0 a1 a2 a3 a4 a5 a6):∃b0 b1 b2 b3 b4 b5 b6,p b0 b1 b2 b3 b4 b5 b6:=⟨a0,a1,a2,a3,a4,a5,a6,h⟩
theorem xa9 {A0 A1 A2 A3 A4 A5 A6 A7:Type}{p:A0->A1->A2->A3->A4->A5->A6->A7->Prop}(a0:A0)(a1:A1)(a2:A2)(a3:A3)(a4:A4)(a5:A5)(a6:A6)(a7:A7)(h:p a0 a1 a2 a3 a4 a5 a6 a7):∃b0 b1 b2 b3 b4 b5 b6 b7,p b0 b1 b2 b3 b4 b5 b6 b7:=⟨a0,a1,a2,a3,a4,a5,a6,a7,h⟩
theorem xa4 {A0 A1 A2 A3 A4 A5 A6 A7 A8:Type}{p:A0->A1->A2->A3->A4->A5->A6->A7->A8->Prop}(a0:A0)(a1:A1)(a2:A2)(a3:A3)(a4:A4)(a5:A5)(a6:A6)(a7:A7)(a8:A8)(h:p a0 a1 a2 a3 a4 a5 a6 a7 a8):∃b0 b1 b2 b3 b4 b5 b6 b7 b8,p b0 b1 b2 b3 b4 b5 b6 b7 b8:=⟨a0,a1,a2,a3,a4,a5,a6,a7,a8,h⟩
theorem xb1 {A0 A1 A2 A3 A4 A5 A6 A7 A8 A9:Type}{p:A0->A1->A2->A3->A4->A5->A6->A7->A8->A9->Prop}(a0:A0)(a1:A1)(a2:A2)(a3:A3)(a4:A4)(a5:A5)(a6:A6)(a7:A7)(a8:A8)(a9:A9)(h:p a0 a1 a2 a3 a4 a5 a6 a7 a8 a9):∃b0 b1 b2 b3 b4 b5 b6 b7 b8 b9,p b0 b1 b2 b3 b4 b5 b6 b7 b8 b9:=⟨a0,a1,a2,a3,a4,a5,a6,a7,a8,a9,h⟩
theorem xb2 {A0 A1 A2 A3 A4 A5 A6 A7 A8 A9 A10:Type}{p:A0->A1->A2->A3->A4->A5->A6->A7->A8->A9->A10->Prop}(a0:A0)(a1:A1)(a2:A2)(a3:A3)(a4:A4)(a5:A5)(a6:A6)(a7:A7)(a8:A8)(a9:A9)(a10:A10)(h:p a0 a1 a2 a3 a4 a5 a6 a7 a8 a9 a10):∃b0 b1 b2 b3 b4 b5 b6 b7 b8 b9 b10,p b0 b1 b2 b3 b4 b5 b6 b7 b8 b9 b10:=⟨a0,a1,a2,a3,a4,a5,a6,a7,a8,a9,a10,h⟩
theorem xb3 {A0 A1 A2 A3 A4 A5 A6 A7 A8 A9 A10 A11:Type}{p:A0->A1->A2->A3->A4->A5->A6->A7->A8->A9->A10->A11->Prop}(a0:A0)(a1:A1)(a2:A2)(a3:A3)(a4:A4)(a5:A5)(a6:A6)(a7:A7)(a8:A8)(a9:A9)(a10:A10)(a11:A11)(h:p a0 a1 a2 a3 a4 a5 a6 a7 a8 a9 a10 a11):∃b0 b1 b2 b3 b4 b5 b6 b7 b8 b9 b10 b11,p b0 b1 b2 b3 b4 b5 b6 b7 b8 b9 b10 b11:=⟨a0,a1,a2,a3,a4,a5,a6,a7,a8,a9,a10,a11,h⟩
theorem xb4 {A0 A1 A2 A3 A4 A5 A6 A7 A8 A9 A10 A11 A12 A13:Type}{p:A0->A1->A2->A3->A4->A5->A6->A7->A8->A9->A10->A11->A12->A13->Prop}(a0:A0)(a1:A1)(a2:A2)(a3:A3)(a4:A4)(a5:A5)(a6:A6)(a7:A7)(a8:A8)(a9:A9)(a10:A10)(a11:A11)(a12:A12)(a13:A13)(h:p a0 a1 a2 a3 a4 a5 a6 a7 a8 a9 a10 a11 a12 a13):∃b0 b1 b2 b3 b4 b5 b6 b7 b8 b9 b10 b11 b12 b13,p b0 b1 b2 b3 b4 b5 b6 b7 b8 b9 b10 b11 b12 b13:=⟨a0,a1,a2,a3,a4,a5,a6,a7,a8,a9,a10,a11,a12,a13,h⟩
theorem xa8 {A0 A1 A2 A3 A4 A5 A6 A7 A8 A9 A10 A11 A12 A13 A14:Type}{p:A0->A1->A2->A3->A4->A5->A6->A7->A8->A9->A10->A11->A12->A13->A14->Prop}(a0:A0)(a1:A1)(a2:A2)(a3:A3)(a4:A4)(a5:A5)(a6:A6)(a7:A7)(a8:A8)(a9:A9)(a10:A10)(a11:A11)(a12:A12)(a13:A13)(a14:A14)(h:p a0 a1 a2 a3 a4 a5 a6 a7 a8 a9 a10 a11 a12 a13 a14):∃b0 b1 b2 b3 b4 b5 b6 b7 b8 b9 b10 b11 b12 b13 b14,p b0 b1 b2 b3 b4 b5 b6 b7 b8 b9 b10 b11 b12 b13 b14:=⟨a0,a1,a2,a3,a4,a5,a6,a7,a8,a9,a10,a11,a12,a13,a14,h⟩
theorem xa7 {A0 A1 A2 A3 A4 A5 A6 A7 A8 A9 A10 A11 A12 A13 A14 A15 A16:Type}{p:A0->A1->A2->A3->A4->A5->A6->A7->A8->A9->A10->A11->A12->A13->A14->A15->A16->Prop}(a0:A0)(a1:A1)(a2:A2)(a3:A3)(a4:A4)(a5:A5)(a6:A6)(a7:A7)(a8:A8)(a9:A9)(a10:A10)(a11:A11)(a12:A12)(a13:A13)(a14:A14)(a15:A15)(a16:A16)(h:p a0 a1 a2 a3 a4 a5 a6 a7 a8 a9 a10 a11 a12 a13 a14 a15 a16):∃b0 b1 b2 b3 b4 b5 b6 b7 b8 b9 b10 b11 b12 b13 b14 b15 b16,p b0 b1 b2 b3 b4 b5 b6 b7 b8 b9 b10 b11 b12 b13 b14 b15 b16:=⟨a0,a1,a2,a3,a4,a5,a6,a7,a8,a9,a10,a11,a12,a13,a14,a15,a16,h⟩
namespace L2
open PySem PySem.Spec PyProof.Rows
noncomputable abbrev Key:=Ő f? y?
noncomputable def oK:Key->b_->o?
 | .inl k,v=>adV k v
 | .inr x,v=>aft x v
noncomputable def SO (w:I?):Key->f?
 | .inl k=>hashInt k
 | .inr x=>hashStr w x
theorem ye:∀{k:Key}{v:b_},oK k v=true->(∃i t,k=S_ i/\v=ą i t)\/(∃x t,k=ŏ x/\v=acS x t)
 | .inl i,v,h=>by obtain⟨t,e⟩:=b_.isInt_shape (k:=i) (v:=v) h;exact .inl (xa0 i t ⟨a_,e⟩)
 | .inr x,v,h=>by obtain⟨t,e⟩:=b_.isStrOf_shape (x:=x) (v:=v) h;exact .inr (xa0 x t ⟨a_,e⟩)
theorem SQ (i:f?)(t:Tok):oK (.inl i) (.int i t)=true:=by simp[oK,adV]
theorem SR (x:y?)(t:Tok):oK (.inr x) (.str x t)=true:=by simp[oK,aft]
theorem SS (a b:f?):s? ((S_ a:Key)=S_ b)=(a==b):=by
 by_cases e:a=b
 .subst e;simp
 .have h:¬(S_ a:Key)=S_ b:=λq=>e (S_.inj q);rw[z? h];exact(Î.mpr e).symm
theorem SU (a b:y?):s? ((ŏ a:Key)=ŏ b)=s? (a=b):=by
 by_cases e:a=b
 .subst e;simp
 .have h:¬(ŏ a:Key)=ŏ b:=λq=>e (ŏ.inj q);rw[z? h,z? e]
theorem SV (a:f?)(b:y?):s? ((S_ a:Key)=ŏ b)=false:=z? (λq=>nomatch q)
theorem SW (a:y?)(b:f?):s? ((ŏ a:Key)=S_ b)=false:=z? (λq=>nomatch q)
noncomputable def qy (prog:D')(w:I?):PySem.KeyKind prog w Key where
 is:=oK
 hash:=SO w
 inj:=λv a b ha hb=>by
  rcases ye ha with⟨i,t,rfl,rfl⟩|⟨x,t,rfl,rfl⟩
  .rcases ye hb with⟨j,u,rfl,e⟩|⟨y,u,rfl,e⟩
   .injection e with e1 _;rw[e1]
   .exact nomatch e
  .rcases ye hb with⟨j,u,rfl,e⟩|⟨y,u,rfl,e⟩
   .exact nomatch e
   .injection e with e1 _;rw[e1]
 byValue:=λk v h=>by rcases ye h with⟨i,t,rfl,rfl⟩|⟨x,t,rfl,rfl⟩<;>rfl
 pyHash:=λhv h=>by
  rcases ye hv with⟨i,t,rfl,rfl⟩|⟨x,t,rfl,rfl⟩
  .exact wpAny_pyHash_int h
  .exact wpAny_pyHash_str h
 eqBool:=λhu hv h=>by
  rcases ye hu with⟨i,t,rfl,rfl⟩|⟨x,t,rfl,rfl⟩
  .rcases ye hv with⟨j,u,rfl,rfl⟩|⟨y,u,rfl,rfl⟩
   .rw[SS]at h;exact aea h
   .rw[SV]at h;exact acW i t y u _ _ _ _ h
  .rcases ye hv with⟨j,u,rfl,rfl⟩|⟨y,u,rfl,rfl⟩
   .rw[SW]at h;exact acU x t j u _ _ _ _ h
   .rw[SU]at h;exact wpAny_eqBool_str h
 «strs»:=λk x t v h=>by
  rcases ye h with⟨i,u,rfl,e⟩|⟨y,u,rfl,e⟩
  .exact nomatch e
  .injection e with e1 _;subst e1;cases v<;>rfl
theorem SX (prog:D')(w:I?)(i:f?)(t:Tok):(qy prog w).is (.inl i) (.int i t)=true:=SQ i t
theorem SY (prog:D')(w:I?)(x:y?)(t:Tok):(qy prog w).is (.inr x) (.str x t)=true:=SR x t
set_option genInjectivity true in
inductive V where
 | aj | bl (b:o?) | int (i:f?) | str (x:y?) | fF (b:E? UInt8) | mL (b:UInt64) | ref (a:c_) | ty (n:ë)
 deriving DecidableEq
noncomputable def RelV:V->b_->Prop
 | .aj,u=>u=ė
 | .bl b,u=>u=Å b
 | .int i,u=>∃t,u=ą i t
 | .str x,u=>∃t,u=acS x t
 | .fF b,u=>∃t,u=b_.bytes b t
 | .mL b,u=>∃t,u=adW b t
 | .ref a,u=>u=t_ a
 | .ty n,u=>u=Ĩ n
noncomputable abbrev Vals:b? V->b? b_->Prop:=h_ RelV
theorem Vals.length {xs:b? V}{us:b? b_}(r:Vals xs us):xs.length=us.length:=q? r
theorem Vals.get:∀{xs:b? V}{us:b? b_}{i:i_}{x:V},Vals xs us->xs[i]?=some x->∃u,us[i]?=some u/\RelV x u
 |_,_,_,_,.nil,e=>by simp at e
 |_,_,0,_,.cons r _,e=>by simp at e;subst e;exact⟨_,a_,r⟩
 |_,_,i+1,x,.cons _ t,e=>by obtain⟨u,h1,h2⟩:=Vals.get (i:=i) (x:=x) t (by simpa using e);exact⟨u,by simpa using h1,h2⟩
theorem Vals.set {x:V}{u:b_}(r:RelV x u):∀{xs:b? V}{us:b? b_}(i:i_),Vals xs us->Vals (xs.set i x) (us.set i u)
 |_,_,_,.nil=>.nil
 |_,_,0,.cons _ t=>.cons r t
 |_,_,i+1,.cons q t=>.cons q (Vals.set r i t)
theorem Vals.append:∀{xs ys:b? V}{us ws:b? b_},Vals xs us->Vals ys ws->Vals (xs++ys) (us++ws)
 |_,_,_,_,.nil,s=>s
 |_,_,_,_,.cons r t,s=>.cons r (Vals.append t s)
noncomputable def dX:g? V->g? b_->Prop
 |some v,some u=>RelV v u
 |none,none=>O?
 |_,_=>w?
noncomputable def KV {B:Type}:b? (B×V)->b? (B×b_)->Prop:=h_ λ(p:B×V)(q:B×b_)=>p.1=q.1/\RelV p.2 q.2
noncomputable def kV:Key->V
 | .inl i=>.int i
 | .inr x=>.str x
set_option genInjectivity true in
inductive HO where
  | lst (xs:b? V)
  | tup (xs:b? V)
  | dK (kvs:b? (Key × V)) | dT (kvs:b? (b? Key × V))
  | set (S:f? -> o?) (n:i_)
  | ins (C dx:c_) (fs:b? (y? × V))
  | own (x:c_)
  | xd (fs:b? (y? × V))
  | met (f x:c_)
  | zF (lo hi:f?)
  | aB (o:L?) (u:HO)
  | mM (ps:E? b_)
  | ext (φ : k? -> Prop)
noncomputable abbrev Hp:=c_->g? HO
noncomputable def upd (H:Hp)(a:c_)(o:HO):Hp:=λb=>if b=a then some o else H b
theorem ja {H:Hp}{a:c_}{o:HO}:upd H a o a=some o:=by unfold upd;rw[m_ a_]
theorem jd {H:Hp}{a b:c_}{o:HO}(h:b≠a):upd H a o b=H b:=by unfold upd;rw[j? h]
theorem tf {H:Hp}{a:c_}{o u:HO}:upd (upd H a o) a u=upd H a u:=by funext b;unfold upd;split<;>rfl
theorem cT {H:Hp}{a b:c_}{o u:HO}(h:H a=some o)(h':H b=some u)(d:o≠u):a≠b:=by intro e;subst e;rw[h]at h';exact d (s_ h')
theorem jg {H:Hp}{a b:c_}{o:HO}(h:H a=some o)(h':H b=none):a≠b:=by intro e;subst e;rw[h]at h';cases h'
section
variable (P:D')(w:I?)
noncomputable def wg (H:Hp)(h:k?)(a:c_):HO->Prop
 | .lst xs=>xs.length<=k_/\∃(its:b? b_)(n:i_),Vals xs its/\h.get? a=some {cls:=.type "list",data:=.seq its.toArray n}
 | .tup xs=>xs.length<=k_/\∃its:b? b_,Vals xs its/\adh h a its.toArray
 | .dK kvs=>kvs.length<=k_/\(a==Yd)=false/\∃vs,KV kvs vs/\h.DictOf (qy P w) a vs
 | .dT kvs=>kvs.length<=k_/\(a==Yd)=false/\∃xs:b? (b? Key×c_×b_),h_ (λ(p:b? Key×V)(q:b? Key×c_×b_)=>p.1=q.1/\H q.2.1=some (.tup (p.1.map kV))/\RelV p.2 q.2.2) kvs xs/\∃o es ep,h.get? a=some o/\o.ExactDict/\o.data= .dict es ep/\es.toList=xs.map (adB (Į (qy P w)))/\(xs.map (·.1)).Nodup
 | .set S n=>h.SetOf (aao P w) a S n
 | .ins C dx fs=>H dx=some (.own a)/\fs.length<=1000/\dx≠a/\h.get? a=some (Ð C dx)/\∃mA,h.Ns1 dx mA/\(∀f,dX (fs.lookup f) (mA f))/\İ mA (fs.map (·.1))
 | .own _=>∃o,h.get? a=some o
 | .xd fs=>∃mA,h.Ns1 a mA/\∀f,dX (fs.lookup f) (mA f)
 | .zF lo hi=>∃t u v,h.get? a=some {cls:=.type "range",data:=.fields #[.int lo t,.int hi u,.int 1 v]}
 | .aB o u=>h.get? a=some o/\wg H h a u
 | .mM ps=>h.get? a=some {cls:=.none,data:=.fields ps}
 | .met f x=>h.get? a=some (aab (.ref f) (.ref x))
 | .ext φ=>φ h/\(∃o,h.get? a=some o)/\∀h1 h2:k?,φ h1->(∀o,h1.get? a=some o->h2.get? a=some o)->φ h2
noncomputable def bH (H:Hp)(h:k?):Prop:=∀a o,H a=some o->wg P w H h a o
end
section
variable {P:D'}{w:I?}{H H':Hp}{h h':k?}{a:c_}{o:HO}
theorem wg.lt (x:wg P w H h a o):a<h.objs.size:=by
 cases o with
 |lst xs=>obtain⟨_,_,_,_,e⟩:=x;exact r? e
 |tup xs=>obtain⟨_,_,_,p⟩:=x;exact p.lt
 |dK kvs=>obtain⟨_,_,_,_,o,_,_,e,_⟩:=x;exact r? e
 |dT kvs=>obtain⟨_,_,_,_,o,_,_,e,_⟩:=x;exact r? e
 |set S n=>obtain⟨o,_,_,_,e,_⟩:=x;exact r? e
 |ins C dx fs=>obtain⟨_,_,_,e,_⟩:=x;exact r? e
 |own y=>obtain⟨_,e⟩:=x;exact r? e
 |xd fs=>obtain⟨_,⟨_,_,_,e,_⟩,_⟩:=x;exact r? e
 |zF lo hi=>obtain⟨_,_,_,e⟩:=x;exact r? e
 |aB ob u=>obtain⟨e,_⟩:=x;exact r? e
 |mM ps=>exact r? (show h.get? a=some _ from x)
 |met f y=>exact r? (show h.get? a=some _ from x)
 |ext φ=>obtain⟨_,⟨_,e⟩,_⟩:=x;exact r? e
theorem Paired.gy {α β:Type}{F G:α->β->Prop}:∀{l₁:b? α}{l₂:b? β},h_ F l₁ l₂->(∀a b,F a b->G a b)->h_ G l₁ l₂:=λ{l₁ l₂} q f=>by
 induction q with
 |nil=>exact .nil
 |cons r t ih=>exact .cons (f _ _ r) ih
theorem wg.cG (x:wg P w H h a o)(k:∀b u,(b=a\/H b=some (.own a))->h.get? b=some u->h'.get? b=some u)(ho:∀b,H b=some (.own a)->H' b=some (.own a))(ht:∀b xs,H b=some (.tup xs)->H' b=some (.tup xs)):wg P w H' h' a o:=by
 induction o with
 |lst xs=>obtain⟨z,its,n,r,e⟩:=x;exact⟨z,xa0 its n ⟨r,k _ _ (.inl a_) e⟩⟩
 |tup xs=>obtain⟨z,its,r,ob,e,c⟩:=x;exact⟨z,its,r,ob,k _ _ (.inl a_) e,c⟩
 |dK kvs=>obtain⟨z,y,vs,r,ob,es,ep,e,c⟩:=x;exact⟨z,y,vs,r,xa1 ob es ep ⟨k _ _ (.inl a_) e,c⟩⟩
 |dT kvs=>obtain⟨z,y,xs,r,ob,es,ep,e,c⟩:=x;exact⟨z,y,xs,Paired.gy r λp q z=>⟨z.1,ht _ _ z.2.1,z.2.2⟩,xa1 ob es ep ⟨k _ _ (.inl a_) e,c⟩⟩
 |set S n=>obtain⟨ob,es,ep,t,e,c⟩:=x;exact(xa2 ob es ep t ⟨k _ _ (.inl a_) e,c⟩)
 |ins C dx fs=>obtain⟨d,z,ne,e,mA,⟨od,es,ep,e2,c⟩,r⟩:=x;exact⟨ho _ d,z,ne,k _ _ (.inl a_) e,mA,(xa1 od es ep ⟨k _ _ (.inr d) e2,c⟩),r⟩
 |own y=>obtain⟨ob,e⟩:=x;exact⟨ob,k _ _ (.inl a_) e⟩
 |xd fs=>obtain⟨mA,⟨od,es,ep,e,c⟩,r⟩:=x;exact⟨mA,(xa1 od es ep ⟨k _ _ (.inl a_) e,c⟩),r⟩
 |zF lo hi=>obtain⟨t,u,v,e⟩:=x;exact(xa1 t u v (k _ _ (.inl a_) e))
 |aB ob u ih=>obtain⟨e,q⟩:=x;exact⟨k _ _ (.inl a_) e,ih q⟩
 |mM ps=>have e:h.get? a=some {cls:=.none,data:=.fields ps}:=x;show h'.get? a=some {cls:=.none,data:=.fields ps};exact k a _ (.inl a_) e
 |met f y=>have e:h.get? a=some (aab (.ref f) (.ref y)):=x;show h'.get? a=some (aab (.ref f) (.ref y));exact k a _ (.inl a_) e
 |ext φ=>obtain⟨p,⟨o,e⟩,st⟩:=x;exact⟨st _ _ p λo q=>k _ _ (.inl a_) q,⟨o,k _ _ (.inl a_) e⟩,st⟩
theorem bH.lt (x:bH P w H h)(e:H a=some o):a<h.objs.size:=(x a o e).lt
theorem bH.fresh (x:bH P w H h)(e:h.objs.size<=a):H a=none:=by
 cases q:H a with
 |none=>rfl
 |some u=>exact w_ (F? (x.lt q) e) (Ě _)
theorem bH.kept (x:bH P w H h)(k:∀b u,h.get? b=some u->h'.get? b=some u):bH P w H h':=λa o e=>(x a o e).cG (λb u _ q=>k b u q) (λ_ q=>q) λ_ _ q=>q
theorem bH.laid (x:bH P w H h)(k:∀b u,h.get? b=some u->h'.get? b=some u)(hp:h.objs.size<=a)(new:wg P w (upd H a o) h' a o):bH P w (upd H a o) h':=λb u e=>by
 have hn:=x.fresh hp;by_cases hb:b=a
 .subst hb;rw[ja]at e;cases e;exact new
 .rw[jd hb]at e;exact(x b u e).cG (λc v _ q=>k c v q) (λc q=>by rw[jd (jg q hn)];exact q) λc xs q=>by rw[jd (jg q hn)];exact q
end
noncomputable def Rd (H:Hp)(a:c_)(u:HO):Prop:=H a=some u\/∃o,H a=some (.aB o u)
theorem Rd.ok {P:D'}{w:I?}{H:Hp}{h:k?}{a:c_}{u:HO}(r:Rd H a u)(x:bH P w H h):wg P w H h a u:=by
 rcases r with r|⟨o,r⟩
 .exact x a u r
 .obtain⟨_,q⟩:=x a _ r;exact q
noncomputable def iz:g? HO->Prop
 |some (.lst _)=>O?
 |some (.dK _)=>O?
 |some (.dT _)=>O?
 |some (.set _ _)=>O?
 |some (.ins _ _ _)=>O?
 |some (.ext _)=>O?
 |_=>w?
section
variable {P:D'}{w:I?}{H:Hp}{h h':k?}{x e:c_}{o':HO}
theorem bH.write (ok:bH P w H h)(mu:iz (H x))(he:e=x\/H e=some (.own x))(k:∀b u,b≠e->h.get? b=some u->h'.get? b=some u)(rq:∃u,h'.get? e=some u)(new:wg P w (upd H x o') h' x o'):bH P w (upd H x o') h':=λb u q=>by
 have th:∀c y,H c=some (.own y)->c≠x:=λc y r z=>by subst z;rw[r]at mu;exact mu
 have C7:∀c xs,H c=some (.tup xs)->c≠x:=λc xs r z=>by subst z;rw[r]at mu;exact mu
 by_cases hb:b=x
 .subst hb;rw[ja]at q;cases q;exact new
 .rw[jd hb]at q;by_cases oM:b=e
  .have q':H b=some (.own x):=by
    rcases he with z|z
    .exact w_ (oM.trans z) hb
    .rw[oM];exact z
   rw[q]at q';cases q';obtain⟨v,hv⟩:=rq;exact⟨v,by rw[oM];exact hv⟩
  .refine(ok b u q).cG (λc v hc r=>k c v ?_ r) (λc r=>by rw[jd (th c b r)];exact r) λc xs r=>by rw[jd (C7 c xs r)];exact r
   rcases hc with rfl|hc
   .exact oM
   .rintro rfl
    rcases he with z|z
    .exact th c b hc z
    .rw[hc]at z;cases z;exact hb a_
end
structure Un (fs ex:b? c_)(H H':Hp)(h h':k?):Prop where
 keep:∀b o,h.get? b=some o->H b=none->b∉fs->b∉ex->h'.get? b=some o
 slot:∀b o,h.get? b=some o->H b=none->b∈fs->b∉ex->∃sl,h'.get? b=some {o with slots:=sl}
 free:∀b o,h.get? b=some o->H b=none->b∉ex->H' b=none
 there:∀b o,h.get? b=some o->b∉ex->∃o',h'.get? b=some o'
 dY:∀b xs,H b=some (.tup xs)->H' b=some (.tup xs)
 dG:∀b o u,H b=some (.aB o u)->H' b=some (.aB o u)
 eI:∀b ps,H b=some (.mM ps)->∃more,H' b=some (.mM (ps++more))
section
variable {fs fs' ex Lo:b? c_}{H H1 H2:Hp}{h h1 h2 h':k?}{a x e:c_}{o:HO}
theorem Un.any (u:Un fs ex H H1 h h1){b:c_}{ob:L?}(q:h.get? b=some ob)(n:H b=none)(hx:b∉ex):∃sl,h1.get? b=some {ob with slots:=sl}:=by
 by_cases hb:b∈fs
 .exact u.slot b ob q n hb hx
 .exact⟨ob.slots,u.keep b ob q n hb hx⟩
theorem Un.kept (k:∀b u,h.get? b=some u->h'.get? b=some u):Un fs ex H H h h':=⟨λb ob q _ _ _=>k b ob q,λb ob q _ _ _=>⟨ob.slots,k b ob q⟩,λ_ _ _ n _=>n,λb ob q _=>⟨ob,k b ob q⟩,λ_ _ q=>q,λ_ _ _ q=>q,λ_ ps q=>⟨#[],by rw[q];simp⟩⟩
theorem Un.refl:Un fs ex H H h h:=Un.kept λ_ _ q=>q
theorem Un.laid (k:∀b u,h.get? b=some u->h'.get? b=some u)(hp:h.objs.size<=a)(hn:H a=none):Un fs ex H (upd H a o) h h' where
 keep:=λb u q _ _ _=>k b u q
 slot:=λb u q _ _ _=>⟨u.slots,k b u q⟩
 free:=λb u q n _=>by rw[jd (N? (F? (r? q) hp))];exact n
 there:=λb u q _=>⟨u,k b u q⟩
 dY:=λb xs q=>by rw[jd (jg q hn)];exact q
 dG:=λb u xs q=>by rw[jd (jg q hn)];exact q
 eI:=λb ps q=>⟨#[],by rw[jd (jg q hn),q];simp⟩
theorem Un.write (mu:iz (H x))(he:e=x\/H e=some (.own x))(k:∀b u,b≠e->h.get? b=some u->h'.get? b=some u)(rq:∃u,h'.get? e=some u):Un fs ex H (upd H x o) h h':=by
 have hx:∀b,H b=none->b≠x:=λb n z=>by subst z;rw[n]at mu;exact mu
 have hb:∀b,H b=none->b≠e:=λb n z=>by
  subst z;rcases he with r|r
  .exact hx b n r
  .rw[n]at r;cases r
 have hm:∀b u,H b=some u->¬iz (some u)->b≠x:=λb u q nm z=>by subst z;rw[q]at mu;exact nm mu
 refine⟨λb u q n _ _=>k b u (hb b n) q,λb u q n _ _=>⟨u.slots,k b u (hb b n) q⟩,λb u q n _=>by rw[jd (hx b n)];exact n,λb u q _=>?_,λb xs q=>by rw[jd (hm b _ q λz=>z)];exact q,λb u xs q=>by rw[jd (hm b _ q λz=>z)];exact q,λb ps q=>⟨#[],by rw[jd (hm b _ q λz=>z),q];simp⟩⟩;by_cases oM:b=e
 .subst oM;exact rq
 .exact⟨u,k b u oM q⟩
end
noncomputable def lH (h:k?)(H:Hp):b? c_:=(V_ h.objs.size).filter λa=>(H a).isSome
noncomputable def lI (h:k?)(H:Hp):k?:=ý h (lH h H)
theorem Ta (h:k?)(H:Hp):(lI h H).objs.size=h.objs.size:=PySem.W.hideAll_size _ _
theorem Tb {h:k?}{H:Hp}{b:c_}{o:L?}(e:h.get? b=some o)(n:H b=none):(lI h H).get? b=some o:=abC _ e λhm=>by have q:(H b).isSome=true:=(D_.mp hm).2;rw[n]at q;simp at q
theorem Tc {h:k?}{H:Hp}{b:c_}{o:L?}(e:(lI h H).get? b=some o):h.get? b=some o/\H b=none:=by
 have e':h.get? b=some o:=abW (lH h H) e;refine⟨e',?_⟩;cases q:H b with
 |none=>rfl
 |some x=>have hm:b∈lH h H:=D_.mpr ⟨Z?.mpr (r? e'),by simp[q]⟩;have z:(lI h H).get? b=none:=Š (lH h H) hm;rw[z]at e;cases e
structure Mod (K:e?)(mg:y?->g? b_)(base:k?):Prop where
 eJ:K.In base
 glob:base.Ns î mg
 blt:∃mb,base.Ns abU mb/\∀x:y?,x≠"__name__"->mb x=N_ x
 nolimit:base.NoLimit
structure Cx where
 prog:D'
 w:I?
 K:e?
 mg:y?->g? b_
 base:k?
 A:C_
 N:b? y?
 ar:d?
 bh:Hp
 env:Ţ
 outer:b? Ţ
 stack:b? Ţ
 ex:b? c_
 fn:y?->o?
 calm:o?
 pn:b? (c_×L?)
 xe:b_->d?->Prop
noncomputable def bf (l:b? Ţ):b? c_:=l.filterMap (·.frame)
noncomputable abbrev Cx.fs (X:Cx):b? c_:=bf X.outer
noncomputable def tj (sc:Ã)(x:y?):Prop:=sc.names.lookup x=some .local\/sc.names.lookup x=some .cell\/sc.names.lookup x=some .free
noncomputable def Loc (sc:Ã)(x:y?):Prop:=sc.names.lookup x=some .local\/sc.names.lookup x=some .cell
noncomputable def Look (env:Ţ)(h:k?)(m:y?->g? b_)(x:y?)(u:b_):Prop:=(env.kindOf x=some .local/\m x=some u)\/((env.kindOf x=some .cell\/env.kindOf x=some .free)/\∃c,env.cells.lookup x=some c/\h.IsCell c (some u))
structure Cx.Ok (X:Cx):Prop where
 mod:Mod X.K X.mg X.base
 kind:X.env.scope.kind= .function
 glob:X.env.globals=î
 blt:X.env.builtins=abU
 above:X.ar.heap.objs.size<=X.env.locals
 inj:∀x y c,X.env.cells.lookup x=some c->X.env.cells.lookup y=some c->x=y
 has:∀x,(X.env.kindOf x=some .cell\/X.env.kindOf x=some .free)->∃c,X.env.cells.lookup x=some c
 oN:∀x c,X.fn x=true->X.env.cells.lookup x=some c->X.ar.heap.objs.size<=c
 hd:X.calm=true->X.A.handled=none
 frames:X.A.frames=some X.stack
 cX:X.stack=X.outer\/(X.stack=X.env::X.outer/\X.env.frame=some X.env.locals)
 zG:∀b∈X.ex,b≠X.env.locals/\∀x c,X.env.cells.lookup x=some c->c≠b
 bs:∀b o,X.base.get? b=some o->X.ar.heap.get? b=some o/\X.bh b=none
 jY:X.base.objs.size<=X.ar.heap.objs.size
 oO:∀b o,X.base.get? b=some o->b∉X.ex
 rA:∀b∈X.ex,b∉X.fs
 fg:X.ar.heap.FunFrames X.base X.outer
 iM:∀b∈X.fs,X.bh b=none
structure Inv (X:Cx)(pins:b? (c_×L?))(U:b? (g? V))(H:Hp)(s:d?):Prop where
 ok:X.Ok
 os:s.os=X.ar.os
 bare:Ŗ s.gens
 base:Un X.fs X.ex X.bh H X.ar.heap s.heap
 loc:∃m,s.heap.Ns X.env.locals m/\∀(i:i_)(x:y?)(v:V),X.N[i]?=some x->U[i]?=some (some v)->tj X.env.scope x->∃u,RelV v u/\Look X.env s.heap m x u
 cell:∀x c,X.env.cells.lookup x=some c->∃v,s.heap.IsCell c v
 free:H X.env.locals=none
 dH:∀x c,X.env.cells.lookup x=some c->H c=none
 pin:∀p∈X.pn++pins,s.heap.get? p.1=some p.2/\H p.1=none/\p.1≠X.env.locals/\p.1∉X.fs/\∀v,p.2.data≠.cell v
 ag:bH X.prog X.w H s.heap
 len:U.length=X.N.length
section
variable {X:Cx}{pins:b? (c_×L?)}{U:b? (g? V)}{H H':Hp}{s:d?}{h':k?}
theorem Cx.Ok.Td (ok:X.Ok){b:c_}{o:L?}(e:X.base.get? b=some o):b∉X.fs:=λhb=>by have:=(ok.fg.mem hb).1;rw[e]at this;cases this
theorem Inv.bs (I:Inv X pins U H s):∀b o,X.base.get? b=some o->s.heap.get? b=some o/\H b=none:=λb o e=>⟨I.base.keep b o (I.ok.bs b o e).1 (I.ok.bs b o e).2 (I.ok.Td e) (I.ok.oO b o e),I.base.free b o (I.ok.bs b o e).1 (I.ok.bs b o e).2 (I.ok.oO b o e)⟩
theorem Inv.bk (I:Inv X pins U H s):∀b o,X.base.get? b=some o->s.heap.get? b=some o:=λb o e=>(I.bs b o e).1
theorem Inv.mod (I:Inv X pins U H s):Mod X.K X.mg X.base:=I.ok.mod
theorem Inv.aS (I:Inv X pins U H s):X.K.In s.heap:=I.ok.mod.eJ.keeps I.bk
theorem Inv.lt (I:Inv X pins U H s):X.env.locals<s.heap.objs.size:=let⟨_,hn,_⟩:=I.loc;hn.lt
theorem Inv.sz (I:Inv X pins U H s):X.ar.heap.objs.size<=s.heap.objs.size:=P_ I.ok.above (aam I.lt)
theorem Inv.Lp (I:Inv X pins U H s){a:c_}(h:s.heap.objs.size<=a):a∉X.fs:=λhb=>by obtain⟨_,o,ho,_⟩:=I.ok.fg.mem hb;exact w_ (F? (r? ho) (P_ I.sz h)) (Ě _)
theorem Inv.iN (I:Inv X pins U H s):∀x c,X.env.cells.lookup x=some c->c≠X.env.locals:=λx c e z=>by obtain⟨v,o,ho,hd⟩:=I.cell x c e;obtain⟨m,⟨o',es,ep,aV,bu,_⟩,_⟩:=I.loc;rw[z,aV]at ho;cases ho;rw[bu]at hd;cases hd
theorem Inv.fg (I:Inv X pins U H s):s.heap.FunFrames X.base X.outer:=by
 have all:∀(l:b? Ţ),(∀b∈bf l,b∈X.fs)->X.ar.heap.FunFrames X.base l->s.heap.FunFrames X.base l:=by
  intro l;induction l with
  |nil=>intro _ _;trivial
  |cons env r ih=>intro hs hl;obtain⟨hk,⟨L,o,hf,hn,ho,hd⟩,hr⟩:=hl;have hL:L∈X.fs:=hs L (by unfold bf;rw[Ħ,hf];exact p?);obtain⟨sl,e⟩:=I.base.slot L o ho (I.ok.iM L hL) hL λz=>I.ok.rA L z hL;exact⟨hk,(xa0 L _ ⟨hf,hn,e,hd⟩),ih (λb hb=>hs b (by unfold bf;rw[Ħ,hf];exact q_ _ hb)) hr⟩
 exact all X.outer (λ_ hb=>hb) I.ok.fg
theorem Inv.stack (I:Inv X pins U H s):s.heap.FunFrames X.base X.stack:=by
 rcases I.ok.cX with e|⟨e,hf⟩
 .rw[e];exact I.fg
 .rw[e];obtain⟨m,hn,_⟩:=I.loc;refine .cons (by rw[I.ok.kind];decide) hf hn ?_ I.fg;exact Ŀ (P_ I.ok.jY I.ok.above)
theorem Inv.oP (I:Inv X pins U H s):∀b∈bf X.stack,b∈X.env.locals::X.fs:=λb hb=>by
 rcases I.ok.cX with e|⟨e,hf⟩
 .rw[e]at hb;exact q_ _ hb
 .rw[e]at hb;unfold bf at hb;rw[Ħ,hf]at hb;exact hb
theorem Inv.zH (I:Inv X pins U H s):∀b∈bf X.stack,H b=none:=λb hb=>by
 rcases D?.mp (I.oP b hb)with e|hb
 .rw[e];exact I.free
 .obtain⟨_,o,ho,_⟩:=I.ok.fg.mem hb;exact I.base.free b o ho (I.ok.iM b hb) λz=>I.ok.rA b z hb
theorem Inv.step {g':E? abY}{t':i_}{d':Drawn}{ch:b? c_}(I:Inv X pins U H s)(gC:∀b∈ch,(b∈X.ex\/X.ar.heap.objs.size<=b)/\b≠X.env.locals/\(∀x c,X.env.cells.lookup x=some c->c≠b)/\∀p∈X.pn++pins,p.1≠b)(keep:∀b o,b≠X.env.locals->b∉X.fs->b∉ch->s.heap.get? b=some o->H b=none->h'.get? b=some o)(slot:∀b o,b≠X.env.locals->b∈X.fs->b∉ch->s.heap.get? b=some o->H b=none->∃sl,h'.get? b=some {o with slots:=sl})(free:∀b o,b∉ch->s.heap.get? b=some o->H b=none->H' b=none)(there:∀b o,b∉ch->s.heap.get? b=some o->∃o',h'.get? b=some o')(dY:∀b xs,H b=some (.tup xs)->H' b=some (.tup xs))(dG:∀b o u,H b=some (.aB o u)->H' b=some (.aB o u))(eI:∀b ps,H b=some (.mM ps)->∃more,H' b=some (.mM (ps++more)))(ns:∀m,s.heap.Ns X.env.locals m->h'.Ns X.env.locals m)(ag:bH X.prog X.w H' h')(hg:Ŗ g'):
  Inv X pins U H' {s with heap:=h',gens:=g',drawn:=d',toks:=t'}:=by
 have Lq:∀b o,X.ar.heap.get? b=some o->b≠X.env.locals:=λb o e=>N? (F? (r? e) I.ok.above);have oQ:∀b o,X.ar.heap.get? b=some o->b∉X.ex->b∉ch:=λb o e hx hb=>by
  rcases(gC b hb).1 with z|z
  .exact hx z
  .exact w_ (F? (r? e) z) (Ě _)
 have cellK:∀x c,X.env.cells.lookup x=some c->∀v,s.heap.IsCell c v->h'.IsCell c v:=λx c e v ⟨o,ho,hd⟩=>by
  have jZ:c∉ch:=λz=>(gC c z).2.2.1 x c e a_;by_cases hc:c∈X.fs
  .obtain⟨sl,q⟩:=slot c o (I.iN x c e) hc jZ ho (I.dH x c e);exact⟨_,q,hd⟩
  .exact⟨o,keep c o (I.iN x c e) hc jZ ho (I.dH x c e),hd⟩
 refine⟨I.ok,I.os,hg,⟨λb o e n hb hx=>?_,λb o e n hb hx=>?_,λb o e n hx=>?_,λb o e hx=>?_,λb xs e=>dY b xs (I.base.dY b xs e),λb o xs e=>dG b o xs (I.base.dG b o xs e),λb ps e=>?_⟩,?_,λx c e=>?_,?_,λx c e=>?_,λp hp=>?_,ag,I.len⟩
 .exact keep b o (Lq b o e) hb (oQ b o e hx) (I.base.keep b o e n hb hx) (I.base.free b o e n hx)
 .obtain⟨sl,e1⟩:=I.base.slot b o e n hb hx;obtain⟨oR,e2⟩:=slot b _ (Lq b o e) hb (oQ b o e hx) e1 (I.base.free b o e n hx);exact⟨oR,e2⟩
 .obtain⟨o',e1⟩:=I.base.there b o e hx;exact free b o' (oQ b o e hx) e1 (I.base.free b o e n hx)
 .obtain⟨o',e1⟩:=I.base.there b o e hx;exact there b o' (oQ b o e hx) e1
 .obtain⟨m1,e1⟩:=I.base.eI b ps e;obtain⟨m2,e2⟩:=eI b _ e1;exact⟨m1++m2,by rw[e2,adL]⟩
 .obtain⟨m,hn,hl⟩:=I.loc;refine⟨m,ns m hn,λi x v e1 e2 e3=>?_⟩;obtain⟨u,r,l⟩:=hl i x v e1 e2 e3;refine⟨u,r,?_⟩;rcases l with l|⟨k,c,e,z⟩
  .exact .inl l
  .exact .inr ⟨k,c,e,cellK x c e _ z⟩
 .obtain⟨v,z⟩:=I.cell x c e;exact⟨v,cellK x c e v z⟩
 .obtain⟨m,⟨o,_,_,ho,_⟩,_⟩:=I.loc;exact free _ o (λz=>(gC _ z).2.1 a_) ho I.free
 .obtain⟨v,o,ho,hd⟩:=I.cell x c e;exact free c o (λz=>(gC c z).2.2.1 x c e a_) ho (I.dH x c e)
 .obtain⟨e,n,ne,nf,d⟩:=I.pin p hp;have jZ:p.1∉ch:=λz=>(gC p.1 z).2.2.2 p hp a_;exact⟨keep p.1 p.2 ne nf jZ e n,free p.1 p.2 jZ e n,ne,nf,d⟩
theorem Inv.un {t':i_}(I:Inv X pins U H s)(u:Un X.fs [] H H' s.heap h')(ag:bH X.prog X.w H' h'):Inv X pins U H' {s with heap:=h',toks:=t'}:=by
 obtain⟨m,⟨o,es,ep,ho,r⟩,_⟩:=id I.loc;obtain⟨sl,hL⟩:=u.any ho I.free (by simp);exact I.step (g':=s.gens) (d':=s.drawn) (ch:=[]) (λ_ z=>nomatch z) (λb o _ hb _ e n=>u.keep b o e n hb (by simp)) (λb o _ hb _ e n=>u.slot b o e n hb (by simp)) (λb o _ e n=>u.free b o e n (by simp)) (λb o _ e=>u.there b o e (by simp)) u.dY u.dG u.eI (λm' hm=>by obtain⟨o',gQ,eK,aV,r'⟩:=hm;rw[ho]at aV;cases aV;exact(xa1 _ gQ eK ⟨hL,r'⟩)) ag I.bare
theorem Inv.call {g':E? abY}{t':i_}{d':Drawn}{ch:b? c_}(I:Inv X pins U H s)(u:Un (bf X.stack) ch H H' s.heap h')(ag:bH X.prog X.w H' h')(hg:Ŗ g')(gC:∀b∈ch,(b∈X.ex\/X.ar.heap.objs.size<=b)/\b≠X.env.locals/\(∀x c,X.env.cells.lookup x=some c->c≠b)/\∀p∈X.pn++pins,p.1≠b):
  Inv X pins U H' {s with heap:=h',gens:=g',drawn:=d',toks:=t'}:=by
 obtain⟨m,⟨o,es,ep,ho,r⟩,_⟩:=id I.loc;obtain⟨sl,hL⟩:=u.any ho I.free λz=>(gC _ z).2.1 a_;exact I.step (ch:=ch) gC (λb o hL hb hc e n=>u.keep b o e n (λz=>(D?.mp (I.oP b z)).elim hL hb) hc) (λb o _ _ hc e n=>u.any e n hc) (λb o hc e n=>u.free b o e n hc) (λb o hc e=>u.there b o e hc) u.dY u.dG u.eI (λm' hm=>by obtain⟨o',gQ,eK,aV,r'⟩:=hm;rw[ho]at aV;cases aV;exact(xa1 _ gQ eK ⟨hL,r'⟩)) ag hg
theorem Inv.turned {t':i_}{it:c_}(I:Inv X pins U H s)(k:∀b o,b≠it->s.heap.get? b=some o->h'.get? b=some o)(hn:H it=none)(hL:it≠X.env.locals)(h1:it∈X.ex\/X.ar.heap.objs.size<=it)(h2:∀x c,X.env.cells.lookup x=some c->c≠it)(h3:∀p∈X.pn++pins,p.1≠it):Inv X pins U H {s with heap:=h',toks:=t'}:=by
 have Lr:∀b u,H b=some u->b≠it:=λb u e z=>by rw[z,hn]at e;cases e
 refine I.step (g':=s.gens) (d':=s.drawn) (ch:=[it]) (λb hb=>?_) (λb o _ _ hc e _=>k b o (λz=>hc (by simp[z])) e) (λb o _ _ hc e _=>⟨o.slots,k b o (λz=>hc (by simp[z])) e⟩) (λ_ _ _ _ n=>n) (λb o hc e=>⟨o,k b o (λz=>hc (by simp[z])) e⟩) (λ_ _ e=>e) (λ_ _ _ e=>e) (λb ps e=>⟨#[],by rw[e];simp⟩) (λm hm=>?_) (λb u e=>?_) I.bare
 .have e:b=it:=by simpa using hb
  subst e;exact⟨h1,hL,h2,h3⟩
 .obtain⟨o,es,ep,ho,r⟩:=hm;exact(xa1 o es ep ⟨k _ o (M_ hL) ho,r⟩)
 .refine(I.ag b u e).cG (λc v hc q=>k c v ?_ q) (λ_ q=>q) λ_ _ q=>q;rcases hc with z|z
  .rw[z];exact Lr b u e
  .exact Lr c _ z
theorem Inv.tok (I:Inv X pins U H s)(t:i_):Inv X pins U H {s with toks:=t}:=I.un (h':=s.heap) (t':=t) Un.refl I.ag
theorem Inv.kept {t':i_}(I:Inv X pins U H s)(k:∀b u,s.heap.get? b=some u->h'.get? b=some u):Inv X pins U H {s with heap:=h',toks:=t'}:=I.un (Un.kept k) (I.ag.kept k)
theorem Inv.laid {a:c_}{o:HO}{t':i_}(I:Inv X pins U H s)(k:∀b u,s.heap.get? b=some u->h'.get? b=some u)(hp:s.heap.objs.size<=a)(new:wg X.prog X.w (upd H a o) h' a o):Inv X pins U (upd H a o) {s with heap:=h',toks:=t'}:=I.un (Un.laid k hp (I.ag.fresh hp)) (I.ag.laid k hp new)
theorem Inv.write {x e:c_}{o:HO}{t':i_}(I:Inv X pins U H s)(mu:iz (H x))(he:e=x\/H e=some (.own x))(k:∀b u,b≠e->s.heap.get? b=some u->h'.get? b=some u)(rq:∃u,h'.get? e=some u)(new:wg X.prog X.w (upd H x o) h' x o):Inv X pins U (upd H x o) {s with heap:=h',toks:=t'}:=I.un (Un.write mu he k rq) (I.ag.write mu he k rq new)
theorem Inv.zI {bE:b? (c_×L?)}(I:Inv X pins U H s)(h:∀p∈bE,s.heap.get? p.1=some p.2/\H p.1=none/\p.1≠X.env.locals/\p.1∉X.fs/\∀v,p.2.data≠.cell v):Inv X bE U H s:=⟨I.ok,I.os,I.bare,I.base,I.loc,I.cell,I.free,I.dH,λp hp=>(v_.mp hp).elim (λz=>I.pin p (I_ _ z)) (h p),I.ag,I.len⟩
theorem C8 {N:b? y?}(hN:N.Nodup){i j:i_}{x:y?}(a:N[i]?=some x)(b:N[j]?=some x):i=j:=by obtain⟨h1,e1⟩:=l?.mp a;obtain⟨h2,e2⟩:=l?.mp b;exact(abt hN).mp (e1.trans e2.symm)
theorem Lu {M:aak}{A:C_}{E:b_->d?->Prop}{i:i_}{x:y?}{v:V}{u:b_}{Q:acB->d?->Prop}(I:Inv X pins U H s)(hN:X.N.Nodup)(hi:X.N[i]?=some x)(hx:Loc X.env.scope x)(r:RelV v u)(h:∀s',Inv X pins (U.set i (some v)) H s'->(∃a,H_ a s.heap s'.heap/\(a=X.env.locals\/X.env.cells.lookup x=some a))->Q () s')(hf:e_ (X.fn x=true\/X.env.scope.names.lookup x=some .local) aP5):l_ M A (storeName X.env x u) Q E s:=by
 obtain⟨m,hn,hl⟩:=id I.loc;have C9:(X.env.scope.kind== .class||(X.env.scope.kind== .module&&X.env.locals != X.env.globals))=false:=by rw[I.ok.kind];rfl
 have rB:i<U.length:=by rw[I.len];exact(l?.mp hi).1
 have iN:=I.iN;have tracked:∀{a:c_}{h':k?},(∃o,s.heap.get? a=some o/\H a=none)->H_ a s.heap h'->bH X.prog X.w H h':=λ{a h'} ha hs b ob e=>by
  obtain⟨_,_,mO⟩:=ha;refine(I.ag b ob e).cG (λc w' hc q=>(hs.2 c ?_).trans q) (λ_ q=>q) λ_ _ q=>q
  rintro rfl
  rcases hc with rfl|hc
  .rw[mO]at e;cases e
  .rw[mO]at hc;cases hc
 rcases hx with hk|hk
 .refine wpAny_storeName_local hk hn (λh' mP hs=>?_) C9;obtain⟨oL,_,_,Lv,_⟩:=id hn;refine h _ ⟨I.ok,I.os,I.bare,⟨λb o e n hb hx=>?_,λb o e n hb hx=>?_,I.base.free,λb o e hx=>?_,I.base.dY,I.base.dG,I.base.eI⟩,⟨_,mP,λj y v' e1 e2 e3=>?_⟩,λy c e=>?_,I.free,I.dH,λp hp=>?_,tracked ⟨oL,Lv,I.free⟩ hs,by simpa using I.len⟩ ⟨_,hs,.inl a_⟩
  .exact(hs.2 b (N? (F? (r? e) I.ok.above))).trans (I.base.keep b o e n hb hx)
  .obtain⟨sl,e1⟩:=I.base.slot b o e n hb hx;exact⟨sl,(hs.2 b (N? (F? (r? e) I.ok.above))).trans e1⟩
  .obtain⟨o',e1⟩:=I.base.there b o e hx;exact⟨o',(hs.2 b (N? (F? (r? e) I.ok.above))).trans e1⟩
  .by_cases hj:j=i
   .subst hj;rw[hi]at e1;cases e1;rw[Y_ rB]at e2;cases e2;exact⟨u,r,.inl ⟨hk,by simp⟩⟩
   .rw[ø (M_ hj)]at e2;obtain⟨u',r',q⟩:=hl j y v' e1 e2 e3;refine⟨u',r',?_⟩;rcases q with⟨k,e⟩|⟨k,c,e,z⟩
    .refine .inl ⟨k,?_⟩;have:y≠x:=λe=>hj (C8 hN e1 (e ▸ hi));simp[this,e]
    .exact .inr ⟨k,c,e,z.sameBut hs (iN y c e)⟩
  .obtain⟨w',z⟩:=I.cell y c e;exact⟨w',z.sameBut hs (iN y c e)⟩
  .obtain⟨e,n,ne,nf,d⟩:=I.pin p hp;exact⟨(hs.2 p.1 ne).trans e,n,ne,nf,d⟩
 .have Dc:X.fn x=true:=by
   rcases hf with z|z
   .exact z
   .rw[z]at hk;cases hk
  obtain⟨c,hc⟩:=I.ok.has x (.inl hk);obtain⟨w',z⟩:=I.cell x c hc;refine wpAny_storeName_cell I.ok.kind hk hc z (λh' kA hs=>?_);obtain⟨oc,zJ,Dd⟩:=id z;refine h {s with heap:=h'} ⟨I.ok,I.os,I.bare,⟨λb o e n hb hx=>?_,λb o e n hb hx=>?_,I.base.free,λb o e hx=>?_,I.base.dY,I.base.dG,I.base.eI⟩,⟨m,hn.sameBut hs (M_ (iN x c hc)),λj y v' e1 e2 e3=>?_⟩,λy c' e=>?_,I.free,I.dH,λp hp=>?_,tracked ⟨oc,zJ,I.dH x c hc⟩ hs,by simpa using I.len⟩ ⟨c,hs,.inr hc⟩
  .exact(hs.2 b (N? (F? (r? e) (I.ok.oN x c Dc hc)))).trans (I.base.keep b o e n hb hx)
  .obtain⟨sl,e1⟩:=I.base.slot b o e n hb hx;exact⟨sl,(hs.2 b (N? (F? (r? e) (I.ok.oN x c Dc hc)))).trans e1⟩
  .obtain⟨o',e1⟩:=I.base.there b o e hx;exact⟨o',(hs.2 b (N? (F? (r? e) (I.ok.oN x c Dc hc)))).trans e1⟩
  .by_cases hj:j=i
   .subst hj;rw[hi]at e1;cases e1;rw[Y_ rB]at e2;cases e2;exact⟨u,r,.inr ⟨.inl hk,c,hc,kA⟩⟩
   .rw[ø (M_ hj)]at e2;obtain⟨u',r',q⟩:=hl j y v' e1 e2 e3;refine⟨u',r',?_⟩;rcases q with q|⟨k,c',e,z'⟩
    .exact .inl q
    .refine .inr ⟨k,c',e,z'.sameBut hs ?_⟩
     rintro rfl
     exact hj (C8 hN e1 (I.ok.inj _ _ _ e hc ▸ hi))
  .by_cases Lw:c'=c
   .subst Lw;exact⟨_,kA⟩
   .obtain⟨w2,z2⟩:=I.cell y c' e;exact⟨w2,z2.sameBut hs Lw⟩
  .obtain⟨e,n,ne,nf,d⟩:=I.pin p hp;refine⟨(hs.2 p.1 ?_).trans e,n,ne,nf,d⟩;intro q;rw[q,zJ]at e;have q':oc=p.2:=s_ e;exact d w' (by rw[<-q'];exact Dd)
theorem zK {M:aak}{A:C_}{E:b_->d?->Prop}{i:i_}{x:y?}{v:V}{u:b_}{Q:acB->d?->Prop}(I:Inv X pins U H s)(hN:X.N.Nodup)(hi:X.N[i]?=some x)(hx:Loc X.env.scope x)(r:RelV v u)(h:∀s',Inv X pins (U.set i (some v)) H s'->Q () s')(hf:e_ (X.fn x=true\/X.env.scope.names.lookup x=some .local) aP5):l_ M A (storeName X.env x u) Q E s:=
 Lu I hN hi hx r (λs' I' _=>h s' I') hf
theorem Inv.De {s':d?}{ch:b? c_}(I:Inv X pins U H s)(ho:s'.os=s.os)(u:Un (bf X.stack) ch H H' s.heap s'.heap)(ag:bH X.prog X.w H' s'.heap)(hg:Ŗ s'.gens)(gC:∀b∈ch,(b∈X.ex\/X.ar.heap.objs.size<=b)/\b≠X.env.locals/\(∀x c,X.env.cells.lookup x=some c->c≠b)/\∀p∈X.pn++pins,p.1≠b):Inv X pins U H' s':=by
 obtain⟨h',g',d',t',o'⟩:=s';have e:o'=s.os:=ho;subst e;exact I.call (g':=g') (t':=t') (d':=d') u ag hg gC
end
noncomputable abbrev XK:=b_->g? c_->Hp->Prop
noncomputable abbrev St:=b? (g? V)
noncomputable abbrev VK:=V->Hp->Prop
noncomputable abbrev TE:=St->Hp->VK->Prop
noncomputable abbrev TT:=St->Hp->(o?->Hp->Prop)->Prop
noncomputable abbrev TA:=St->Hp->(b? V->Hp->Prop)->Prop
structure Ends where
 nx:St->Hp->Prop
 rt:VK
 bk:St->Hp->Prop:=λ_ _=>w?
 ct:St->Hp->Prop:=λ_ _=>w?
noncomputable abbrev TS:=Ends->St->Hp->Prop
noncomputable def EP (X:Cx)(pins:b? (c_×L?))(U:St)(Q:VK)(u:b_)(s':d?):Prop:=∃v H',Inv X pins U H' s'/\RelV v u/\Q v H'
noncomputable def TP (X:Cx)(pins:b? (c_×L?))(U:St)(Q:o?->Hp->Prop)(b:o?)(s':d?):Prop:=∃H',Inv X pins U H' s'/\Q b H'
noncomputable def AP (X:Cx)(pins:b? (c_×L?))(U:St)(Q:b? V->Hp->Prop)(us:b? b_)(s':d?):Prop:=∃vs H',Inv X pins U H' s'/\Vals vs us/\Q vs H'
noncomputable def SP (X:Cx)(pins:b? (c_×L?))(D:Ends)(f:Flow)(s':d?):Prop:=match f with
 | .next=>∃U' H',Inv X pins U' H' s'/\D.nx U' H'
 | .brk=>∃U' H',Inv X pins U' H' s'/\D.bk U' H'
 | .cont=>∃U' H',Inv X pins U' H' s'/\D.ct U' H'
 | .ret u=>∃v U' H',Inv X pins U' H' s'/\RelV v u/\D.rt v H'
noncomputable def PE (X:Cx)(e:G?)(t:TE):Prop:=∀(pins:b? (c_×L?))(s:d?)(U:St)(H:Hp)(Q:VK),Inv X pins U H s->t U H Q->l_ (n_ X.prog X.w) X.A (U? e X.env) (EP X pins U Q) X.xe s
noncomputable def PT (X:Cx)(e:G?)(t:TT):Prop:=∀(pins:b? (c_×L?))(s:d?)(U:St)(H:Hp)(Q:o?->Hp->Prop),Inv X pins U H s->t U H Q->l_ (n_ X.prog X.w) X.A (abP e X.env (U? e X.env)) (TP X pins U Q) X.xe s
noncomputable def PW (X:Cx)(e:G?)(t:TT):Prop:=∀(whole:Ī b_)(pins:b? (c_×L?))(s:d?)(U:St)(H:Hp)(Q:o?->Hp->Prop),Inv X pins U H s->t U H Q->l_ (n_ X.prog X.w) X.A (abP e X.env whole) (TP X pins U Q) X.xe s
theorem PW.pt {X:Cx}{e:G?}{t:TT}(h:PW X e t):PT X e t:=h _
noncomputable def PA (X:Cx)(es:b? G?)(t:TA):Prop:=∀(pos:ğ)(pins:b? (c_×L?))(s:d?)(U:St)(H:Hp)(Q:b? V->Hp->Prop),Inv X pins U H s->t U H Q->l_ (n_ X.prog X.w) X.A (spliced (W_ pos (x? es X.env))) (AP X pins U Q) X.xe s
noncomputable def PS (X:Cx)(st:K?)(t:TS):Prop:=∀(pins:b? (c_×L?))(s:d?)(U:St)(H:Hp)(D:Ends),Inv X pins U H s->t D U H->l_ (n_ X.prog X.w) X.A (exec st X.env) (SP X pins D) X.xe s
noncomputable def cU (X:Cx)(st:b? K?)(t:TS):Prop:=∀(pins:b? (c_×L?))(s:d?)(U:St)(H:Hp)(D:Ends),Inv X pins U H s->t D U H->l_ (n_ X.prog X.w) X.A (execs st X.env) (SP X pins D) X.xe s
theorem ah {α:Type}{t:Ī α}{Q Q':α->d?->Prop}{M:aak}{A:C_}{E:b_->d?->Prop}{s:d?}(h:l_ M A t Q E s)(hQ:∀a s,Q a s->Q' a s):l_ M A t Q' E s:=G_ h hQ λ_ _ x=>x
section
variable {X:Cx}
theorem bin {a b:G?}{ta tb:TE}(ha:PE X a ta)(hb:PE X b tb){pins:b? (c_×L?)}{s:d?}{U:St}{H:Hp}{R:V->V->Hp->Prop}(I:Inv X pins U H s)(h:ta U H λx H1=>tb U H1 λy H2=>R x y H2){α:Type}{Q:α->d?->Prop}{f:b_->b_->Ī α}(hf:∀v u s2 x y H2,Inv X pins U H2 s2->RelV x v->RelV y u->R x y H2->l_ (n_ X.prog X.w) X.A (f v u) Q X.xe s2):
  l_ (n_ X.prog X.w) X.A (U? a X.env) (λv ai=>l_ (n_ X.prog X.w) X.A (U? b X.env) (λu aa=>l_ (n_ X.prog X.w) X.A (f v u) Q X.xe aa) X.xe ai) X.xe s:=by
 refine ah (ha pins s U H _ I h) λv s1 zQ=>?_;obtain⟨x,H1,I1,r1,q1⟩:=zQ;refine ah (hb pins s1 U H1 _ I1 q1) λu s2 zQ=>?_;obtain⟨y,H2,I2,r2,q2⟩:=zQ;exact hf v u s2 x y H2 I2 r1 r2 q2
noncomputable def Lx (i:i_):TE:=λ U H Q=>∃v,U[i]?=some (some v)/\Q v H
noncomputable def tC (v:V):TE:=λ_ H Q=>Q v H
theorem Te {i:i_}{x:y?}{pos:ğ}(hN:X.N[i]?=some x)(hv:tj X.env.scope x)(hd:e_ ((x==("__debug__":y?))=false) aP2)(eL:e_ ((x==("__classdict__":y?))=false) aP2):PE X (.Name x pos) (Lx i):=by
 intro pins s U H Q I h;obtain⟨v,e,h⟩:=h;obtain⟨m,hn,hl⟩:=I.loc;obtain⟨u,r,l⟩:=hl i x v hN e hv;have fin:EP X pins U Q u s:=(xa0 v H ⟨I,r,h⟩);rcases l with⟨hk,hm⟩|⟨hk,c,hc,dz⟩
 .exact adx (wpAny_loadName_local I.ok.kind hk hn hm fin) hd
 .rcases hk with hk|hk
  .exact adx (wpAny_loadName_cell I.ok.kind hk hc dz fin) hd
  .exact adx (wpAny_loadName_free I.ok.kind hk hc dz fin eL) hd
theorem jn {i j pos}:PE X (.Constant (.int i) j pos) (tC (.int i)):=λ_ _ _ H _ I h=>wpAny_Constant_int (xa0 (.int i) H ⟨I.tok _,⟨_,a_⟩,h⟩)
theorem dZ {b j pos}:PE X (.Constant (.bool b) j pos) (tC (.bl b)):=λ_ _ _ H _ I h=>Constant_bool (xa0 (.bl b) H ⟨I,a_,h⟩)
theorem gR {j pos}:PE X (.Constant .none j pos) (tC .aj):=λ_ _ _ H _ I h=>Constant_none (xa0 .aj H ⟨I,a_,h⟩)
theorem gd {x j pos}:PE X (.Constant (.str x) j pos) (tC (.str x)):=λ_ _ _ H _ I h=>Calls.Constant_str (xa0 (.str x) H ⟨I.tok _,⟨_,a_⟩,h⟩)
noncomputable def Gl (X:Cx)(x:y?):Prop:=X.env.kindOf x=some .globalImplicit
theorem mQ {E:b_->d?->Prop}{pins:b? (c_×L?)}{s:d?}{U:St}{H:Hp}{x:y?}{u:b_}{pos:ğ}{Q:b_->d?->Prop}(I:Inv X pins U H s)(hg:Gl X x)(hm:X.mg x=some u)(h:Q u s)(hd:e_ ((x==("__debug__":y?))=false) aP2):l_ (n_ X.prog X.w) X.A (U? (.Name x pos) X.env) Q E s:=
 Ĵ I.ok.kind hg (abp (by rw[I.ok.glob];exact I.mod.glob.keeps I.bk) hm h) hd
theorem tm {E:b_->d?->Prop}{pins:b? (c_×L?)}{s:d?}{U:St}{H:Hp}{x:y?}{u:b_}{pos:ğ}{Q:b_->d?->Prop}(I:Inv X pins U H s)(hg:Gl X x)(hm:X.mg x=none)(hv:N_ x=some u)(h:Q u s)(hn:e_ (x≠"__name__") aP2)(hd:e_ ((x==("__debug__":y?))=false) aP2):l_ (n_ X.prog X.w) X.A (U? (.Name x pos) X.env) Q E s:=by
 obtain⟨mb,h1,h2⟩:=I.mod.blt;exact Ĵ I.ok.kind hg (Calls.loadGlobal_builtin (by rw[I.ok.glob];exact I.mod.glob.keeps I.bk) hm (by rw[I.ok.blt];exact h1.keeps I.bk) ((h2 x hn).trans hv) h) hd
theorem zk {x:y?}{v:V}{u:b_}{pos:ğ}(hg:Gl X x)(hm:X.mg x=some u)(r:RelV v u)(hd:e_ ((x==("__debug__":y?))=false) aP2):PE X (.Name x pos) (tC v):=λ_ _ _ H _ I h=>mQ I hg hm (xa0 v H ⟨I,r,h⟩) hd
theorem mR {x:y?}{v:V}{u:b_}{pos:ğ}(hg:Gl X x)(hm:X.mg x=none)(hv:N_ x=some u)(r:RelV v u)(hn:e_ (x≠"__name__") aP2)(hd:e_ ((x==("__debug__":y?))=false) aP2):PE X (.Name x pos) (tC v):=λ_ _ _ H _ I h=>tm I hg hm hv (xa0 v H ⟨I,r,h⟩) hn hd
variable {a b:G?}{ta tb:TE}{pos:ğ}
noncomputable def PC (X:Cx)(op:adZ)(a b:G?)(t:TE):Prop:=∀(pins:b? (c_×L?))(s:d?)(U:St)(H:Hp)(Q:VK),Inv X pins U H s->t U H Q->l_ (n_ X.prog X.w) X.A (U? a X.env) (λv ai=>l_ (n_ X.prog X.w) X.A (U? b X.env) (λu aa=>l_ (n_ X.prog X.w) X.A (Q_ op v u) (EP X pins U Q) X.xe aa) X.xe ai) X.xe s
noncomputable def tB (t:TE):TT:=λ U H Q=>t U H λx H1=>∃c,x= .bl c/\Q c H1
theorem zL {op:adZ}{t:TE}(h:PC X op a b t)(h1:aaB op b=false:=by first|exact tq _ (by decide) (by decide)|rfl):PT X (.Compare a [op] [b] pos) (tB t):=by intro pins s U H Q I hw;refine acQ (ah (h pins s U H _ I hw) λv s1 h1=>ah h1 λu s2 h2=>ah h2 λc s3 zQ=>?_) h1;obtain⟨x,H1,I1,r1,q1⟩:=zQ;obtain⟨d,rfl,q⟩:=q1;cases r1;exact X_ ⟨H1,I1,q⟩
theorem ze {e:G?}{t:TE}(h:PE X e t)(he:e_ (∀whole,abP e X.env whole=(do let v<-whole;Ŵ e.pos;ģ [v] (truthy v))) aP3):PT X e (tB t):=by intro pins s U H Q I hw;refine isTrue_plain (ah (h pins s U H _ I hw) λv s1 zQ=>?_) (he _);obtain⟨x,H1,I1,r1,q1⟩:=zQ;obtain⟨d,rfl,q⟩:=q1;cases r1;exact X_ ⟨H1,I1,q⟩
variable {tA zM:TT}{rest:b? G?}
noncomputable def Tf (t u:TT):TT:=λ U H Q=>t U H λc H1=>if c=true then u U H1 Q else Q false H1
noncomputable def Tg (t u:TT):TT:=λ U H Q=>t U H λc H1=>if c=true then Q true H1 else u U H1 Q
noncomputable def Th (t:TT):TT:=λ U H Q=>t U H λc H1=>Q (!c) H1
theorem lJ (ha:PT X a tA):PW X (.BoolOp .And [a] pos) tA:=by
 intro wh pins s U H Q I h;refine isTrue_and (ah (ha pins s U H Q I h) λc s1 e=>?_);cases c with
 |true=>exact isTrue_and_nil e
 |false=>exact e
theorem gS (ha:PT X a tA):PW X (.BoolOp .Or [a] pos) tA:=by
 intro wh pins s U H Q I h;refine isTrue_or (ah (ha pins s U H Q I h) λc s1 e=>?_);cases c with
 |false=>exact isTrue_or_nil e
 |true=>exact e
theorem kB (ha:PT X a tA)(hb:PW X (.BoolOp .And (b::rest) pos) zM):PW X (.BoolOp .And (a::b::rest) pos) (Tf tA zM):=by
 intro wh pins s U H Q I h;refine isTrue_and (ah (ha pins s U H _ I h) λc s1 zQ=>?_);obtain⟨H1,I1,q1⟩:=zQ;cases c with
 |true=>exact hb wh pins s1 U H1 Q I1 q1
 |false=>exact⟨H1,I1,q1⟩
theorem gD (ha:PT X a tA)(hb:PW X (.BoolOp .Or (b::rest) pos) zM):PW X (.BoolOp .Or (a::b::rest) pos) (Tg tA zM):=by
 intro wh pins s U H Q I h;refine isTrue_or (ah (ha pins s U H _ I h) λc s1 zQ=>?_);obtain⟨H1,I1,q1⟩:=zQ;cases c with
 |true=>exact⟨H1,I1,q1⟩
 |false=>exact hb wh pins s1 U H1 Q I1 q1
theorem xq (ha:PT X a tA):PT X (.UnaryOp .Not a pos) (Th tA):=by intro pins s U H Q I h;exact isTrue_not (ha pins s U H (λc H1=>Q (!c) H1) I h)
noncomputable def Ti (ta tb:TE):TE:=λ U H Q=>ta U H λx H1=>∃c,x= .bl c/\if c=true then tb U H1 Q else Q (.bl false) H1
noncomputable def Tj (ta:TE):TE:=λ U H Q=>ta U H λx H1=>∃c,x= .bl c/\Q (.bl (!c)) H1
theorem mS {op}{t:TE}(h:PE X a t):PE X (.BoolOp op [a] pos) t:=λpins s U H Q I hw=>BoolOp_one (h pins s U H Q I hw)
theorem lK (ha:PE X a ta)(hb:PE X (.BoolOp .And (b::rest) pos) tb):PE X (.BoolOp .And (a::b::rest) pos) (Ti ta tb):=by
 intro pins s U H Q I h;refine BoolOp_and (ah (ha pins s U H _ I h) λv s1 zQ=>?_);obtain⟨x,H1,I1,r1,q1⟩:=zQ;obtain⟨c,rfl,q1⟩:=q1;cases r1;refine X_ ?_;cases c with
 |true=>exact hb pins s1 U H1 Q I1 q1
 |false=>exact(xa0 (.bl false) H1 ⟨I1,a_,q1⟩)
theorem Tn (ha:PE X a ta):PE X (.UnaryOp .Not a pos) (Tj ta):=by intro pins s U H Q I h;refine afj (ah (ha pins s U H _ I h) λv s1 zQ=>?_);obtain⟨x,H1,I1,r1,q1⟩:=zQ;obtain⟨c,rfl,q1⟩:=q1;cases r1;exact not_of (X_ (xa0 (.bl (!c)) H1 ⟨I1,a_,q1⟩))
noncomputable def Tp (t:TT)(ta tb:TE):TE:=λ U H Q=>t U H λc H1=>if c=true then ta U H1 Q else tb U H1 Q
theorem zN {c:G?}(hc:PT X c tA)(ha:PE X a ta)(hb:PE X b tb):PE X (.IfExp c a b pos) (Tp tA ta tb):=by
 intro pins s U H Q I h;refine wpAny_IfExp (ah (hc pins s U H _ I h) λd s1 zQ=>?_);obtain⟨H1,I1,q1⟩:=zQ;cases d with
 |true=>exact ha pins s1 U H1 Q I1 q1
 |false=>exact hb pins s1 U H1 Q I1 q1
end
noncomputable def af (K:e?)(H:Hp)(a:c_)(xs:b? V):Prop:=Rd H a (.lst xs)\/∃(o:L?)(its:E? b_)(n:i_),K.lookup a=some o/\o.cls= .type "list"/\o.dict=none/\o.data= .seq its n/\its.size<=k_/\Vals xs its.toList
noncomputable def az (K:e?)(H:Hp)(a:c_)(xs:b? V):Prop:=Rd H a (.tup xs)\/∃(o:L?)(its:E? b_)(n:i_),K.lookup a=some o/\o.cls= .type "tuple"/\o.data= .seq its n/\its.size<=k_/\Vals xs its.toList
noncomputable def Tq:b_->g? V
 | .none=>some .aj
 | .bool b=>some (.bl b)
 | .int i _=>some (.int i)
 | .str x _=>some (.str x)
 | .bytes b _=>some (.fF b)
 | .float b _=>some (.mL b)
 | .ref a=>some (.ref a)
 | .type n=>some (.ty n)
 |_=>none
theorem RelV.abs {x:V}{u:b_}(r:RelV x u):Tq u=some x:=by
 cases x with
 |aj=>cases r;rfl
 |bl _=>cases r;rfl
 |int _=>obtain⟨t,rfl⟩:=r;rfl
 |str _=>obtain⟨t,rfl⟩:=r;rfl
 |fF _=>obtain⟨t,rfl⟩:=r;rfl
 |mL _=>obtain⟨t,rfl⟩:=r;rfl
 |ref _=>cases r;rfl
 |ty _=>cases r;rfl
theorem RelV.inj {x y:V}{u:b_}(r:RelV x u)(q:RelV y u):x=y:=s_ (r.abs.symm.trans q.abs)
theorem Vals.inj:∀{xs ys:b? V}{us:b? b_},Vals xs us->Vals ys us->xs=ys:=λ{xs ys us} p q=>by
 induction p generalizing ys with
 |nil=>cases q;rfl
 |cons r t ih=>
  cases q with
  |cons r' t'=>rw[r.inj r',ih t']
section
variable {X:Cx}{pins:b? (c_×L?)}{U:St}{H:Hp}{s:d?}{a:c_}{xs ys:b? V}
theorem af.of {K:e?}(h:H a=some (.lst xs)):af K H a xs:=.inl (.inl h)
theorem az.of {K:e?}(h:H a=some (.tup xs)):az K H a xs:=.inl (.inl h)
theorem Inv.list (I:Inv X pins U H s)(h:af X.K H a xs):∃its:b? b_,Vals xs its/\PlainL s.heap a its.toArray/\xs.length<=k_:=by
 rcases h with h|⟨o,its,n,hk,hc,hd,hs,hz,r⟩
 .obtain⟨z,its,n,r,e⟩:=h.ok I.ag;exact⟨its,r,(xa0 _ n ⟨e,a_,a_,a_⟩),z⟩
 .refine⟨its.toList,r,(xa0 o n ⟨I.aS a o hk,hc,hd,by simpa using hs⟩),?_⟩;have e:=r.length;simp only[Ï]at e;lia
theorem Inv.tuple (I:Inv X pins U H s)(h:az X.K H a xs):∃its:b? b_,Vals xs its/\adh s.heap a its.toArray/\xs.length<=k_:=by
 rcases h with h|⟨o,its,n,hk,hc,hs,hz,r⟩
 .obtain⟨z,its,r,p⟩:=h.ok I.ag;exact⟨its,r,p,z⟩
 .refine⟨its.toList,r,⟨o,I.aS a o hk,hc,n,by simpa using hs⟩,?_⟩;have e:=r.length;simp only[Ï]at e;lia
theorem Inv.Df (I:Inv X pins U H s)(h:af X.K H a xs)(h':af X.K H a ys):xs=ys:=by
 obtain⟨its,r,⟨o,n,e,_,_,d⟩,_⟩:=I.list h;obtain⟨its',r',⟨o',n',e',_,_,d'⟩,_⟩:=I.list h';rw[e]at e';cases e';rw[d]at d';injection d' with d1 _;have:its=its':=by simpa using X? E?.toList d1
 subst this;exact r.inj r'
theorem Inv.Dg (I:Inv X pins U H s)(h:az X.K H a xs)(h':az X.K H a ys):xs=ys:=by
 obtain⟨its,r,⟨o,e,_,n,d⟩,_⟩:=I.tuple h;obtain⟨its',r',⟨o',e',_,n',d'⟩,_⟩:=I.tuple h';rw[e]at e';cases e';rw[d]at d';injection d' with d1 _;have:its=its':=by simpa using X? E?.toList d1
 subst this;exact r.inj r'
end
noncomputable abbrev Cx.kC (X:Cx)(E:b_->d?->Prop):Cx:={X with xe:=E}
noncomputable abbrev Cx.rC (X:Cx):Cx:=X.kC λ_ _=>w?
theorem Cx.Ok.kC {X:Cx}(ok:X.Ok)(E:b_->d?->Prop):(X.kC E).Ok:=⟨ok.mod,ok.kind,ok.glob,ok.blt,ok.above,ok.inj,ok.has,ok.oN,ok.hd,ok.frames,ok.cX,ok.zG,ok.bs,ok.jY,ok.oO,ok.rA,ok.fg,ok.iM⟩
theorem Cx.Ok.mT {X:Cx}{E:b_->d?->Prop}(ok:(X.kC E).Ok):X.Ok:=⟨ok.mod,ok.kind,ok.glob,ok.blt,ok.above,ok.inj,ok.has,ok.oN,ok.hd,ok.frames,ok.cX,ok.zG,ok.bs,ok.jY,ok.oO,ok.rA,ok.fg,ok.iM⟩
section
variable {X:Cx}{pins:b? (c_×L?)}{U:St}{H:Hp}{s:d?}{E:b_->d?->Prop}
theorem Inv.kC (I:Inv X pins U H s)(E:b_->d?->Prop):Inv (X.kC E) pins U H s:=⟨I.ok.kC E,I.os,I.bare,I.base,I.loc,I.cell,I.free,I.dH,I.pin,I.ag,I.len⟩
theorem Inv.mT (I:Inv (X.kC E) pins U H s):Inv X pins U H s:=⟨I.ok.mT,I.os,I.bare,I.base,I.loc,I.cell,I.free,I.dH,I.pin,I.ag,I.len⟩
theorem SP.mT {D:Ends}{f:Flow}{s':d?}(h:SP (X.kC E) pins D f s'):SP X pins D f s':=by
 cases f with
 |next=>obtain⟨U',H',I,q⟩:=h;exact(xa0 U' H' ⟨I.mT,q⟩)
 |brk=>obtain⟨U',H',I,q⟩:=h;exact(xa0 U' H' ⟨I.mT,q⟩)
 |cont=>obtain⟨U',H',I,q⟩:=h;exact(xa0 U' H' ⟨I.mT,q⟩)
 |ret u=>obtain⟨v,U',H',I,r,q⟩:=h;exact(xa1 v U' H' ⟨I.mT,r,q⟩)
theorem cU.rC {st:b? K?}{t:TS}(h:cU X.rC st t):cU X st t:=λpins s U H D I hw=>G_ (h pins s U H D (I.kC _) hw) (λ_ _ q=>q.mT) λ_ _ z=>J? z
end
section
variable {X:Cx}{st:K?}{rest:b? K?}{t u:TS}{e:G?}{te:TE}{pos:ğ}
noncomputable def Tr:TS:=λD U H=>D.nx U H
noncomputable def zO (t u:TS):TS:=λD U H=>t {D with nx:=u D} U H
theorem j9:cU X [] Tr:=λ_ _ U H _ I h=>Ĺ (xa0 U H ⟨I,h⟩)
theorem jb (h1:PS X st t)(h2:cU X rest u):cU X (st::rest) (zO t u):=by
 intro pins s U H D I h;refine ad9 (ah (h1 pins s U H {D with nx:=u D} I h) λf s1 q=>?_);cases f with
 |next=>obtain⟨U',H',I',q⟩:=q;exact h2 pins s1 U' H' D I' q
 |ret v=>exact q
 |brk=>exact q
 |cont=>exact q
theorem je (h1:PS X st t):cU X [st] t:=by
 intro pins s U H D I h;refine ad9 (ah (h1 pins s U H D I h) λf s1 q=>?_);cases f with
 |next=>exact Ĺ q
 |ret v=>exact q
 |brk=>exact q
 |cont=>exact q
theorem Inv.quiet {pins:b? (c_×L?)}{U:St}{H:Hp}{s:d?}(I:Inv X pins U H s):interactive X.env=false:=by simp[interactive,I.ok.kind]
noncomputable def Ts (te:TE):TS:=λD U H=>te U H λ_ H1=>D.nx U H1
theorem qb (he:PE X e te)(hs:e_ (aan e none pos.line X.env=ó false) aP1):PS X (.Expr e pos) (Ts te):=by intro pins s U H D I h;exact wpAny_Expr_any (ah (he pins s U H _ I h) λv s1 ⟨x,H1,I1,r1,q1⟩=>(xa0 U H1 ⟨I1,q1⟩)) I.quiet hs
noncomputable def Tt (te:TE):TS:=λD U H=>te U H D.rt
theorem jv (he:PE X e te):PS X (.Return (some e) pos) (Tt te):=by intro pins s U H D I h;exact wpAny_Return_some (ah (he pins s U H _ I h) λv s1 ⟨x,H1,I1,r1,q1⟩=>(xa1 x U H1 ⟨I1,r1,q1⟩))
noncomputable def Ly (c:TT)(t u:TS):TS:=λD U H=>c U H λb H1=>if b=true then t D U H1 else u D U H1
theorem zf {c:G?}{a b:b? K?}{tc:TT}(hc:PT X c tc)(ha:cU X a t)(hb:cU X b u):PS X (.If c a b pos) (Ly tc t u):=by
 intro pins s U H D I h;refine wpAny_If (ah (hc pins s U H _ I h) λd s1 zQ=>?_);obtain⟨H1,I1,q1⟩:=zQ;cases d with
 |true=>exact ha pins s1 U H1 D I1 q1
 |false=>exact hb pins s1 U H1 D I1 q1
noncomputable def Lz:TS:=λ_ _ _=>w?
theorem Tu:PS X st Lz:=λ_ _ _ _ _ _ h=>h.elim
theorem ql {Tv:b? K?}:cU X Tv Lz:=λ_ _ _ _ _ _ h=>h.elim
end
noncomputable abbrev TG:=V->St->Hp->(St->Hp->Prop)->Prop
noncomputable abbrev mU:=b? V->St->Hp->(St->Hp->Prop)->Prop
noncomputable def PG (X:Cx)(target:G?)(t:TG):Prop:=∀(pins:b? (c_×L?))(s:d?)(U:St)(H:Hp)(v:V)(u:b_)(Q:St->Hp->Prop),Inv X pins U H s->RelV v u->t v U H Q->l_ (n_ X.prog X.w) X.A (aaj target X.env u) (λ_ s'=>∃U' H',Inv X pins U' H' s'/\Q U' H') X.xe s
noncomputable def tw (X:Cx)(ts:b? G?)(t:mU):Prop:=∀(pins:b? (c_×L?))(s:d?)(U:St)(H:Hp)(vs:b? V)(us:b? b_)(Q:St->Hp->Prop),Inv X pins U H s->Vals vs us->t vs U H Q->l_ (n_ X.prog X.w) X.A (assignInOrder ((į ts X.env).map (·.2)) us) (λ_ s'=>∃U' H',Inv X pins U' H' s'/\Q U' H') X.xe s
noncomputable abbrev tD:=V->V->V->Hp->(Hp->Prop)->Prop
noncomputable def Dh (X:Cx)(t:tD):Prop:=∀(pins:b? (c_×L?))(s:d?)(U:St)(H:Hp)(o i v:V)(ov iv u:b_)(Q:Hp->Prop),Inv X pins U H s->RelV o ov->RelV i iv->RelV v u->t o i v H Q->l_ (n_ X.prog X.w) X.A (adR ov iv u) (λ_ s'=>∃H',Inv X pins U H' s'/\Q H') X.xe s
noncomputable abbrev zP:=V->V->Hp->VK->Prop
noncomputable def Di (X:Cx)(op:aff)(t:zP):Prop:=∀(pins:b? (c_×L?))(s:d?)(U:St)(H:Hp)(x y:V)(v u:b_)(Q:VK),Inv X pins U H s->RelV x v->RelV y u->t x y H Q->l_ (n_ X.prog X.w) X.A (inplaceOp op v u) (EP X pins U Q) X.xe s
section
variable {X:Cx}{pos:ğ}
noncomputable def dI (i:i_):TG:=λv U H Q=>Q (U.set i (some v)) H
theorem jr {i:i_}{x:y?}(hN:X.N.Nodup)(hi:X.N[i]?=some x)(hx:Loc X.env.scope x)(hf:e_ (X.fn x=true\/X.env.scope.names.lookup x=some .local) aP5):PG X (.Name x pos) (dI i):=by intro pins s U H v u Q I r h;exact adQ (zK I hN hi hx r (λs' I'=>(xa0 _ H ⟨I',h⟩)) hf)
noncomputable def Dj:mU:=λvs U H Q=>vs=[]/\Q U H
noncomputable def tE (t:TG)(u:mU):mU:=λvs U H Q=>∃v r,vs=v::r/\t v U H λ U' H'=>u r U' H' Q
theorem iO:tw X [] Dj:=by intro pins s U H vs us Q I r h;obtain⟨e,h⟩:=h;subst e;cases r;exact assignInOrder_nil (xa0 U H ⟨I,h⟩)
theorem ju {e:G?}{es:b? G?}{t:TG}{u:mU}(h1:PG X e t)(h2:tw X es u)(hs:e_ ((į (e::es) X.env).map (·.2)=aaj e X.env::(į es X.env).map (·.2)) aP1):tw X (e::es) (tE t u):=by
 intro pins s U H vs us Q I r h;obtain⟨v,vr,e1,h⟩:=h;subst e1;cases r with
 |cons r rr=>rw[hs];refine assignInOrder_cons (ah (h1 pins s U H _ _ _ I r h) λ_ s1 zQ=>?_);obtain⟨U1,H1,I1,q1⟩:=zQ;exact h2 pins s1 U1 H1 _ _ Q I1 rr q1
noncomputable def LA (K:e?)(n:i_)(t:mU):TG:=λv U H Q=>∃a xs,v= .ref a/\az K H a xs/\xs.length=n/\t xs U H Q
theorem kD {es:b? G?}{k:i_}{t:mU}{n:i_}(hc:X.calm=true)(h:tw X es t)(hn:e_ ((į es X.env).length=n) aP1)(iA:e_ ((į es X.env).findIdx? (·.1)=none) aP1):PG X (.Tuple es k pos) (LA X.K n t):=by
 intro pins s U H v u Q I r hw;obtain⟨a,xs,e1,hq,hl,hw⟩:=hw;subst e1;cases r;obtain⟨its,rv,ht,hz⟩:=I.tuple hq;refine assign_Tuple_tuple (I.ok.hd hc) ht (by simp[hn,<-hl,rv.length]) iA λh' hx=>?_;have I1:Inv X pins U H {s with heap:=h'}:=I.kept (t':=s.toks) λb o e=>hx b o (N? (r? e)) e;exact h pins _ U H xs _ Q I1 (by simpa using rv) hw
noncomputable def Tx (to ti:TE)(t:tD):TG:=λv U H Q=>to U H λo H1=>ti U H1 λi H2=>t o i v H2 λH3=>Q U H3
theorem LB {o i:G?}{to ti:TE}{t:tD}(ho:PE X o to)(hi:PE X i ti)(hs:Dh X t)(ha:e_ (∀v,aaj (.Subscript o i pos) X.env v=(do
   let ov<-ģ [v] (U? o X.env);let iv<-ģ [v,ov] (U? i X.env)
   Ŵ pos
   ģ [v,ov,iv] (adR ov iv v)
   release [v,ov,iv] [])) aP3):PG X (.Subscript o i pos) (Tx to ti t):=by
 intro pins s U H v u Q I r h;rw[ha];refine d_ (M? (ah (ho pins s U H _ I h) λov s1 zQ=>?_));obtain⟨x,H1,I1,r1,q1⟩:=zQ;refine d_ (M? (ah (hi pins s1 U H1 _ I1 q1) λiv s2 zQ=>?_));obtain⟨y,H2,I2,r2,q2⟩:=zQ;refine d_ (á (d_ (M? (ah (hs pins s2 U H2 x y v ov iv u _ I2 r1 r2 r q2) λ_ s3 zQ=>?_))));obtain⟨H3,I3,q3⟩:=zQ;exact wpAny_release (xa0 U H3 ⟨I3,q3⟩)
noncomputable def Dk (te:TE)(g:TG):TS:=λD U H=>te U H λx H1=>g x U H1 D.nx
theorem iP {tg e:G?}{te:TE}{g:TG}(he:PE X e te)(hg:PG X tg g)(hs:e_ (swapsWithSole [tg] e pos.line X.env=ó false) aP1)(hw:e_ (swappedStores [tg] e X.env=ó none) aP1)(h1:e_ ((į [tg] X.env).map (·.2)=[aaj tg X.env]) aP1):PS X (.Assign [tg] e pos) (Dk te g):=by
 intro pins s U H D I h;refine wpAny_Assign_stores (ah (he pins s U H _ I h) λv s1 zQ=>?_) hs hw;obtain⟨x,H1,I1,r1,q1⟩:=zQ;rw[h1];exact ah (hg pins s1 U H1 x v _ I1 r1 q1) λ_ s2 q=>q
theorem j7 {i:i_}{x:y?}{e:G?}{te:TE}{pos':ğ}(hN:X.N.Nodup)(hi:X.N[i]?=some x)(hx:Loc X.env.scope x)(he:PE X e te)(hs:e_ (aan e (some (.Name x pos')) pos.line X.env=ó false) aP1)(hf:e_ (X.fn x=true\/X.env.scope.names.lookup x=some .local) aP5):PS X (.Assign [.Name x pos'] e pos) (Dk te (dI i)):=by
 intro pins s U H D I h;refine wpAny_Assign_Name (ah (he pins s U H _ I h) λv s1 zQ=>?_) hs;obtain⟨y,H1,I1,r1,q1⟩:=zQ;exact zK I1 hN hi hx r1 (λs2 I2=>(xa0 _ H1 ⟨I2,q1⟩)) hf
noncomputable def Tz (to ti te:TE)(lM:V->V->Hp->VK->Prop)(zQ:zP)(lN:tD):TS:=λD U H=>to U H λo H1=>ti U H1 λi H2=>lM o i H2 λx H3=>te U H3 λy H4=>zQ x y H4 λz H5=>lN o i z H5 λH6=>D.nx U H6
noncomputable def LC (X:Cx)(t:V->V->Hp->VK->Prop):Prop:=∀(pins:b? (c_×L?))(s:d?)(U:St)(H:Hp)(o i:V)(ov iv:b_)(Q:VK),Inv X pins U H s->RelV o ov->RelV i iv->t o i H Q->l_ (n_ X.prog X.w) X.A (abA ov iv) (EP X pins U Q) X.xe s
theorem mV {o i e:G?}{to ti te:TE}{lM:V->V->Hp->VK->Prop}{zQ:zP}{lN:tD}{op:aff}{fG:ğ}(ho:PE X o to)(hi:PE X i ti)(hg:LC X lM)(he:PE X e te)(hp:Di X op zQ)(hs:Dh X lN)(ha:∀ov iv new,augStore i ov iv new=(do ģ [new,ov,iv] (adR ov iv new);release [new,ov,iv] [];ó .next):=by intros;rfl):PS X (.AugAssign (.Subscript o i fG) op e pos) (Tz to ti te lM zQ lN):=by
 intro pins s U H D I h;refine wpAny_AugAssign_SubscriptAny (ah (ho pins s U H _ I h) λov s1 zQ=>?_) ha;obtain⟨x1,H1,I1,r1,q1⟩:=zQ;refine ah (hi pins s1 U H1 _ I1 q1) λiv s2 zQ=>?_;obtain⟨x2,H2,I2,r2,q2⟩:=zQ;refine ah (hg pins s2 U H2 x1 x2 ov iv _ I2 r1 r2 q2) λold s3 zQ=>?_;obtain⟨x3,H3,I3,r3,q3⟩:=zQ;refine ah (he pins s3 U H3 _ I3 q3) λv s4 zQ=>?_;obtain⟨x4,H4,I4,r4,q4⟩:=zQ;refine ah (hp pins s4 U H4 x3 x4 old v _ I4 r3 r4 q4) λnew s5 zQ=>?_;obtain⟨x5,H5,I5,r5,q5⟩:=zQ;exact ah (hs pins s5 U H5 x1 x2 x5 ov iv new _ I5 r1 r2 r5 q5) λ_ s6 ⟨H6,I6,q6⟩=>(xa0 U H6 ⟨I6,q6⟩)
noncomputable def LF (f:f?->f?->f?):zP:=λx y H Q=>∃i j,x= .int i/\y= .int j/\Q (.int (f i j)) H
theorem tF:Di X .Add (LF λi j=>i+j):=by intro pins s U H x y v u Q I r1 r2 h;obtain⟨i,j,e1,e2,q⟩:=h;subst e1;subst e2;obtain⟨t,rfl⟩:=r1;obtain⟨t',rfl⟩:=r2;exact iadd_int (xa0 (.int _) H ⟨I.tok _,⟨_,a_⟩,q⟩)
theorem Dl:Di X .Sub (LF λi j=>i-j):=by intro pins s U H x y v u Q I r1 r2 h;obtain⟨i,j,e1,e2,q⟩:=h;subst e1;subst e2;obtain⟨t,rfl⟩:=r1;obtain⟨t',rfl⟩:=r2;exact isub_int (xa0 (.int _) H ⟨I.tok _,⟨_,a_⟩,q⟩)
noncomputable def LG (c:TT)(tb:TS):TS:=λD U H=>∃W:i_->St->Hp->Prop,(∃m,W m U H)/\∀m U H,W m U H->c U H λb H1=>if b=true then ∃N:St->Hp->Prop,(∀U' H',N U' H'->∃m',m'<m/\W m' U' H')/\tb {D with nx:=N,ct:=N,bk:=D.nx} U H1 else D.nx U H1
theorem LH {c:G?}{body:b? K?}{tc:TT}{tb:TS}(hp:Ç (n_ X.prog X.w) X.A X.env X.xe)(hc:PT X c tc)(hb:cU X body tb):PS X (.While c body [] pos) (LG tc tb):=by
 intro pins s U H D I h;obtain⟨W,⟨m0,w0⟩,turn⟩:=h;refine wpAny_While (codeAny_whileLoop (λn s'=>∃U' H',Inv X pins U' H' s'/\W n U' H') ?_ m0 (xa0 U H ⟨I,w0⟩))
 rintro n s1 ⟨U1,H1,I1,w1⟩
 refine ô hp (ah (hc pins s1 U1 H1 _ I1 (turn n U1 H1 w1)) λb s2 zQ=>?_);obtain⟨H2,I2,q2⟩:=zQ;cases b with
 |true=>
  obtain⟨N,hN,q2⟩:=q2;rw[m_ a_];refine ô hp (ah (hb pins s2 U1 H2 _ I2 q2) λf s3 q3=>?_);cases f with
  |next=>obtain⟨iQ,H3,I3,n3⟩:=q3;obtain⟨m',hm,w3⟩:=hN iQ H3 n3;exact⟨m',hm,xa0 iQ H3 ⟨I3,w3⟩⟩
  |cont=>obtain⟨iQ,H3,I3,n3⟩:=q3;obtain⟨m',hm,w3⟩:=hN iQ H3 n3;exact⟨m',hm,xa0 iQ H3 ⟨I3,w3⟩⟩
  |brk=>exact q3
  |ret v=>exact q3
 |false=>rw[j? t?];exact Ĺ (xa0 U1 H2 ⟨I2,q2⟩)
end
structure It where
 go:i_->Hp->Prop
 dJ:i_->Hp->V->Hp->Prop
 stop:i_->Hp->Prop
noncomputable def dM (X:Cx)(pins:b? (c_×L?))(H:Hp)(b:c_):Prop:=H b=none/\b≠X.env.locals/\b∉X.fs/\(b∈X.ex\/X.ar.heap.objs.size<=b)/\(∀x c,X.env.cells.lookup x=some c->c≠b)/\∀p∈X.pn++pins,p.1≠b
theorem Inv.oS {X:Cx}{pins:b? (c_×L?)}{U:St}{H H':Hp}{s:d?}{b:c_}(I:Inv X pins U H s)(hb:s.heap.objs.size<=b)(hn:H' b=none):dM X pins H' b:=by
 refine⟨hn,afk (F? I.lt hb),I.Lp hb,.inr (P_ I.sz hb),λx c e z=>?_,λp hp z=>?_⟩
 .obtain⟨v,q⟩:=I.cell x c e;exact w_ (F? q.lt (by rw[z];exact hb)) (Ě _)
 .exact w_ (F? (r? (I.pin p hp).1) (by rw[z];exact hb)) (Ě _)
structure Turn (P:D')(w:I?)(K:e?)(tg:G?)(J:It)(fp:b? c_)(it:c_)(tn:i_->k?->Prop):Prop where
 mem:it∈fp
 obj:∀i h,tn i h->∀b∈fp,∃o,h.get? b=some o/\∀v,o.data≠.cell v
 keep:∀i h h',tn i h->(∀b∈fp,∀o,h.get? b=some o->h'.get? b=some o)->tn i h'
 item:∀(X:Cx),X.prog=P->X.w=w->X.K=K->X.calm=true->∀(i:i_)(pins:b? (c_×L?))(s:d?)(U:St)(H:Hp)(E:b_->d?->Prop),Inv X pins U H s->(∀b∈fp,dM X pins H b)->tn i s.heap->J.go i H->l_ (n_ P w) X.A (ĺ (.ref it)) (λr s1=>∃u,r=some u/\l_ (n_ P w) X.A (Ļ tg (.ref it) u) (λ_ s2=>∃x H',Inv X pins U H' s2/\RelV x u/\J.dJ i H x H'/\tn (i+1) s2.heap/\∀b∈fp,H' b=none) E s1) E s
 done:∀(X:Cx),X.prog=P->X.w=w->X.K=K->X.calm=true->∀(i:i_)(pins:b? (c_×L?))(s:d?)(U:St)(H:Hp)(E:b_->d?->Prop),Inv X pins U H s->(∀b∈fp,dM X pins H b)->tn i s.heap->J.stop i H->l_ (n_ P w) X.A (ĺ (.ref it)) (λr s1=>r=none/\Inv X pins U H s1) E s
 self:∀(A:C_)(i:i_)(s:d?)(Q:b_->d?->Prop)(E:b_->d?->Prop),tn i s.heap->Q (.ref it) s->l_ (n_ P w) A (abO (.ref it)) Q E s
noncomputable abbrev TI:=St->Hp->(It->Hp->Prop)->Prop
noncomputable def LI (X:Cx)(pins:b? (c_×L?))(U:St)(tg:G?)(R:It->Hp->Prop)(tG:b_)(s2:d?):Prop:=∃(it:c_)(fp:b? c_)(tn:i_->k?->Prop)(J:It)(H':Hp),tG= .ref it/\Inv X pins U H' s2/\Turn X.prog X.w X.K tg J fp it tn/\tn 0 s2.heap/\(∀b∈fp,dM X pins H' b)/\R J H'
noncomputable def PI (X:Cx)(tg iter:G?)(wi:TI):Prop:=∀(pins:b? (c_×L?))(s:d?)(U:St)(H:Hp)(R:It->Hp->Prop),Inv X pins U H s->wi U H R->l_ (n_ X.prog X.w) X.A (U? iter X.env) (λv s1=>l_ (n_ X.prog X.w) X.A (abO v) (LI X pins U tg R) X.xe s1) X.xe s
theorem rE {M:aak}{A:C_}{E:b_->d?->Prop}{s:d?}{tg:G?}{it:c_}{u:b_}{o:L?}{n:ë}{vs:E? b_}{Q:acB->d?->Prop}(ho:s.heap.get? it=some o)(hc:o.cls= .type n)(hd:o.data= .fields vs)(hn:["enumerate","zip","dict_itemiterator","dict_reverseitemiterator","odict_iterator","itertools.zip_longest","itertools.pairwise"].contains n=false)(hQ:Q () s):l_ M A (Ļ tg (.ref it) u) Q E s:=by
  unfold Ļ;cases tg<;>first
    |exact j_ hQ
    |(cases u<;>first
        |exact j_ hQ
        | (refine d_ (wpAny_load ho ?_)
           rw[hc,hd];show l_ M A (if(["enumerate","zip","dict_itemiterator","dict_reverseitemiterator","odict_iterator","itertools.zip_longest","itertools.pairwise"].contains n&&vs[0]?==some (ŝ _))=true then _ else _) Q E s;rw[j? (by intro h;rw[hn,acg]at h;cases h)];exact j_ hQ))
noncomputable def lO (K:e?)(a:c_):It:=⟨λi H=>∃xs x,af K H a xs/\xs[i]?=some x,λi H x H'=>H'=H/\∀xs,af K H a xs->xs[i]?=some x,λi H=>∃xs,af K H a xs/\xs.length<=i⟩
noncomputable def tH (K:e?)(a:c_):It:=⟨λi H=>∃xs x,az K H a xs/\xs[i]?=some x,λi H x H'=>H'=H/\∀xs,az K H a xs->xs[i]?=some x,λi H=>∃xs,az K H a xs/\xs.length<=i⟩
noncomputable def kE (lo:f?)(n:i_):It:=⟨λi _=>i<n,λi H x H'=>H'=H/\x= .int (lo+i),λi _=>n<=i⟩
theorem TB {P:D'}{w:I?}{K:e?}{tg:G?}(a it:c_):Turn P w K tg (lO K a) [it] it (λi h=>h.IsListIter it a i) where
 mem:=by simp
 obj:=λi h st b hb=>by
  have e:b=it:=by simpa using hb
  subst e;obtain⟨o,e,c,d⟩:=st;exact⟨o,e,λv z=>by rw[d]at z;cases z⟩
 keep:=λi h h' st k=>st.at λo e=>k it (by simp) o e
 item:=by intro X hP hw hK hc i pins s U H E I hf st hg;subst hP hw hK;obtain⟨xs,x,hq,hx⟩:=hg;obtain⟨its,rv,p,hz⟩:=I.list hq;obtain⟨u,hu,ru⟩:=rv.get hx;obtain⟨f0,f1,f2,f3,f4,f5⟩:=hf it (by simp);refine Ġ st p.isList (x:=u) (by simpa using hu) λh' bL sb=>?_;have I1:Inv X pins U H {s with heap:=h'}:=I.turned (t':=s.toks) (λb o hb e=>(sb.2 b hb).trans e) f0 f1 f3 f4 f5;obtain⟨o,e,c,d⟩:=id bL;exact⟨u,a_,rE (s:={s with heap:=h'}) e c d (by decide) (xa0 x H ⟨I1,ru,⟨a_,λys hy=>by rw[I.Df hy hq];exact hx⟩,bL,λb hb=>(hf b hb).1⟩)⟩
 done:=by intro X hP hw hK hc i pins s U H E I hf st hg;subst hP hw hK;obtain⟨xs,hq,hx⟩:=hg;obtain⟨its,rv,p,hz⟩:=I.list hq;obtain⟨f0,f1,f2,f3,f4,f5⟩:=hf it (by simp);have hl:=rv.length;exact ſ (I.ok.hd hc) st p.isList (by simp;lia) λh' eb=>⟨a_,I.turned (t':=s.toks) (λb o hb e=>eb b o hb e) f0 f1 f3 f4 f5⟩
 self:=λ_ _ _ _ _ st h=>wpAny_pyIter_listiter st h
theorem TC {P:D'}{w:I?}{K:e?}{tg:G?}(a it:c_):Turn P w K tg (tH K a) [it] it (λi h=>h.IsTupleIter it a i) where
 mem:=by simp
 obj:=λi h st b hb=>by
  have e:b=it:=by simpa using hb
  subst e;obtain⟨o,e,c,d⟩:=st;exact⟨o,e,λv z=>by rw[d]at z;cases z⟩
 keep:=λi h h' st k=>st.at λo e=>k it (by simp) o e
 item:=by intro X hP hw hK hc i pins s U H E I hf st hg;subst hP hw hK;obtain⟨xs,x,hq,hx⟩:=hg;obtain⟨its,rv,p,hz⟩:=I.tuple hq;obtain⟨u,hu,ru⟩:=rv.get hx;obtain⟨f0,f1,f2,f3,f4,f5⟩:=hf it (by simp);refine wpAny_pyNext_tuple_item st (show s.heap.IsTuple a its.toArray from p) (x:=u) (by simpa using hu) λh' bL sb=>?_;have I1:Inv X pins U H {s with heap:=h'}:=I.turned (t':=s.toks) (λb o hb e=>(sb.2 b hb).trans e) f0 f1 f3 f4 f5;obtain⟨o,e,c,d⟩:=id bL;exact⟨u,a_,rE (s:={s with heap:=h'}) e c d (by decide) (xa0 x H ⟨I1,ru,⟨a_,λys hy=>by rw[I.Dg hy hq];exact hx⟩,bL,λb hb=>(hf b hb).1⟩)⟩
 done:=by intro X hP hw hK hc i pins s U H E I hf st hg;subst hP hw hK;obtain⟨xs,hq,hx⟩:=hg;obtain⟨its,rv,p,hz⟩:=I.tuple hq;obtain⟨f0,f1,f2,f3,f4,f5⟩:=hf it (by simp);have hl:=rv.length;exact wpAny_pyNext_tuple_end (I.ok.hd hc) st (show s.heap.IsTuple a its.toArray from p) (by simp;lia) λh' eb=>⟨a_,I.turned (t':=s.toks) (λb o hb e=>eb b o hb e) f0 f1 f3 f4 f5⟩
 self:=λ_ _ _ _ _ st h=>wpAny_pyIter_tupleiter st h
theorem TF {P:D'}{w:I?}{K:e?}{tg:G?}(it:c_)(lo:f?)(n:i_):Turn P w K tg (kE lo n) [it] it (λi h=>IsRangeIter h it (lo+(i:i_)*1) ((n:f?)-(i:i_)) 1) where
 mem:=by simp
 obj:=λi h st b hb=>by
  have e:b=it:=by simpa using hb
  subst e;exact⟨_,st,λv z=>by have z':acd _=abx v:=z;cases z'⟩
 keep:=λi h h' st k=>k it (by simp) _ st
 item:=by intro X hP hw hK hc i pins s U H E I hf st hg;subst hP hw hK;obtain⟨f0,f1,f2,f3,f4,f5⟩:=hf it (by simp);have W:=Walks.range (prog:=X.prog) (w:=X.w) (I.ok.hd hc) it lo 1 n;refine W.item i s _ _ hg st λv h' tk hv bL kk=>?_;obtain⟨t,rfl⟩:=hv;have I1:Inv X pins U H {s with heap:=h',toks:=tk}:=I.turned (λb o hb e=>kk b o (by simpa using hb) e) f0 f1 f3 f4 f5;refine⟨_,a_,rE (s:={s with heap:=h',toks:=tk}) (n:="range_iterator") bL a_ a_ (by decide) (xa0 (.int (lo+i)) H ⟨I1,⟨t,?_⟩,⟨a_,a_⟩,bL,λb hb=>(hf b hb).1⟩)⟩;rw[f?.mul_one]
 done:=by intro X hP hw hK hc i pins s U H E I hf st hg;subst hP hw hK;obtain⟨f0,f1,f2,f3,f4,f5⟩:=hf it (by simp);exact wpAny_pyNext_range_end (I.ok.hd hc) st (by have:n<=i:=hg;lia) λh' eb=>⟨a_,I.turned (t':=s.toks) (λb o hb e=>eb b o hb e) f0 f1 f3 f4 f5⟩
 self:=λ_ _ _ _ _ st h=>wpAny_pyIter_rangeiter st h
section
variable {X:Cx}{tg:G?}
noncomputable def LJ (K:e?)(tl:TE):TI:=λ U H R=>tl U H λx H1=>∃a,x= .ref a/\(∃xs,af K H1 a xs)/\R (lO K a) H1
noncomputable def LK (K:e?)(tl:TE):TI:=λ U H R=>tl U H λx H1=>∃a,x= .ref a/\(∃xs,az K H1 a xs)/\R (tH K a) H1
theorem pz {l:G?}{tl:TE}(hl:PE X l tl):PI X tg l (LJ X.K tl):=by
 intro pins s U H R I h;refine ah (hl pins s U H _ I h) λv s1 zQ=>?_;obtain⟨x,H1,I1,r1,q1⟩:=zQ;obtain⟨a,e,⟨xs,hq⟩,q⟩:=q1;subst e;cases r1;obtain⟨its,rv,p,hz⟩:=I1.list hq;refine ġ p.isList ?_;refine(xa3 s1.heap.objs.size [s1.heap.objs.size] _ _ H1 ⟨a_,I1.kept (t':=s1.toks) λb o e=>f_ _ e,TB a _,⟨_,v? _ a_,a_,a_⟩,λb hb=>?_,q⟩);have e:b=s1.heap.objs.size:=by simpa using hb
 subst e;exact I1.oS (r_ _) (I1.ag.fresh (r_ _))
theorem TH {l:G?}{tl:TE}(hl:PE X l tl):PI X tg l (LK X.K tl):=by
 intro pins s U H R I h;refine ah (hl pins s U H _ I h) λv s1 zQ=>?_;obtain⟨x,H1,I1,r1,q1⟩:=zQ;obtain⟨a,e,⟨xs,hq⟩,q⟩:=q1;subst e;cases r1;obtain⟨its,rv,p,hz⟩:=I1.tuple hq;refine wpAny_pyIter_tuple (show s1.heap.IsTuple a its.toArray from p) ?_;refine(xa3 s1.heap.objs.size [s1.heap.objs.size] _ _ H1 ⟨a_,I1.kept (t':=s1.toks) λb o e=>f_ _ e,TC a _,⟨_,v? _ a_,a_,a_⟩,λb hb=>?_,q⟩);have e:b=s1.heap.objs.size:=by simpa using hb
 subst e;exact I1.oS (r_ _) (I1.ag.fresh (r_ _))
theorem TJ {pins:b? (c_×L?)}{U:St}{H:Hp}{s:d?}{R:It->Hp->Prop}{E:b_->d?->Prop}{lo hi:f?}{t u v:Tok}{tk:i_}(I:Inv X pins U H s)(h1:-(2^62)<=lo)(h2:lo<2^62)(h3:-(2^62)<=hi)(h4:hi<2^62)(q:R (kE lo (hi-lo).toNat) H):l_ (n_ X.prog X.w) X.A (abO (.ref s.heap.objs.size)) (LI X pins U tg R) E {s with heap:=s.heap.push {cls:=.type "range",data:=.fields #[.int lo t,.int hi u,.int 1 v]},toks:=tk}:=by
 refine wpAny_pyIter_range (IsRange.new ..) (small_one h1 h2 h3 h4) ?_;have I1:Inv X pins U H {s with heap:=s.heap.push {cls:=.type "range",data:=.fields #[.int lo t,.int hi u,.int 1 v]},toks:=tk}:=I.kept λb o e=>f_ _ e;refine(xa3 ((s.heap.push {cls:=.type "range",data:=.fields #[.int lo t,.int hi u,.int 1 v]}).objs.size) [(s.heap.push {cls:=.type "range",data:=.fields #[.int lo t,.int hi u,.int 1 v]}).objs.size] _ _ H ⟨a_,I1.kept (t':=tk) λb o e=>f_ _ e,TF _ lo (hi-lo).toNat,?_,λb hb=>?_,q⟩)
 .have e1:lo+((0:i_):f?)*1=lo:=by simp
  have e2:(((hi-lo).toNat:i_):f?)-((0:i_):f?)=Ü.Range.rangeSize lo hi 1:=by rw[rangeSize_one];split<;>lia
  show IsRangeIter _ _ (lo+((0:i_):f?)*1) ((((hi-lo).toNat:i_):f?)-((0:i_):f?)) 1;rw[e1,e2];exact v? _ a_
 .have e:b=(s.heap.push {cls:=.type "range",data:=.fields #[.int lo t,.int hi u,.int 1 v]}).objs.size:=by simpa using hb
  subst e;exact I1.oS (r_ _) (I1.ag.fresh (r_ _))
noncomputable def TK (ta:TA):TI:=λ U H R=>ta U H λvs H1=>∃j:f?,vs=[.int j]/\-(2^62)<=j/\j<2^62/\R (kE 0 j.toNat) H1
theorem rF {a:G?}{ta:TA}{p pos:ğ}(hg:Gl X "range")(hm:X.mg "range"=none)(ha:PA X [a] ta)(hs:e_ (x? [a] X.env=[(false,U? a X.env)]) aP1):PI X tg (.Call (.Name "range" p) [a] [] pos) (TK ta):=by
 intro pins s U H R I h;refine Call_ (tm I hg hm boot_range (ę (ah (ha pos pins s U H _ I h) λus s1 zQ=>?_) hs a_));obtain⟨vs,H1,I1,r1,q1⟩:=zQ;obtain⟨j,e,q1,q2,q⟩:=q1;subst e;cases r1 with
 |cons r rr=>cases rr;obtain⟨t,rfl⟩:=r;exact call_range_1 (TJ I1 (by lia) (by lia) q1 q2 (by simpa using q))
noncomputable def TL (wi:TI)(g:TG)(tb:TS):TS:=λD U H=>wi U H λJ H1=>∃W:i_->i_->St->Hp->Prop,(∃m,W 0 m U H1)/\∀i m U H,W i m U H->(J.stop i H/\D.nx U H)\/(J.go i H/\∃N:St->Hp->Prop,(∀U' H',N U' H'->∃m',m'<m/\W (i+1) m' U' H')/\∀x H',J.dJ i H x H'->g x U H' λ U2 H2=>tb {D with nx:=N,ct:=N,bk:=D.nx} U2 H2)
noncomputable def lP (fp:b? c_)(h:k?):b? (c_×L?):=fp.filterMap λb=>(h.get? b).map λo=>(b,o)
theorem zR {fp:b? c_}{h:k?}{b:c_}{o:L?}(hb:b∈fp)(e:h.get? b=some o):(b,o)∈lP fp h:=aaF.mpr ⟨b,hb,by rw[e];rfl⟩
theorem LL {fp:b? c_}{h:k?}{p:c_×L?}(hp:p∈lP fp h):p.1∈fp/\h.get? p.1=some p.2:=by
 obtain⟨b,hb,e⟩:=aaF.mp hp;cases q:h.get? b with
 |none=>rw[q]at e;cases e
 |some o=>rw[q]at e;have e':(b,o)=p:=s_ e;subst e';exact⟨hb,q⟩
theorem Inv.pinned {pins:b? (c_×L?)}{U:St}{H:Hp}{s:d?}{fp:b? c_}(I:Inv X pins U H s)(hf:∀b∈fp,dM X pins H b)(ho:∀b∈fp,∃o,s.heap.get? b=some o/\∀v,o.data≠.cell v):Inv X (pins++lP fp s.heap) U H s:=I.zI λp hp=>(v_.mp hp).elim (λz=>I.pin p (z_ _ z)) λz=>by obtain⟨hb,e⟩:=LL z;obtain⟨f0,f1,f2,_⟩:=hf p.1 hb;obtain⟨o,e',d⟩:=ho p.1 hb;rw[e]at e';cases e';exact⟨e,f0,f1,f2,d⟩
theorem Inv.tI {pins pl:b? (c_×L?)}{U:St}{H:Hp}{s:d?}(I:Inv X (pins++pl) U H s):Inv X pins U H s:=I.zI λp hp=>I.pin p (z_ _ (I_ _ hp))
theorem iR {iter:G?}{body:b? K?}{wi:TI}{g:TG}{tb:TS}{pos:ğ}(hp:Ç (n_ X.prog X.w) X.A X.env X.xe)(hc:X.calm=true)(hi:PI X tg iter wi)(hg:PG X tg g)(hb:cU X body tb)(hs:e_ (∀x,Ŕ iter X.env x=ó x) aP3):PS X (.For tg iter body [] pos) (TL wi g tb):=by
 intro pins s U H D I h;refine wpAny_For (ah (hi pins s U H _ I h) λv s1 h1=>ah h1 λtG s2 h2=>?_) hs;obtain⟨it,fp,tn,J,H2,e,I2,T,TM,f2,W,⟨m0,w0⟩,turn⟩:=h2;subst e;have oT:∀{H':Hp},(∀b∈fp,H' b=none)->∀b∈fp,dM X pins H' b:=λhn b hb=>⟨hn b hb,(f2 b hb).2⟩;refine codeAny_forLoop_any (λn s'=>∃i U' H',Inv X pins U' H' s'/\tn i s'.heap/\(∀b∈fp,H' b=none)/\W i n U' H') ?_ m0 (xa1 0 U H2 ⟨I2,TM,λb hb=>(f2 b hb).1,w0⟩)
 rintro n s3 ⟨i,iQ,H3,I3,LM,LN,w3⟩
 rcases turn i n iQ H3 w3 with⟨stop,qn⟩|⟨go,N,hN,step⟩
 .refine ô hp (ah (T.done X a_ a_ a_ hc i pins s3 iQ H3 X.xe I3 (oT LN) LM stop) λr s4 ⟨hr,I4⟩=>?_);subst hr;exact Ĺ (xa0 iQ H3 ⟨I4,qn⟩)
 .refine ô hp (ah (T.item X a_ a_ a_ hc i pins s3 iQ H3 X.xe I3 (oT LN) LM go) λr s4 zQ=>?_);obtain⟨u,hr,h4⟩:=zQ;subst hr;refine ô hp (ah h4 λ_ s5 zQ=>?_);obtain⟨x,H5,I5,r5,y5,gT,tJ⟩:=zQ;have tK:=I5.pinned (oT tJ) (T.obj _ _ gT);refine ô hp (ah (hg _ s5 iQ H5 x u _ tK r5 (step x H5 y5)) λ_ s6 zQ=>?_);obtain⟨U6,H6,I6,q6⟩:=zQ;refine ô hp (ah (hb _ s6 U6 H6 _ I6 q6) λf s7 q7=>?_);have again:∀{U7:St}{H7:Hp},Inv X (pins++lP fp s5.heap) U7 H7 s7->N U7 H7->∃m,m<n/\∃i U' H',Inv X pins U' H' s7/\tn i s7.heap/\(∀b∈fp,H' b=none)/\W i m U' H':=λ{U7 H7} I7 n7=>by
   obtain⟨m',hm,w7⟩:=hN U7 H7 n7;refine⟨m',hm,xa1 (i+1) U7 H7 ⟨I7.tI,T.keep _ _ _ gT λb hb o e=>(I7.pin (b,o) (z_ _ (z_ _ (zR hb e)))).1,λb hb=>?_,w7⟩⟩;obtain⟨o,e,d⟩:=T.obj _ _ gT b hb;exact(I7.pin (b,o) (z_ _ (z_ _ (zR hb e)))).2.1
  cases f with
  |next=>obtain⟨U7,H7,I7,n7⟩:=q7;exact again I7 n7
  |cont=>obtain⟨U7,H7,I7,n7⟩:=q7;exact again I7 n7
  |brk=>obtain⟨U7,H7,I7,q7⟩:=q7;exact(xa0 U7 H7 ⟨I7.tI,q7⟩)
  |ret v=>obtain⟨x7,U7,H7,I7,r7,q7⟩:=q7;exact(xa1 x7 U7 H7 ⟨I7.tI,r7,q7⟩)
end
theorem oU {K:e?}{a:c_}{xs:b? V}{g:TG}{tb:TS}{D:Ends}{U:St}{H:Hp}(Pv:i_->St->Hp->Prop)(h0:Pv 0 U H)(hl:∀i U H,i<=xs.length->Pv i U H->af K H a xs)(hs:∀i x U H,xs[i]?=some x->Pv i U H->g x U H λ U2 H2=>tb {D with nx:=Pv (i+1),ct:=Pv (i+1),bk:=D.nx} U2 H2)(hd:∀U H,Pv xs.length U H->D.nx U H):∃W:i_->i_->St->Hp->Prop,(∃m,W 0 m U H)/\∀i m U H,W i m U H->((lO K a).stop i H/\D.nx U H)\/((lO K a).go i H/\∃N:St->Hp->Prop,(∀U' H',N U' H'->∃m',m'<m/\W (i+1) m' U' H')/\∀x H',(lO K a).dJ i H x H'->g x U H' λ U2 H2=>tb {D with nx:=N,ct:=N,bk:=D.nx} U2 H2):=by
 refine⟨λi m U H=>m=xs.length-i/\i<=xs.length/\Pv i U H,⟨xs.length,by simp,T? _,h0⟩,?_⟩
 rintro i m U H ⟨rfl,hi,p⟩
 have q:=hl i U H hi p;by_cases aw:i<xs.length
 .refine .inr ⟨(xa0 xs (xs[i]) ⟨q,by simp[aw]⟩),Pv (i+1),λ U' H' p'=>⟨xs.length-(i+1),by lia,a_,aw,p'⟩,λx H' y=>?_⟩;obtain⟨e,y⟩:=y;subst e;exact hs i x U _ (y xs q) p
 .have e:i=xs.length:=by lia
  subst e;exact .inl ⟨⟨xs,q,r_ _⟩,hd U H p⟩
theorem TN {K:e?}{a:c_}{xs:b? V}{g:TG}{tb:TS}{D:Ends}{U:St}{H:Hp}(Pv:i_->St->Hp->Prop)(h0:Pv 0 U H)(hl:∀i U H,i<=xs.length->Pv i U H->az K H a xs)(hs:∀i x U H,xs[i]?=some x->Pv i U H->g x U H λ U2 H2=>tb {D with nx:=Pv (i+1),ct:=Pv (i+1),bk:=D.nx} U2 H2)(hd:∀U H,Pv xs.length U H->D.nx U H):∃W:i_->i_->St->Hp->Prop,(∃m,W 0 m U H)/\∀i m U H,W i m U H->((tH K a).stop i H/\D.nx U H)\/((tH K a).go i H/\∃N:St->Hp->Prop,(∀U' H',N U' H'->∃m',m'<m/\W (i+1) m' U' H')/\∀x H',(tH K a).dJ i H x H'->g x U H' λ U2 H2=>tb {D with nx:=N,ct:=N,bk:=D.nx} U2 H2):=by
 refine⟨λi m U H=>m=xs.length-i/\i<=xs.length/\Pv i U H,⟨xs.length,by simp,T? _,h0⟩,?_⟩
 rintro i m U H ⟨rfl,hi,p⟩
 have q:=hl i U H hi p;by_cases aw:i<xs.length
 .refine .inr ⟨(xa0 xs (xs[i]) ⟨q,by simp[aw]⟩),Pv (i+1),λ U' H' p'=>⟨xs.length-(i+1),by lia,a_,aw,p'⟩,λx H' y=>?_⟩;obtain⟨e,y⟩:=y;subst e;exact hs i x U _ (y xs q) p
 .have e:i=xs.length:=by lia
  subst e;exact .inl ⟨⟨xs,q,r_ _⟩,hd U H p⟩
theorem Dm {lo:f?}{n:i_}{g:TG}{tb:TS}{D:Ends}{U:St}{H:Hp}(Pv:i_->St->Hp->Prop)(h0:Pv 0 U H)(hs:∀i U H,i<n->Pv i U H->g (.int (lo+i)) U H λ U2 H2=>tb {D with nx:=Pv (i+1),ct:=Pv (i+1),bk:=D.nx} U2 H2)(hd:∀U H,Pv n U H->D.nx U H):∃W:i_->i_->St->Hp->Prop,(∃m,W 0 m U H)/\∀i m U H,W i m U H->((kE lo n).stop i H/\D.nx U H)\/((kE lo n).go i H/\∃N:St->Hp->Prop,(∀U' H',N U' H'->∃m',m'<m/\W (i+1) m' U' H')/\∀x H',(kE lo n).dJ i H x H'->g x U H' λ U2 H2=>tb {D with nx:=N,ct:=N,bk:=D.nx} U2 H2):=by
 refine⟨λi m U H=>m=n-i/\i<=n/\Pv i U H,⟨n,by simp,T? _,h0⟩,?_⟩
 rintro i m U H ⟨rfl,hi,p⟩
 by_cases aw:i<n
 .refine .inr ⟨aw,Pv (i+1),λ U' H' p'=>⟨n-(i+1),by lia,a_,aw,p'⟩,λx H' y=>?_⟩;obtain⟨e,y⟩:=y;subst e y;exact hs i U _ aw p
 .have e:i=n:=by lia
  subst e;exact .inl ⟨r_ _,hd U H p⟩
theorem TO {c:TT}{tb:TS}{D:Ends}{U:St}{H:Hp}(Pv:St->Hp->Prop)(μ:St->Hp->i_)(h0:Pv U H)(hs:∀U H,Pv U H->c U H λb H1=>if b=true then tb {D with nx:=λ U' H'=>Pv U' H'/\μ U' H'<μ U H,ct:=λ U' H'=>Pv U' H'/\μ U' H'<μ U H,bk:=D.nx} U H1 else D.nx U H1)(mono:∀U H Q Q',(∀b H1,Q b H1->Q' b H1)->c U H Q->c U H Q'):LG c tb D U H:=by
 refine⟨λm U H=>m=μ U H/\Pv U H,⟨_,a_,h0⟩,?_⟩
 rintro m U H ⟨rfl,p⟩
 refine mono U H _ _ (λb H1 q=>?_) (hs U H p);cases b with
 |true=>exact⟨_,λ U' H' ⟨p',l⟩=>⟨_,l,a_,p'⟩,q⟩
 |false=>exact q
noncomputable abbrev R2:=V->V->Hp->VK->Prop
noncomputable def bz (X:Cx)(f:b_->b_->Ī b_)(r:R2):Prop:=∀(pins:b? (c_×L?))(s:d?)(U:St)(H:Hp)(x y:V)(v u:b_)(Q:VK),Inv X pins U H s->RelV x v->RelV y u->r x y H Q->l_ (n_ X.prog X.w) X.A (f v u) (EP X pins U Q) X.xe s
noncomputable def Dn (X:Cx)(f:b_->Ī b_)(r:V->Hp->VK->Prop):Prop:=∀(pins:b? (c_×L?))(s:d?)(U:St)(H:Hp)(x:V)(v:b_)(Q:VK),Inv X pins U H s->RelV x v->r x H Q->l_ (n_ X.prog X.w) X.A (f v) (EP X pins U Q) X.xe s
noncomputable def ef (X:Cx)(f:b_)(r:b? V->Hp->VK->Prop):Prop:=∀(pins:b? (c_×L?))(s:d?)(U:St)(H:Hp)(xs:b? V)(us:b? b_)(Q:VK),Inv X pins U H s->Vals xs us->r xs H Q->l_ (n_ X.prog X.w) X.A (ħ f us) (EP X pins U Q) X.xe s
noncomputable def TQ (X:Cx)(r:V->Hp->(o?->Hp->Prop)->Prop):Prop:=∀(pins:b? (c_×L?))(s:d?)(U:St)(H:Hp)(x:V)(v:b_)(Q:o?->Hp->Prop),Inv X pins U H s->RelV x v->r x H Q->l_ (n_ X.prog X.w) X.A (truthy v) (TP X pins U Q) X.xe s
noncomputable def zS (r:R2)(ta tb:TE):TE:=λ U H Q=>ta U H λx H1=>tb U H1 λy H2=>r x y H2 Q
noncomputable def TR (r:V->Hp->VK->Prop)(ta:TE):TE:=λ U H Q=>ta U H λx H1=>r x H1 Q
noncomputable def rI (C:f?->f?->Prop)(g:f?->f?->V):R2:=λx y H Q=>∃i j,x= .int i/\y= .int j/\C i j/\Q (g i j) H
noncomputable def mW (g:f?->f?->V):R2:=λx y H Q=>∃i j,x= .int i/\y= .int j/\Q (g i j) H
noncomputable def rU (g:f?->V):V->Hp->VK->Prop:=λx H Q=>∃i,x= .int i/\Q (g i) H
section
variable {X:Cx}{a b c:G?}{ta tb tc:TE}{pos:ğ}
theorem Dp (ha:PE X a ta)(hb:PE X b tb){pins:b? (c_×L?)}{s:d?}{U:St}{H:Hp}{R:V->V->Hp->Prop}(I:Inv X pins U H s)(h:ta U H λx H1=>tb U H1 λy H2=>R x y H2){Q:b_->d?->Prop}{f:b_->b_->Ī b_}(hf:∀v u s2 x y H2,Inv X pins U H2 s2->RelV x v->RelV y u->R x y H2->l_ (n_ X.prog X.w) X.A (f v u) Q X.xe s2):
  l_ (n_ X.prog X.w) X.A (U? a X.env) (λv ai=>l_ (n_ X.prog X.w) X.A (U? b X.env) (λu aa=>l_ (n_ X.prog X.w) X.A (f v u) Q X.xe aa) X.xe ai) X.xe s:=by
 refine ah (ha pins s U H _ I h) λv s1 zQ=>?_;obtain⟨x,H1,I1,r1,q1⟩:=zQ;refine ah (hb pins s1 U H1 _ I1 q1) λu s2 zQ=>?_;obtain⟨y,H2,I2,r2,q2⟩:=zQ;exact hf v u s2 x y H2 I2 r1 r2 q2
theorem xx {op:aff}{r:R2}(ho:bz X (ŉ op) r)(ha:PE X a ta)(hb:PE X b tb):PE X (.BinOp a op b pos) (zS r ta tb):=by intro pins s U H Q I h;exact wpAny_BinOp (Dp ha hb I h λv u s2 x y H2 I2 rx ry q=>ho pins s2 U H2 x y v u Q I2 rx ry q)
theorem TU {op:UnaryOp}{r:V->Hp->VK->Prop}(ho:Dn X (unaryOp op) r)(ha:PE X a ta):PE X (.UnaryOp op a pos) (TR r ta):=by intro pins s U H Q I h;exact afj (ah (ha pins s U H _ I h) λv s1 ⟨x,H1,I1,r1,q1⟩=>ho pins s1 U H1 x v Q I1 r1 q1)
theorem zT {f:b_->b_->Ī b_}{C:f?->f?->Prop}{g:f?->f?->f?}(rule:∀(i j:f?)(t u:Tok)(s:d?)(Q:b_->d?->Prop)(E:b_->d?->Prop),C i j->Q (.int (g i j) s.toks) {s with toks:=s.toks+1}->l_ (n_ X.prog X.w) X.A (f (.int i t) (.int j u)) Q E s):
  bz X f (rI C λi j=>.int (g i j)):=by
 intro pins s U H x y v u Q I rx ry h;obtain⟨i,j,rfl,rfl,hc,q⟩:=h;obtain⟨t,rfl⟩:=rx;obtain⟨t',rfl⟩:=ry;exact rule i j t t' s _ _ hc (xa0 (.int (g i j)) H ⟨I.tok _,⟨_,a_⟩,q⟩)
theorem LO {f:b_->b_->Ī b_}{g:f?->f?->f?}(rule:∀(i j:f?)(t u:Tok)(s:d?)(Q:b_->d?->Prop)(E:b_->d?->Prop),Q (.int (g i j) s.toks) {s with toks:=s.toks+1}->l_ (n_ X.prog X.w) X.A (f (.int i t) (.int j u)) Q E s):
  bz X f (mW λi j=>.int (g i j)):=by
 intro pins s U H x y v u Q I rx ry h;obtain⟨i,j,rfl,rfl,q⟩:=h;obtain⟨t,rfl⟩:=rx;obtain⟨t',rfl⟩:=ry;exact rule i j t t' s _ _ (xa0 (.int (g i j)) H ⟨I.tok _,⟨_,a_⟩,q⟩)
theorem zU {f:b_->b_->Ī b_}{g:f?->f?->o?}(rule:∀(i j:f?)(t u:Tok)(s:d?)(Q:b_->d?->Prop)(E:b_->d?->Prop),Q (.bool (g i j)) s->l_ (n_ X.prog X.w) X.A (f (.int i t) (.int j u)) Q E s):
  bz X f (mW λi j=>.bl (g i j)):=by
 intro pins s U H x y v u Q I rx ry h;obtain⟨i,j,rfl,rfl,q⟩:=h;obtain⟨t,rfl⟩:=rx;obtain⟨t',rfl⟩:=ry;exact rule i j t t' s _ _ (xa0 (.bl (g i j)) H ⟨I,a_,q⟩)
noncomputable def TV (i j:f?):Prop:=0<j/\j<1073741824
noncomputable def TX (i j:f?):Prop:=0<=j/\j<=1000000/\i.natAbs<2^64
noncomputable def Dq (i j:f?):Prop:=(-(2^64)<i/\i<2^64)\/(-(2^64)<j/\j<2^64)
theorem Dq.ok {i j:f?}(h:Dq i j):IntMulOk i j:=by
 rcases h with⟨h1,h2⟩|⟨h1,h2⟩
 .exact .of_left (afq h1 h2)
 .exact .of_right (afq h1 h2)
theorem gU:bz X (ŉ .Add) (mW λi j=>.int (i+j)):=LO λ_ _ _ _ _ _ _ q=>add_int q
theorem kF:bz X (ŉ .Sub) (mW λi j=>.int (i-j)):=LO λ_ _ _ _ _ _ _ q=>sub_int q
theorem zV:bz X (ŉ .Mult) (rI Dq λi j=>.int (i*j)):=zT λ_ _ _ _ _ _ _ hc q=>mul_int q hc.ok
theorem Dr:bz X (ŉ .FloorDiv) (rI TV λi j=>.int (i / j)):=zT λi j _ _ _ _ _ hc q=>by have h1:(0:f?)<j:=hc.1;have h2:j<1073741824:=hc.2;exact floordiv_int (by lia) (by rw[f?.fdiv_eq_ediv_of_nonneg i (by lia)];exact q) (.inl (PyProof.noPylong_small (by lia)))
theorem lQ:bz X (ŉ .Mod) (rI (λ_ j=>0<j) λi j=>.int (i%j)):=zT λi j _ _ _ _ _ hc q=>by have h1:(0:f?)<j:=hc;exact mod_int' (by lia) (by rw[f?.fmod_eq_emod_of_nonneg i (by lia)];exact q)
theorem TY:bz X (ŉ .Pow) (rI TX λi j=>.int (i^j.toNat)):=zT λ_ _ _ _ _ _ _ hc q=>pow_int_small hc.1 hc.2.1 hc.2.2 q
theorem iS {f:b_->Ī b_}{g:f?->f?}(rule:∀(i:f?)(t:Tok)(s:d?)(Q:b_->d?->Prop)(E:b_->d?->Prop),Q (.int (g i) s.toks) {s with toks:=s.toks+1}->l_ (n_ X.prog X.w) X.A (f (.int i t)) Q E s):
  Dn X f (rU λi=>.int (g i)):=by
 intro pins s U H x v Q I rx h;obtain⟨i,rfl,q⟩:=h;obtain⟨t,rfl⟩:=rx;exact rule i t s _ _ (xa0 (.int (g i)) H ⟨I.tok _,⟨_,a_⟩,q⟩)
theorem TZ:Dn X (unaryOp .USub) (rU λi=>.int (-i)):=iS λ_ _ _ _ _ q=>neg_int q
end
noncomputable def LP:V->V->o?
 | .aj,.aj=>true| .aj,.int _=>true| .int _,.aj=>true| .aj,.bl _=>true| .bl _,.aj=>true| .aj,.str _=>true| .str _,.aj=>true
 | .int _,.int _=>true| .bl _,.bl _=>true| .str _,.str _=>true| .fF _,.fF _=>true
 | .int _,.str _=>true| .str _,.int _=>true| .bl _,.str _=>true| .str _,.bl _=>true
 |_,_=>false
noncomputable def T1:R2:=λx y H Q=>LP x y=true/\Q (.bl (s? (x=y))) H
noncomputable def T3:R2:=λx y H Q=>LP x y=true/\Q (.bl (!s? (x=y))) H
theorem LQ {i j:f?}:s? (V.int i=V.int j)=(i==j):=by rw[ċ];simp
theorem LR {i j:o?}:s? (V.bl i=V.bl j)=(i==j):=by rw[ċ];simp
theorem LS {i j:y?}:s? (V.str i=V.str j)=(i==j):=by rw[ċ];simp
theorem LU {i j:E? UInt8}:s? (V.fF i=V.fF j)=(i.toList==j.toList):=by rw[ċ];cases i;cases j;simp
section
variable {X:Cx}{a b c:G?}{ta tb tc:TE}{pos:ğ}
theorem xg {pins:b? (c_×L?)}{U:St}{H:Hp}{s:d?}{Q:VK}{k k':o?}(I:Inv X pins U H s)(q:Q (.bl k) H)(e:k=k'):EP X pins U Q (.bool k') s:=by subst e;exact(xa0 (.bl k) H ⟨I,a_,q⟩)
theorem fH:bz X (Q_ .Eq) T1:=by
 intro pins s U H x y v u Q I rx ry h;obtain⟨hs,q⟩:=h;cases x with
 |aj=>
  cases rx;cases y with
  |aj=>cases ry;exact aeJ (xg I q (by simp))
  |bl j=>cases ry;exact aeL (xg I q (by simp))
  |int j=>obtain⟨t',rfl⟩:=ry;exact aeK (xg I q (by simp))
  |str j=>obtain⟨t',rfl⟩:=ry;exact aeI (xg I q (by simp))
  |_=>exact w_ (show false=true from hs) t?
 |bl i=>
  cases rx;cases y with
  |aj=>cases ry;exact aeN (xg I q (by simp))
  |bl j=>cases ry;exact eq_bool (xg I q LR)
  |str j=>obtain⟨t',rfl⟩:=ry;exact ael (xg I q (by simp))
  |_=>exact w_ (show false=true from hs) t?
 |int i=>
  obtain⟨t,rfl⟩:=rx;cases y with
  |aj=>cases ry;exact aeM (xg I q (by simp))
  |int j=>obtain⟨t',rfl⟩:=ry;exact eq_int (xg I q LQ)
  |str j=>obtain⟨t',rfl⟩:=ry;exact aek (xg I q (by simp))
  |_=>exact w_ (show false=true from hs) t?
 |str i=>
  obtain⟨t,rfl⟩:=rx;cases y with
  |aj=>cases ry;exact aeH (xg I q (by simp))
  |bl j=>cases ry;exact aej (xg I q (by simp))
  |int j=>obtain⟨t',rfl⟩:=ry;exact aei (xg I q (by simp))
  |str j=>obtain⟨t',rfl⟩:=ry;exact eq_str (xg I q LS)
  |_=>exact w_ (show false=true from hs) t?
 |fF i=>
  obtain⟨t,rfl⟩:=rx;cases y with
  |fF j=>obtain⟨t',rfl⟩:=ry;exact PySem.W.eq_bytes (xg I q LU)
  |_=>exact w_ (show false=true from hs) t?
 |_=>cases y<;>exact w_ (show false=true from hs) t?
theorem Du:bz X (Q_ .NotEq) T3:=by
 intro pins s U H x y v u Q I rx ry h;obtain⟨hs,q⟩:=h;cases x with
 |aj=>
  cases rx;cases y with
  |aj=>cases ry;exact aeC (xg I q (by simp))
  |bl j=>cases ry;exact aeE (xg I q (by simp))
  |int j=>obtain⟨t',rfl⟩:=ry;exact aeD (xg I q (by simp))
  |str j=>obtain⟨t',rfl⟩:=ry;exact aeB (xg I q (by simp))
  |_=>exact w_ (show false=true from hs) t?
 |bl i=>
  cases rx;cases y with
  |aj=>cases ry;exact aeG (xg I q (by simp))
  |bl j=>cases ry;exact ne_bool (xg I q (X? not LR))
  |str j=>obtain⟨t',rfl⟩:=ry;exact aeh (xg I q (by simp))
  |_=>exact w_ (show false=true from hs) t?
 |int i=>
  obtain⟨t,rfl⟩:=rx;cases y with
  |aj=>cases ry;exact aeF (xg I q (by simp))
  |int j=>obtain⟨t',rfl⟩:=ry;exact ne_int (xg I q (X? not LQ))
  |str j=>obtain⟨t',rfl⟩:=ry;exact aeg (xg I q (by simp))
  |_=>exact w_ (show false=true from hs) t?
 |str i=>
  obtain⟨t,rfl⟩:=rx;cases y with
  |aj=>cases ry;exact aeA (xg I q (by simp))
  |bl j=>cases ry;exact aef (xg I q (by simp))
  |int j=>obtain⟨t',rfl⟩:=ry;exact aee (xg I q (by simp))
  |str j=>obtain⟨t',rfl⟩:=ry;exact ne_str (xg I q (X? not LS))
  |_=>exact w_ (show false=true from hs) t?
 |fF i=>
  obtain⟨t,rfl⟩:=rx;cases y with
  |fF j=>obtain⟨t',rfl⟩:=ry;exact PySem.W.ne_bytes (xg I q (X? not LU))
  |_=>exact w_ (show false=true from hs) t?
 |_=>cases y<;>exact w_ (show false=true from hs) t?
theorem rG:bz X (Q_ .Lt) (mW λi j=>.bl (s? (i<j))):=zU λ_ _ _ _ _ _ _ q=>aaz q
theorem tL:bz X (Q_ .LtE) (mW λi j=>.bl (s? (i<=j))):=zU λ_ _ _ _ _ _ _ q=>le_int q
theorem tM:bz X (Q_ .Gt) (mW λi j=>.bl (s? (j<i))):=zU λ_ _ _ _ _ _ _ q=>gt_int q
theorem LW:bz X (Q_ .GtE) (mW λi j=>.bl (s? (j<=i))):=zU λ_ _ _ _ _ _ _ q=>ge_int q
theorem zW:bz X (Q_ .Is) (λx y H Q=>y= .aj/\Q (.bl (s? (x= .aj))) H):=by
 intro pins s U H x y v u Q I rx ry h;obtain⟨rfl,q⟩:=h;cases ry;refine is_none_gen (xg I q ?_);cases x<;>first
  |(cases rx;rfl)
  |(obtain⟨t,rfl⟩:=rx;rfl)
theorem LX:bz X (Q_ .IsNot) (λx y H Q=>y= .aj/\Q (.bl (!s? (x= .aj))) H):=by
 intro pins s U H x y v u Q I rx ry h;obtain⟨rfl,q⟩:=h;cases ry;refine isnot_none_gen (xg I q ?_);cases x<;>first
  |(cases rx;rfl)
  |(obtain⟨t,rfl⟩:=rx;rfl)
theorem qe (b:G?){op:adZ}(h:e_ (op≠.In) aP2)(h2:e_ (op≠.NotIn) aP2):aaB op b=false:=by
 have e:(op==adZ.In||op==adZ.NotIn)=false:=by cases op<;>first|rfl|exact w_ a_ h|exact w_ a_ h2
 cases b<;>first|rfl|(show(_&&_&&_)=false;rw[e,Ŧ];rfl)
theorem gW {op:adZ}{r:R2}(ho:bz X (Q_ op) r)(ha:PE X a ta)(hb:PE X b tb)(hm:aaB op b=false):PE X (.Compare a [op] [b] pos) (zS r ta tb):=by intro pins s U H Q I h;exact wpAny_Compare1 (Dp ha hb I h λv u s2 x y H2 I2 rx ry q=>ho pins s2 U H2 x y v u Q I2 rx ry q) hm
noncomputable def T4 (t:TE):TT:=λ U H Q=>t U H λx H'=>∃k,x= .bl k/\Q k H'
theorem jz {op:adZ}{r:R2}(ho:bz X (Q_ op) r)(ha:PE X a ta)(hb:PE X b tb)(hm:aaB op b=false):PT X (.Compare a [op] [b] pos) (T4 (zS r ta tb)):=by
 intro pins s U H Q I h;refine acQ (ah (ha pins s U H _ I h) λv s1 ⟨x,H1,I1,r1,q1⟩=>ah (hb pins s1 U H1 _ I1 q1) λu s2 ⟨y,H2,I2,r2,q2⟩=>ah (ho pins s2 U H2 x y v u _ I2 r1 r2 q2) λc s3 zQ=>?_) hm;obtain⟨z,H3,I3,r3,k,e,q3⟩:=zQ;subst e;cases r3;exact X_ ⟨H3,I3,q3⟩
noncomputable def T5 (r r':R2)(ta tb tc:TE):TE:=λ U H Q=>ta U H λx H1=>tb U H1 λy H2=>r x y H2 λz H3=>∃k,z= .bl k/\(if k=true then tc U H3 λw' H4=>r' y w' H4 Q else Q (.bl false) H3)
theorem T6 {op Dv:adZ}{r r':R2}(ho:bz X (Q_ op) r)(aV:bz X (Q_ Dv) r')(ha:PE X a ta)(hb:PE X b tb)(hc:PE X c tc)(hm:lastMarks [op,Dv] [b,c]=false:=by with_unfolding_all rfl):PE X (.Compare a [op,Dv] [b,c] pos) (T5 r r' ta tb tc):=by
 intro pins s U H Q I h;refine Compare_chain (ah (ha pins s U H _ I h) λv s1 ⟨x,H1,I1,r1,q1⟩=>chain_link (ah (hb pins s1 U H1 _ I1 q1) λu s2 ⟨y,H2,I2,r2,q2⟩=>ah (ho pins s2 U H2 x y v u _ I2 r1 r2 q2) λd s3 zQ=>?_)) hm;obtain⟨z,H3,I3,r3,k,e,q3⟩:=zQ;subst e;cases r3;refine X_ ?_;cases k with
 |false=>exact ite_ff (xa0 (.bl false) H3 ⟨I3,a_,q3⟩)
 |true=>exact ite_tt (chain_last (ah (hc pins s3 U H3 _ I3 q3) λw' s4 ⟨z',H4,I4,r4,q4⟩=>aV pins s4 U H4 y z' u w' Q I4 r2 r4 q4))
noncomputable def Dw (K:e?)(x:V)(H:Hp)(k:o?):Prop:=match x with
 | .aj=>k=false
 | .bl b=>k=b
 | .int i=>k=(i != 0)
 | .str y=>y.length<=k_/\k=((y.length:f?) != 0)
 | .fF y=>y.size<=k_/\k=((y.size:f?) != 0)
 | .ref p=>(∃xs,af K H p xs/\k=!xs.isEmpty)\/(∃xs,az K H p xs/\k=!xs.isEmpty)\/∃kvs,H p=some (.dK kvs)/\k=!kvs.isEmpty
 |_=>w?
theorem T7 {B:Type}{kvs:b? (B×V)}{vs:b? (B×b_)}(r:KV kvs vs):(!vs.isEmpty)=!kvs.isEmpty:=by cases r<;>rfl
theorem LY {xs:b? V}{its:b? b_}(r:Vals xs its):(!its.toArray.isEmpty)=!xs.isEmpty:=by cases r<;>simp
theorem lR:(k_:i_)<2^63:=by rw[Ĳ];decide
theorem LZ:TQ X (λx H Q=>∃k,Dw X.K x H k/\Q k H):=by
 intro pins s U H x v Q I rx h;obtain⟨k,e,q⟩:=h;have hl:=lR;have hs:k_=16777216:=Ĳ;cases x with
 |aj=>cases rx;have e':k=false:=e;subst e';exact truthy_none ⟨H,I,q⟩
 |bl b=>cases rx;have e':k=b:=e;subst e';exact X_ ⟨H,I,q⟩
 |int i=>obtain⟨t,rfl⟩:=rx;have e':k=(i != 0):=e;subst e';exact PySem.P.truthy_int ⟨H,I,q⟩
 |str y=>obtain⟨t,rfl⟩:=rx;obtain⟨hy,e'⟩:y.length<=k_/\k=((y.length:f?) != 0):=e;subst e';exact PySem.P.truthy_str (by lia) ⟨H,I.tok _,q⟩
 |fF y=>obtain⟨t,rfl⟩:=rx;obtain⟨hy,e'⟩:y.size<=k_/\k=((y.size:f?) != 0):=e;subst e';exact PySem.W.truthy_bytes (by lia) ⟨H,I.tok _,q⟩
 |ref p=>
  cases rx;have e':(∃xs,af X.K H p xs/\k=!xs.isEmpty)\/(∃xs,az X.K H p xs/\k=!xs.isEmpty)\/∃kvs,H p=some (.dK kvs)/\k=!kvs.isEmpty:=e;rcases e' with⟨xs,hx,e'⟩|⟨xs,hx,e'⟩|⟨kvs,hx,e'⟩
  .subst e';obtain⟨its,r,pl,hz⟩:=I.list hx;have hlen:=r.length;exact wpAny_truthy_list pl.isList (by simp only[G'];lia) ⟨H,I.tok _,by rw[LY r];exact q⟩
  .subst e';obtain⟨its,r,pl,hz⟩:=I.tuple hx;have hlen:=r.length;exact truthy_tuple pl (by simp only[G'];lia) ⟨H,I.tok _,by rw[LY r];exact q⟩
  .subst e';obtain⟨hz,hS,vs,r,m⟩:kvs.length<=k_/\(p==Yd)=false/\∃vs,KV kvs vs/\s.heap.DictOf (qy X.prog X.w) p vs:=I.ag p _ hx;have hlen:kvs.length=vs.length:=q? r;exact wpAny_truthy_dict hS m (by lia) ⟨H,I.tok _,by rw[T7 r];exact q⟩
 |_=>exact(show w? from e).elim
theorem L0 (ha:PE X a ta)(he:∀whole,abP a X.env whole=(do let v<-whole;Ŵ a.pos;ģ [v] (truthy v))):PT X a (λ U H Q=>ta U H λx H'=>∃k,Dw X.K x H' k/\Q k H'):=by
 intro pins s U H Q I h;exact isTrue_plain (ah (ha pins s U H _ I h) λv s1 ⟨x,H1,I1,r1,q1⟩=>LZ pins s1 U H1 x v Q I1 r1 q1) (he _)
theorem vals1 {x:V}{us:b? b_}(r:Vals [x] us):∃u,us=[u]/\RelV x u:=by
 cases r with
 |cons r1 r2=>cases r2;exact⟨_,a_,r1⟩
theorem vals2 {x y:V}{us:b? b_}(r:Vals [x,y] us):∃u w',us=[u,w']/\RelV x u/\RelV y w':=by
 cases r with
 |cons r1 r2=>
  cases r2 with
  |cons r3 r4=>cases r4;exact(xa0 _ _ ⟨a_,r1,r3⟩)
end
structure oV (h:k?)(x dx C:c_)(mA:y?->g? b_):Prop where
 obj:h.get? x=some (Ð C dx)
 ns:h.Ns1 dx mA
 ne:dx≠x
theorem T8 {h:k?}{dx:c_}{mA:y?->g? b_}(n:h.Ns1 dx mA):∃od,h.get? dx=some od/\∀name,ş name od=some (mA name):=by
 obtain⟨o,es,ep,ho,hd,hk,_,hm⟩:=n;refine⟨o,ho,λname=>?_⟩;have e:=hm name;unfold nsFind findBy at e;rw[<-E?.find?_toList]at e;unfold ş;rw[hd];dsimp only;split
 .rename_i y q;rw[q]at e;exact X? some e
 .rename_i q;rw[q]at e;have a:es.toList.any (·.refKey)=false:=by
   rw[b?.any_eq_false];intro y hy;obtain⟨z,t,cH⟩:=hk y (E?.mem_toList_iff.mp hy);simp[Ĉ.refKey,cH]
  have a':¬es.toList.any (·.refKey)=true:=by rw[a];exact t?
  rw[j? a'];exact X? some e
theorem oV.look {h:k?}{x dx C:c_}{mA:y?->g? b_}(I:oV h x dx C mA):∃od,PySem.W.InstAt h x (Ð C dx) C (some od)/\∀name,ş name od=some (mA name):=
 let⟨od,ho,hl⟩:=T8 I.ns
 ⟨od,⟨I.obj,a_,a_,ho⟩,hl⟩
section
variable {prog:D'}{w:I?}{A:C_}{E:b_->d?->Prop}{s:d?}{K:e?}{x dx C f:c_}{mA:y?->g? b_}{name:y?}{v:b_}
theorem get_map {expr:o?}{Q:b_->d?->Prop}(X:K.In s.heap)(I:oV s.heap x dx C mA)(hg:Ń K C name=true)(hh:aad K C=true)(ha:J_ K (.ref C) name=some none)(hv:mA name=some v)(T9:aci v=true)(h:Q v {s with toks:=s.toks+1}):
  l_ (n_ prog w) A (getAttr (.ref x) name expr) Q E s:=by
 obtain⟨od,J,hl⟩:=I.look;exact PySem.W.get_value X J (ŭ hg).1 (PySem.W.findObj_own hh ha a_ (by rw[hl,hv])) T9 h
theorem Ua {pl:Ī o?}{Q:b_×b? b_->d?->Prop}(X:K.In s.heap)(I:oV s.heap x dx C mA)(hg:Ń K C name=true)(hf:J_ K (.ref C) name=some (some (.ref f)))(ht:aaJ K (.ref f)=true)(hv:mA name=none)(h:Q (.ref f,[.ref x]) s):
  l_ (n_ prog w) A (Ū (.ref x) name pl) Q E s:=by
 obtain⟨od,J,hl⟩:=I.look;exact PySem.W.method_fn X J (ŭ hg).1 (ŭ hg).2 hf (Ô.mp ht) (by show(ş name od).map (·.isSome)=some false;rw[hl,hv];rfl) h
theorem mX {ns:b? y?}{Q:acB->d?->Prop}(X:K.In s.heap)(I:oV s.heap x dx C mA)(hs:J_ K (.ref C) "__setattr__"=some (some (.builtin "object.__setattr__")))(hp:ab8 K C=true)(ht:aax K C name=some none)(hh:aad K C=true)(hw:İ mA ns)(hsz:ns.length<=k_)(h:∀h',oV h' x dx C (λy=>if y=name then some v else mA y)->H_ dx s.heap h'->Q () {s with heap:=h',toks:=s.toks+2}):
  l_ (n_ prog w) A (adS (.ref x) name v) Q E s:=by
 obtain⟨od,J,hl⟩:=I.look;refine PySem.W.set_plain X J hs (PySem.W.osa_open (s:={s with toks:=s.toks+1}) (r:=none) X J hp ht λb=>?_);obtain⟨cd,hc,bu⟩:=PySem.W.any_some hh;have hx:s.heap.get? x=some ⟨.ref C,some dx,.plain,#[]⟩:=I.obj;refine d_ (j_ (d_ (d_ (aeU hx (d_ (V?.here (s:={s with toks:=s.toks+1}) (PySem.W.looks_clsIn X hc) ?_))))));rw[bu];refine j_ (a:=some dx) (d_ (j_ (d_ ?_)));refine wpAny_nsSet1 (s:={s with toks:=s.toks+1}) I.ns λh' lS tN=>?_;obtain⟨oD,Ub,Uc,Dy,Dz,iT⟩:=lS.count (İ.cons name v hw);refine d_ (ad8 Dy (by rw[Dz];exact aeb (P_ iT (by rw[C?];lia))) ?_);exact j_ (h _ ⟨(tN.2 _ (M_ I.ne)).trans I.obj,lS,I.ne⟩ tN)
theorem L6 {R:š->d?->Prop}{vs:b? b_}{kw:b? (y?×b_)}(X:K.In s.heap)(hm:acv K C=true)(hi:J_ K (.ref C) "__init__"=some (some (.ref f)))(hf:PySem.W.typeIn K (.ref f)=some (.type "function"))(h:Ú (n_ prog w) (A.under (.builtin "type.__call__" ⟨.ref C::vs,kw⟩)) (.call (.ref f) ⟨.ref (s.heap.objs.size+1)::vs,kw⟩) (PySem.W.InitBack (s.heap.objs.size+1) R) {s with heap:=(s.heap.push W?).push (Ð C s.heap.objs.size)}):
  Ú (n_ prog w) A (.call (.ref C) ⟨vs,kw⟩) R s:=by
 obtain⟨hh,g,d,t,os⟩:=s;exact PySem.W.make_core (PySem.W.makes_of X hm) (À X hi) (λself=>PySem.W.bind_fn X self hf) (.inl a_) h
end
noncomputable def uk (f:y?)(v:V):b? (y?×V)->b? (y?×V)
 |[]=>[(f,v)]
 |(g,x)::r=>if g=f then(g,v)::r else(g,x)::uk f v r
theorem jj (f g:y?)(v:V):∀fs:b? (y?×V),(uk f v fs).lookup g=if g=f then some v else fs.lookup g
 |[]=>by
  show ÿ g [(f,v)]=_;by_cases h:g=f
  .have hb:(g==f)=true:=Ô.mpr h;simp only[ÿ,hb,m_ h]
  .have hb:(g==f)=false:=Î.mpr h;simp only[ÿ,hb,j? h]
 | (k,x)::r=>by
  have ih:=jj f g v r;rw[show uk f v ((k,x)::r)=(if k=f then(k,v)::r else(k,x)::uk f v r)from a_];by_cases hk:k=f
  .rw[m_ hk];by_cases h:g=k
   .have hb:(g==k)=true:=Ô.mpr h;simp only[ÿ,hb,m_ (h.trans hk)]
   .have hb:(g==k)=false:=Î.mpr h;simp only[ÿ,hb,j? (λe:g=f=>h (e.trans hk.symm))]
  .rw[j? hk];by_cases h:g=k
   .have hb:(g==k)=true:=Ô.mpr h;simp only[ÿ,hb,j? (λe:g=f=>hk (h.symm.trans e))]
   .have hb:(g==k)=false:=Î.mpr h;simp only[ÿ,hb];exact ih
theorem DA (f:y?)(v:V):∀fs:b? (y?×V),f∈(uk f v fs).map (·.1)/\∀g,g∈fs.map (·.1)->g∈(uk f v fs).map (·.1)
 |[]=>⟨by simp[uk],λg h=>by simp at h⟩
 | (k,x)::r=>by
  obtain⟨i1,i2⟩:=DA f v r;rw[show uk f v ((k,x)::r)=(if k=f then(k,v)::r else(k,x)::uk f v r)from a_];by_cases hk:k=f
  .rw[m_ hk];subst hk;exact⟨by simp,λg h=>by simpa using h⟩
  .rw[j? hk];refine⟨?_,λg h=>?_⟩
   .rw[A_];exact q_ _ i1
   .rw[A_]at h⊢;rcases D?.mp h with e|e
    .exact D?.mpr (.inl e)
    .exact q_ _ (i2 g e)
theorem L7 (f:y?)(v:V):∀fs:b? (y?×V),(uk f v fs).length<=fs.length+1
 |[]=>by simp[uk]
 |(k,x)::r=>by
  have ih:=L7 f v r;rw[show uk f v ((k,x)::r)=(if k=f then(k,v)::r else(k,x)::uk f v r)from a_];by_cases hk:k=f
  .rw[m_ hk,C?,C?];lia
  .rw[j? hk,C?,C?];lia
theorem dX.some_of {v:V}{o:g? b_}(r:dX (some v) o):∃u,o=some u/\RelV v u:=by
 cases o with
 |none=>exact(show w? from r).elim
 |some u=>exact⟨u,a_,r⟩
theorem dX.none_of {o:g? b_}(r:dX none o):o=none:=by
 cases o with
 |none=>rfl
 |some u=>exact(show w? from r).elim
theorem Ud {v:V}{u:b_}(r:RelV v u):aci u=true:=by
 cases v with
 |aj=>cases(show u=ė from r);rfl
 |bl b=>cases(show u=Å b from r);rfl
 |int i=>obtain⟨t,e⟩:=(show ∃t,u=ą i t from r);cases e;rfl
 |str x=>obtain⟨t,e⟩:=(show ∃t,u=acS x t from r);cases e;rfl
 |fF b=>obtain⟨t,e⟩:=(show ∃t,u=b_.bytes b t from r);cases e;rfl
 |mL b=>obtain⟨t,e⟩:=(show ∃t,u=adW b t from r);cases e;rfl
 |ref a=>cases(show u=t_ a from r);rfl
 |ty n=>cases(show u=Ĩ n from r);rfl
section
variable {P:D'}{w:I?}{H H':Hp}{h h':k?}{a C dx:c_}{fs fs':b? (y?×V)}
theorem zX (ag:bH P w H h)(e:H a=some (.ins C dx fs)):∃mA,oV h a dx C mA/\(∀f,dX (fs.lookup f) (mA f))/\İ mA (fs.map (·.1))/\fs.length<=1000/\H dx=some (.own a):=by obtain⟨d,z,ne,ob,mA,n,r,q⟩:=(show wg P w H h a (.ins C dx fs)from ag a _ e);exact⟨mA,⟨ob,n,ne⟩,r,q,z,d⟩
end
structure fh (K:e?)(C:c_):Prop where
 pg:Ń K C y?.empty=true
 hd:aad K C=true
 po:ab8 K C=true
 sa:J_ K (.ref C) "__setattr__"=some (some (.builtin "object.__setattr__"))
theorem fh.get {K:e?}{C:c_}(c:fh K C)(f:y?):Ń K C f=true:=c.pg
noncomputable def yt (K:e?)(C:c_)(f:y?):Prop:=J_ K (.ref C) f=some none
theorem yt.Ue {K:e?}{C:c_}{f:y?}(n:yt K C f):aax K C f=some none:=by unfold aax;rw[show J_ K (.ref C) f=some none from n];rfl
structure Meth (K:e?)(C:c_)(m:y?)(f:c_):Prop where
 at_:J_ K (.ref C) m=some (some (.ref f))
 fn:aaJ K (.ref f)=true
 kp:ã K (.ref f)=true
section
variable {X:Cx}{pins:b? (c_×L?)}{U:St}{H:Hp}{s:d?}{a C dx:c_}{fs:b? (y?×V)}{f:y?}{v:V}{A:C_}{E:b_->d?->Prop}
theorem Ug {b:o?}{Q:b_->d?->Prop}(I:Inv X pins U H s)(e:H a=some (.ins C dx fs))(c:fh X.K C)(n:yt X.K C f)(l:fs.lookup f=some v)(h:∀u s',Inv X pins U H s'->RelV v u->Q u s'):l_ (n_ X.prog X.w) A (getAttr (.ref a) f b) Q E s:=by
 obtain⟨mA,O,r,_,_,_⟩:=zX I.ag e;obtain⟨u,hu,ru⟩:=dX.some_of (v:=v) (o:=mA f) (by rw[<-l];exact r f);exact get_map I.aS O (c.get f) c.hd n hu (Ud ru) (h u _ (I.tok _) ru)
theorem zY {m:y?}{g:c_}{pl:Ī o?}{Q:b_×b? b_->d?->Prop}(I:Inv X pins U H s)(e:H a=some (.ins C dx fs))(c:fh X.K C)(k:Meth X.K C m g)(l:fs.lookup m=none)(h:Q (.ref g,[.ref a]) s):l_ (n_ X.prog X.w) A (Ū (.ref a) m pl) Q E s:=by
 obtain⟨mA,O,r,_,_,_⟩:=zX I.ag e;have hn:mA m=none:=dX.none_of (by rw[<-l];exact r m);exact Ua I.aS O (c.get m) k.at_ k.fn hn h
theorem Uh {y:V}{u:b_}{Q:acB->d?->Prop}(I:Inv X pins U H s)(e:H a=some (.ins C dx fs))(c:fh X.K C)(n:yt X.K C f)(hl:fs.length<1000)(ry:RelV y u)(h:∀s',Inv X pins U (upd H a (.ins C dx (uk f y fs))) s'->Q () s'):l_ (n_ X.prog X.w) A (adS (.ref a) f u) Q E s:=by
 obtain⟨mA,O,r,wi,_,ho⟩:=zX I.ag e;have hz:(fs.map (·.1)).length<=k_:=by rw[g_,Ĳ];lia
 refine mX I.aS O c.sa c.po n.Ue c.hd wi hz λh' O' sb=>h _ ?_;have hd:∃o,h'.get? dx=some o:=let⟨o,_,_,e',_⟩:=O'.ns;⟨o,e'⟩;refine I.write (x:=a) (e:=dx) (by rw[e];exact xv) (.inr ho) (λb q hb z=>(sb.2 b hb).trans z) hd ?_;refine⟨by rw[jd O.ne];exact ho,?_,O.ne,O'.obj,_,O'.ns,λg=>?_,λg hg=>?_⟩
 .have:=L7 f y fs;lia
 .show dX ((uk f y fs).lookup g) (if g=f then some u else mA g);rw[jj];by_cases q:g=f
  .rw[m_ q,m_ q];exact ry
  .rw[j? q,j? q];exact r g
 .by_cases q:g=f
  .rw[q];exact(DA f y fs).1
  .refine(DA f y fs).2 g (wi g λz=>hg ?_);show(if g=f then some u else mA g)=none;rw[j? q];exact z
theorem Inv.made (I:Inv X pins U H s):Inv X pins U (upd (upd H s.heap.objs.size (.own (s.heap.objs.size+1))) (s.heap.objs.size+1) (.ins C s.heap.objs.size [])) {s with heap:=(s.heap.push W?).push (Ð C s.heap.objs.size)}:=by
 have e1:(s.heap.push W?).get? s.heap.objs.size=some W?:=v? s.heap a_;have e2:((s.heap.push W?).push (Ð C s.heap.objs.size)).get? (s.heap.objs.size+1)=some (Ð C s.heap.objs.size):=by have:=v? (s.heap.push W?) (o:=Ð C s.heap.objs.size) a_;rwa[Ę]at this
 have e3:(s.heap.push W?).Ns s.heap.objs.size (λ_=>none):=(xa1 W? (#[]) _ ⟨e1,a_,(λe he=>w_ he (by simp)),λ_=>a_⟩);have I1:=I.laid (a:=s.heap.objs.size) (o:=.own (s.heap.objs.size+1)) (h':=s.heap.push W?) (t':=s.toks) (λb u q=>f_ _ q) (r_ _) ⟨_,e1⟩;refine I1.laid (a:=s.heap.objs.size+1) (o:=.ins C s.heap.objs.size []) (t':=s.toks) (λb u q=>f_ _ q) (afl (Ę _ _)) ?_;have ne:s.heap.objs.size≠s.heap.objs.size+1:=N? (Ĥ _);refine⟨by rw[jd ne,ja],T? _,ne,e2,λ_=>none,(k?.Ns1.of_empty e3).at λo q=>f_ _ q,λ_=>xv,λy hy=>w_ a_ hy⟩
theorem Ui {prog:D'}{w:I?}{env:Ţ}{e:G?}{f:y?}{pos:ğ}{s:d?}{Q:b_->d?->Prop}(hb:Ē e f env (U? e env)=U? e env)(h:l_ (n_ prog w) A (U? e env) (λo ai=>l_ (n_ prog w) A (getAttr o f true) Q E ai) E s):l_ (n_ prog w) A (U? (.Attribute e f pos) env) Q E s:=
 Attribute_any_ h (by rw[arm_eval_Attribute,hb])
end
noncomputable def L8 (K:e?)(ta:TE)(f:y?):TE:=λ U H Q=>ta U H λx H1=>∃a C dx fs v,x= .ref a/\H1 a=some (.ins C dx fs)/\fh K C/\yt K C f/\fs.lookup f=some v/\Q v H1
noncomputable def Uj (K:e?)(ta tv:TE)(f:y?):TS:=λD U H=>tv U H λy H1=>ta U H1 λx H2=>∃a C dx fs,x= .ref a/\H2 a=some (.ins C dx fs)/\fh K C/\yt K C f/\fs.length<1000/\D.nx U (upd H2 a (.ins C dx (uk f y fs)))
section
variable {X:Cx}{o e value:G?}{f:y?}{pos pos' fG:ğ}{ta tv:TE}
theorem j3 (he:PE X e ta)(hb:Ē e f X.env (U? e X.env)=U? e X.env):PE X (.Attribute e f pos) (L8 X.K ta f):=by intro pins s U H Q I h;refine Ui hb (ah (he pins s U H _ I h) λu s1 zQ=>?_);obtain⟨x,H1,I1,rx,a,C,dx,fs,v,ex,ea,c,n,l,q⟩:=zQ;subst ex;obtain rfl:u=t_ a:=rx;exact Ug I1 ea c n l λu' s2 I2 ru=>(xa0 v H1 ⟨I2,ru,q⟩)
theorem g6 (ha:PE X o ta)(hv:PE X value tv)(hs:aan value (some (.Attribute o f pos')) pos.line X.env=ó false):PS X (.Assign [.Attribute o f pos'] value pos) (Uj X.K ta tv f):=by intro pins s U H D I h;refine aa0 (ah (hv pins s U H _ I h) λu s1 ⟨y,H1,I1,ry,q⟩=>ah (ha pins s1 U H1 _ I1 q) λov s2 zQ=>?_) hs;obtain⟨x,H2,I2,rx,a,C,dx,fs,ex,ea,c,n,l,q2⟩:=zQ;subst ex;obtain rfl:ov=t_ a:=rx;exact Uh I2 ea c n l ry λs3 I3=>(xa0 U _ ⟨I3,q2⟩)
theorem j7h {pl:Ī o?}{m:y?}{apos:ğ}{args:b? G?}{pins:b? (c_×L?)}{s:d?}{U:St}{H:Hp}{Q:b_->d?->Prop}{te:TE}(he:PE X e te)(I:Inv X pins U H s)(h:te U H λx H1=>∃a C dx fs g,x= .ref a/\H1 a=some (.ins C dx fs)/\fh X.K C/\Meth X.K C m g/\fs.lookup m=none/\∀s1,Inv X pins U H1 s1->l_ (n_ X.prog X.w) X.A (aah pos (.ref g) [.ref a] (W_ pos (x? args X.env)) (Ö pos (U_ [] X.env))) Q X.xe s1)(ht:U? (.Call (.Attribute e m apos) args [] pos) X.env=(do
   let ov<-U? e X.env
   Ŵ apos.atName
   let(f,first)<-ģ [ov] (Ū ov m pl)
   aah pos f first (W_ pos (x? args X.env)) (Ö pos (U_ [] X.env)))) :
  l_ (n_ X.prog X.w) X.A (U? (.Call (.Attribute e m apos) args [] pos) X.env) Q X.xe s:=by
 refine ç (pl:=pl) (ah (he pins s U H _ I h) λu s1 zQ=>?_) ht;obtain⟨x,H1,I1,rx,a,C,dx,fs,g,ex,ea,c,k,l,q⟩:=zQ;subst ex;obtain rfl:u=t_ a:=rx;exact zY I1 ea c k l (q s1 I1)
end
section
variable {X:Cx}{pins:b? (c_×L?)}{U:St}{H:Hp}{s:d?}{A:C_}{E:b_->d?->Prop}{Q:b_->d?->Prop}{c:b_}{b:o?}
inductive gX (K:e?)(H:Hp):V->b_->Prop where
 |aj:gX K H .aj (.type "NoneType")
 |bl (x:o?):gX K H (.bl x) (.type "bool")
 |int (i:f?):gX K H (.int i) (.type "int")
 |str (x:y?):gX K H (.str x) (.type "str")
 |mL (x:UInt64):gX K H (.mL x) (.type "float")
 |lst {a:c_} {xs:b? V} (e:H a=some (.lst xs)):gX K H (.ref a) (.type "list")
 |aB {a:c_} {o:L?} {xs:b? V} (e:H a=some (.aB o (.lst xs))):gX K H (.ref a) (.type "list")
 |tup {a:c_} {xs:b? V} (e:H a=some (.tup xs)):gX K H (.ref a) (.type "tuple")
 |dK {a:c_} {kvs:b? (Key×V)} (e:H a=some (.dK kvs)):gX K H (.ref a) (.type "dict")
 |dT {a:c_} {kvs:b? (b? Key×V)} (e:H a=some (.dT kvs)):gX K H (.ref a) (.type "dict")
 |ins {a C dx:c_} {fs:b? (y?×V)} (e:H a=some (.ins C dx fs)) (cl:fh K C) (ha:J_ K (.ref C) "__class__"=some (some (.builtin "object.__class__"))) (hn:ab7 K (.builtin "object.__class__") "__get__"=some (some (.builtin "getset_descriptor.__get__"))) (L9:PySem.W.takesIn K (.builtin "object.__class__")=some true) (hm:Č K C (.type "object")=some true):gX K H (.ref a) (.ref C)
theorem Uk {x:V}{u t:b_}(I:Inv X pins U H s)(rx:RelV x u)(ty:gX X.K H x t)(e:S? X.K t c=some b)(h:∀tk,Q (.bool b) {s with toks:=tk}):l_ (n_ X.prog X.w) A (ħ (.builtin "isinstance") [u,c]) Q E s:=by
 cases ty with
 |aj=>cases(show u=ė from rx);exact T_ PySem.W.kitx_none I.aS xv e (λz=>nomatch z) h
 |bl y=>cases(show u=Å y from rx);exact T_ PySem.W.kitx_bool I.aS xv e (λz=>nomatch z) h
 |int i=>obtain⟨t,q⟩:=(show ∃t,u=ą i t from rx);cases q;exact T_ PySem.W.kitx_int I.aS xv e (λz=>nomatch z) h
 |str y=>obtain⟨t,q⟩:=(show ∃t,u=acS y t from rx);cases q;exact T_ PySem.W.kitx_str I.aS xv e (λz=>nomatch z) h
 |mL y=>obtain⟨t,q⟩:=(show ∃t,u=adW y t from rx);cases q;exact T_ PySem.W.kitx_float I.aS xv e (λz=>nomatch z) h
 |@lst a xs ea=>cases(show u=t_ a from rx);obtain⟨_,_,n,_,h1⟩:=(show wg X.prog X.w H s.heap a (.lst xs)from I.ag a _ ea);exact T_ aac I.aS ⟨_,h1,a_⟩ e (λz=>nomatch z) h
 |@aB a ob xs ea=>cases(show u=t_ a from rx);obtain⟨_,_,_,n,_,h1⟩:=(show wg X.prog X.w H s.heap a (.aB ob (.lst xs))from I.ag a _ ea);exact T_ aac I.aS ⟨_,h1,a_⟩ e (λz=>nomatch z) h
 |@tup a xs ea=>cases(show u=t_ a from rx);obtain⟨_,_,_,p⟩:=(show wg X.prog X.w H s.heap a (.tup xs)from I.ag a _ ea);obtain⟨o,h1,h2,_⟩:=p;exact T_ abX I.aS ⟨o,h1,h2⟩ e (λz=>nomatch z) h
 |@dK a kvs ea=>cases(show u=t_ a from rx);obtain⟨_,_,vs,_,p⟩:=(show wg X.prog X.w H s.heap a (.dK kvs)from I.ag a _ ea);obtain⟨o,es,ep,h1,h2,_⟩:=p;exact T_ ab9 I.aS ⟨o,h1,h2.1⟩ e (λz=>nomatch z) h
 |@dT a kvs ea=>cases(show u=t_ a from rx);obtain⟨_,_,xs,_,o,es,ep,h1,h2,_⟩:=(show wg X.prog X.w H s.heap a (.dT kvs)from I.ag a _ ea);exact T_ ab9 I.aS ⟨o,h1,h2.1⟩ e (λz=>nomatch z) h
 |@ins a C dx fs ea cl ha hn L9 hm=>cases(show u=t_ a from rx);obtain⟨mA,O,_⟩:=zX I.ag ea;obtain⟨od,J,_⟩:=O.look;exact T_ (PySem.W.kitx_own (cl.get _) cl.hd ha hn L9 hm) I.aS J e (λz=>nomatch z) h
end
structure aT (k:i_)(A:C_):Prop where
 hd:A.handled=none
 dp:A.depth+3*k+5<aeX
 un:A.units+16*k+200<Â
theorem aT.mono {j k:i_}{A:C_}(r:aT k A)(h:j<=k):aT j A:=⟨r.hd,by have:=r.dp;lia,by have:=r.un;lia⟩
theorem aT.dn {j k:i_}{A:C_}(r:aT k A)(h:e_ (j<=k) aP2):aT j A:=r.mono h
theorem aT.deeper {k:i_}{A:C_}(r:aT (k+1) A)(env:Ţ):aT k (A.deeper env):=⟨r.hd,by have:=r.dp;show A.depth+1+3*k+5<_;lia,by have:=r.un;show A.units+3+16*k+200<_;lia⟩
theorem Ul {A:C_}{C:c_}{us:b? b_}{kw:b? (y?×b_)}:(A.under (.builtin "type.__call__" ⟨.ref C::us,kw⟩)).depth=A.depth+1:=by first|rfl|simp[Around.under,Code.weight,Code.isCreation,Code.isGuard,Code.isCaller,Code.frames,Code.isFrame,guardIds]
theorem Um {A:C_}{C:c_}{us:b? b_}{kw:b? (y?×b_)}:(A.under (.builtin "type.__call__" ⟨.ref C::us,kw⟩)).units=A.units+1:=by first|rfl|simp[Around.under,Code.cUnits,Code.frames,Code.isFrame]
theorem aT.make {k:i_}{A:C_}(r:aT (k+1) A)(C:c_)(us:b? b_)(kw:b? (y?×b_)):aT k (A.under (.builtin "type.__call__" ⟨.ref C::us,kw⟩)):=⟨r.hd,by have:=r.dp;rw[Ul];lia,by have:=r.un;rw[Um];lia⟩
theorem aT.depth {k:i_}{A:C_}(r:aT k A):A.depth<aeX:=by have:=r.dp;lia
theorem aT.units {k:i_}{A:C_}(r:aT k A):A.units+64<Â:=by have:=r.un;lia
noncomputable def lT:TA:=λ_ H Q=>Q [] H
noncomputable def vu (ta:TE)(tr:TA):TA:=λ U H Q=>ta U H λx H1=>tr U H1 λxs H2=>Q (x::xs) H2
section
variable {X:Cx}{e:G?}{es:b? G?}{te:TE}{t:TA}{pos:ğ}
theorem jf:PA X [] lT:=λ_ _ _ _ H Q I h=>ŀ (xa0 [] H ⟨I,.nil,h⟩)
theorem Uo (ha:PE X e te)(hr:PA X es t)(hs:e_ (x? (e::es) X.env=(false,U? e X.env)::x? es X.env) aP1):PA X (e::es) (vu te t):=by intro pos pins s U H Q I h;rw[hs];show l_ _ _ (spliced ((false,U? e X.env)::W_ pos (x? es X.env))) _ _ s;refine ä (ah (ha pins s U H _ I h) λu s1 zQ=>?_);obtain⟨x,H1,I1,r1,q1⟩:=zQ;exact ah (hr pos pins s1 U H1 _ I1 q1) λus s2 ⟨xs,H2,I2,r2,q2⟩=>(xa0 (x::xs) H2 ⟨I2,.cons r1 r2,q2⟩)
noncomputable def Ur (t:TA):TE:=λ U H Q=>t U H λxs H1=>xs.length<=k_/\∀p,H1 p=none->Q (.ref p) (upd H1 p (.tup xs))
noncomputable def Us (t:TA):TE:=λ U H Q=>t U H λxs H1=>xs.length<=k_/\∀p,H1 p=none->Q (.ref p) (upd H1 p (.lst xs))
theorem iU {x1}(h:PA X es t):PE X (.Tuple es x1 pos) (Ur t):=by intro pins s U H Q I hq;refine wpAny_Tuple_spliced (ah (h pos pins s U H _ I hq) λus s1 ⟨xs,H1,I1,r,z,q⟩=>⟨by rw[<-r.length];exact z,?_⟩);have hf:H1 s1.heap.objs.size=none:=I1.ag.fresh (r_ _);refine(xa0 (.ref s1.heap.objs.size) (upd H1 s1.heap.objs.size (.tup xs)) ⟨I1.laid (t':=s1.toks) (λb u e=>f_ _ e) (r_ _) ?_,a_,q _ hf⟩);exact⟨z,us,r,⟨_,v? _ a_,a_,_,a_⟩⟩
theorem xf (h:PA X es t):PE X (.List es pos) (Us t):=by intro pins s U H Q I hq;refine wpAny_List_spliced (ah (h pos pins s U H _ I hq) λus s1 ⟨xs,H1,I1,r,z,q⟩=>⟨by rw[<-r.length];exact z,?_⟩);have hf:H1 s1.heap.objs.size=none:=I1.ag.fresh (r_ _);refine(xa0 (.ref s1.heap.objs.size) (upd H1 s1.heap.objs.size (.lst xs)) ⟨I1.laid (t':=s1.toks) (λb u e=>f_ _ e) (r_ _) ?_,a_,q _ hf⟩);exact⟨z,xa0 us 0 ⟨r,v? _ a_⟩⟩
end
noncomputable abbrev Sp:=b? V->Hp->VK->XK->Prop
noncomputable abbrev fj:=b? Ţ->Hp->d?->XK->b_->d?->Prop
structure oW (P:D')(w:I?)(K:e?)(mg:y?->g? b_)(base:k?)(A:C_)(outer:b? Ţ)(s:d?)(H:Hp):Prop where
 frames:A.frames=some outer
 mod:Mod K mg base
 bs:∀b o,base.get? b=some o->s.heap.get? b=some o/\H b=none
 jY:base.objs.size<=s.heap.objs.size
 fg:s.heap.FunFrames base outer
 iM:∀b∈bf outer,H b=none
 ag:bH P w H s.heap
 bare:Ŗ s.gens
noncomputable def CE (outer:b? Ţ)(P:D')(w:I?)(H:Hp)(s:d?)(Q:VK)(u:b_)(s':d?):Prop:=∃v H',s'.os=s.os/\Ŗ s'.gens/\Un (bf outer) [] H H' s.heap s'.heap/\bH P w H' s'.heap/\RelV v u/\Q v H'
noncomputable def CR (CX:fj)(outer:b? Ţ)(P:D')(w:I?)(H:Hp)(s:d?)(Q:VK)(E:XK)(r:š)(s':d?):Prop:=match r with
 | .ok (.ret u)=>CE outer P w H s Q u s'
 | .ok _=>w?
 | .error e=>CX outer H s E e s'
structure zv (P:D')(w:I?)(K:e?)(mg:y?->g? b_)(base:k?)(CX:fj)(k:i_)(f:c_)(fd:l')(ps:b? y?)(sp:Sp):Prop where
 len:∀vs H Q E,sp vs H Q E->vs.length=ps.length
 run:∀(A:C_)(outer:b? Ţ)(s:d?)(H:Hp)(args:Args)(us:b? b_)(vs:b? V)(Q:VK)(E:XK),aT k A->oW P w K mg base A outer s H->aar s fd args (ps.zip us)->Vals vs us->sp vs H Q E->Ú (n_ P w) A (.call (.ref f) args) (CR CX outer P w H s Q E) s
theorem oW.make {P:D'}{w:I?}{K:e?}{mg:y?->g? b_}{base:k?}{A:C_}{outer:b? Ţ}{s:d?}{H:Hp}(e:oW P w K mg base A outer s H)(C:c_)(us:b? b_)(kw:b? (y?×b_)):oW P w K mg base (A.under (.builtin "type.__call__" ⟨.ref C::us,kw⟩)) outer s H:=⟨by first|exact e.frames|(simpa[Around.under,Code.envs,Code.isFrame,pushEnvs]using e.frames),e.mod,e.bs,e.jY,e.fg,e.iM,e.ag,e.bare⟩
section
variable {X:Cx}{pins:b? (c_×L?)}{U:St}{H:Hp}{s s':d?}
theorem Inv.rH (I:Inv X pins U H s):oW X.prog X.w X.K X.mg X.base X.A X.stack s H:=⟨I.ok.frames,I.ok.mod,I.bs,P_ I.ok.jY I.sz,I.stack,I.zH,I.ag,I.bare⟩
theorem Inv.after {Q:VK}{u:b_}(I:Inv X pins U H s)(h:CE X.stack X.prog X.w H s Q u s'):EP X pins U Q u s':=by obtain⟨v,H',os,bare,un,ag,r,q⟩:=h;obtain⟨hh,g,d,t,Ut⟩:=s';obtain rfl:Ut=s.os:=os;exact(xa0 v H' ⟨I.call (h':=hh) (g':=g) (d':=d) (t':=t) (ch:=[]) un ag bare (λb z=>w_ z (by simp)),r,q⟩)
end
noncomputable def Ma (sp:Sp)(bq:b? V)(E:XK)(t:TA):TE:=λ U H Q=>t U H λvs H1=>sp (vs++bq) H1 Q E
noncomputable def Mb (C:c_)(m:y?)(sp:Sp)(bq:b? V)(E:XK)(ta:TE)(t:TA):TE:=λ U H Q=>ta U H λx H1=>∃a dx fs,x= .ref a/\H1 a=some (.ins C dx fs)/\fs.lookup m=none/\t U H1 λvs H2=>sp (x::(vs++bq)) H2 Q E
noncomputable def Uu (C:c_)(sp:Sp)(bq:b? V)(E:XK)(t:TA):TE:=λ U H Q=>t U H λvs H1=>∀x dx,H1 x=none->H1 dx=none->dx≠x->sp (.ref x::(vs++bq)) (upd (upd H1 dx (.own x)) x (.ins C dx [])) (λv H2=>v= .aj/\Q (.ref x) H2) E
noncomputable def Binds (K:e?)(fd:l')(ps:b? y?)(ds:b? b_):Prop:=∀(s:d?)(us:b? b_),K.In s.heap->(us++ds).length=ps.length->aar s fd ⟨us,[]⟩ (ps.zip (us++ds))
theorem Binds.all {K:e?}{fd:l'}{ps:b? y?}(h:∀us:b? b_,us.length=ps.length->ada fd ⟨us,[]⟩=ó (ps.zip us)):Binds K fd ps []:=λs us _ hl=>by rw[â]at hl⊢;exact .of_eq (h us hl)
noncomputable def Passes (CX:fj)(X:Cx)(E:XK):Prop:=∀(pins:b? (c_×L?))(U:St)(H:Hp)(s:d?)(e:b_)(s':d?),Inv X pins U H s->CX X.stack H s E e s'->X.xe e s'
section
variable {X:Cx}{CX:fj}{k:i_}{f C:c_}{fd:l'}{ps:b? y?}{sp:Sp}{bq:b? V}{ds:b? b_}{E:XK}{x m:y?}{p pos apos:ğ}{e o:G?}{es:b? G?}{ta:TE}{t:TA}
theorem zZ {pins:b? (c_×L?)}{U:St}{H:Hp}{s:d?}{Q:VK}{us:b? b_}{vs:b? V}(F:zv X.prog X.w X.K X.mg X.base CX k f fd ps sp)(hr:aT k X.A)(hb:Binds X.K fd ps ds)(hd:Vals bq ds)(hx:Passes CX X E)(I:Inv X pins U H s)(r:Vals vs us)(h:sp (vs++bq) H Q E):l_ (n_ X.prog X.w) X.A (ħ (.ref f) us) (EP X pins U Q) X.xe s:=by
 have r2:Vals (vs++bq) (us++ds):=r.append hd;have hl:(us++ds).length=ps.length:=by rw[<-r2.length];exact F.len _ _ _ _ h
 refine Ĭ (ć (F.run X.A X.stack s H ⟨us,[]⟩ (us++ds) (vs++bq) Q E hr I.rH (hb s us I.aS hl) r2 h) λr s' hq=>?_);cases r with
 |error e=>exact hx pins U H s e s' I hq
 |ok fl=>
  cases fl with
  |ret u=>exact I.after hq
  |next=>exact J? hq
  |brk=>exact J? hq
  |cont=>exact J? hq
theorem jm (F:zv X.prog X.w X.K X.mg X.base CX k f fd ps sp)(hr:aT k X.A)(hg:Gl X x)(hm:X.mg x=some (.ref f))(hk:ã X.K (.ref f)=true)(hb:Binds X.K fd ps ds)(hd:Vals bq ds)(hx:Passes CX X E)(ha:PA X (e::es) t)(cI:e_ ((x==("__debug__":y?))=false) aP2)(he:e_ (x? (e::es) X.env=(false,U? e X.env)::x? es X.env) aP1)(cg:e_ ((W_ pos (x? es X.env)).any (·.1)=false) aP1):
  PE X (.Call (.Name x p) (e::es) [] pos) (Ma sp bq E t):=by
 intro pins s U H Q I h;refine ò (mQ I hg hm ?_ cI);refine ă (h₀:=X.base) I.ok.mod.eJ hk (ah (ha pos pins s U H _ I h) λus s1 ⟨vs,H1,I1,r,q⟩=>⟨I1.aS,?_⟩) he cg;exact zZ F hr hb hd hx I1 r q
theorem j8 {pl:Ī o?}(he:PE X o ta)(c:fh X.K C)(hm:Meth X.K C m f)(F:zv X.prog X.w X.K X.mg X.base CX k f fd ps sp)(hr:aT k X.A)(hb:Binds X.K fd ps ds)(hd:Vals bq ds)(hx:Passes CX X E)(ha:PA X (e::es) t)(iA:e_ (x? (e::es) X.env=(false,U? e X.env)::x? es X.env) aP1)(cg:e_ ((W_ pos (x? es X.env)).any (·.1)=false) aP1)(ht:e_ (U? (.Call (.Attribute o m apos) (e::es) [] pos) X.env=(do
   let ov<-U? o X.env
   Ŵ apos.atName
   let(f,first)<-ģ [ov] (Ū ov m pl)
   aah pos f first (W_ pos (x? (e :: es) X.env)) (Ö pos (U_ [] X.env)))) aP1) :
  PE X (.Call (.Attribute o m apos) (e::es) [] pos) (Mb C m sp bq E ta t):=by
 intro pins s U H Q I h;refine ç (pl:=pl) (ah (he pins s U H _ I h) λu s1 zQ=>?_) ht;obtain⟨x,H1,I1,rx,a,dx,fs,ex,ea,l,q⟩:=zQ;subst ex;obtain rfl:u=t_ a:=rx;refine zY I1 ea c hm l ?_;refine ă (first:=[.ref a]) (h₀:=X.base) I.ok.mod.eJ hm.kp (ah (ha pos pins s1 U H1 _ I1 q) λus s2 ⟨vs,H2,I2,r,q2⟩=>⟨I2.aS,?_⟩) iA cg;exact zZ (us:=.ref a::us) (vs:=.ref a::vs) F hr hb hd hx I2 (.cons a_ r) q2
theorem wo {pl:Ī o?}(he:PE X o ta)(c:fh X.K C)(hm:Meth X.K C m f)(F:zv X.prog X.w X.K X.mg X.base CX k f fd ps sp)(hr:aT k X.A)(hb:Binds X.K fd ps ds)(hd:Vals bq ds)(hx:Passes CX X E)(ht:e_ (U? (.Call (.Attribute o m apos) [] [] pos) X.env=(do
   let ov<-U? o X.env
   Ŵ apos.atName
   let(f,first)<-ģ [ov] (Ū ov m pl)
   aah pos f first (W_ pos (x? [] X.env)) (Ö pos (U_ [] X.env)))) aP1) :
  PE X (.Call (.Attribute o m apos) [] [] pos) (Mb C m sp bq E ta lT):=by
 intro pins s U H Q I h;refine ç (pl:=pl) (ah (he pins s U H _ I h) λu s1 zQ=>?_) ht;obtain⟨x,H1,I1,rx,a,dx,fs,ex,ea,l,q⟩:=zQ;subst ex;obtain rfl:u=t_ a:=rx;refine zY I1 ea c hm l ?_;exact PySem.W.callWith_K0 (first:=[.ref a]) I1.aS hm.kp (zZ (us:=[.ref a]) (vs:=[.ref a]) F hr hb hd hx I1 (.cons a_ .nil) q)
structure Mk (K:e?)(C f:c_):Prop where
 makes:acv K C=true
 init:J_ K (.ref C) "__init__"=some (some (.ref f))
 fn:aaJ K (.ref f)=true
 kp:ã K (.ref C)=true
theorem Uv {pins:b? (c_×L?)}{U:St}{H:Hp}{s:d?}{Q:VK}{us:b? b_}{vs:b? V}(M:Mk X.K C f)(F:zv X.prog X.w X.K X.mg X.base CX k f fd ps sp)(hr:aT (k+1) X.A)(hb:Binds X.K fd ps ds)(hd:Vals bq ds)(hx:Passes CX X E)(I:Inv X pins U H s)(r:Vals vs us)(h:∀x dx,H x=none->H dx=none->dx≠x->sp (.ref x::(vs++bq)) (upd (upd H dx (.own x)) x (.ins C dx [])) (λv H2=>v= .aj/\Q (.ref x) H2) E):
  l_ (n_ X.prog X.w) X.A (ħ (.ref C) us) (EP X pins U Q) X.xe s:=by
 have hq:=h (s.heap.objs.size+1) s.heap.objs.size (I.ag.fresh (Ÿ _)) (I.ag.fresh (r_ _)) (N? (Ĥ _));have I2:=Inv.made (C:=C) I;have r2:Vals (V.ref (s.heap.objs.size+1)::(vs++bq)) (t_ (s.heap.objs.size+1)::(us++ds)):=.cons a_ (r.append hd);have hl:(t_ (s.heap.objs.size+1)::us++ds).length=ps.length:=by have e:=r2.length;rw[F.len _ _ _ _ hq]at e;exact e.symm
 refine Ĭ (L6 (f:=f) I.aS M.makes M.init (Ô.mp M.fn) (ć (F.run _ X.stack _ _ ⟨t_ (s.heap.objs.size+1)::us,[]⟩ (t_ (s.heap.objs.size+1)::(us++ds)) _ _ E (hr.make C us []) (I2.rH.make C us []) (hb _ (t_ (s.heap.objs.size+1)::us) I2.aS hl) r2 hq) λr s' cY=>?_));cases r with
 |error e=>exact hx pins U _ _ e s' I2 cY
 |ok fl=>
  cases fl with
  |ret u=>obtain⟨v,H',I3,rv,ev,q3⟩:=I2.after cY;subst ev;exact⟨rv,(xa0 (V.ref (s.heap.objs.size+1)) H' ⟨I3,a_,q3⟩)⟩
  |next=>exact J? cY
  |brk=>exact J? cY
  |cont=>exact J? cY
theorem Aa (M:Mk X.K C f)(F:zv X.prog X.w X.K X.mg X.base CX k f fd ps sp)(hr:aT (k+1) X.A)(hg:Gl X x)(hm:X.mg x=some (.ref C))(hb:Binds X.K fd ps ds)(hd:Vals bq ds)(hx:Passes CX X E)(ha:PA X (e::es) t)(cI:e_ ((x==("__debug__":y?))=false) aP2)(he:e_ (x? (e::es) X.env=(false,U? e X.env)::x? es X.env) aP1)(cg:e_ ((W_ pos (x? es X.env)).any (·.1)=false) aP1):
  PE X (.Call (.Name x p) (e::es) [] pos) (Uu C sp bq E t):=by
 intro pins s U H Q I h;refine ò (mQ I hg hm ?_ cI);refine ă (h₀:=X.base) I.ok.mod.eJ M.kp (ah (ha pos pins s U H _ I h) λus s1 ⟨vs,H1,I1,r,q⟩=>⟨I1.aS,?_⟩) he cg;exact Uv M F hr hb hd hx I1 r q
end
noncomputable def PK (X:Cx)(fk:b? Ŷ)(t:TA):Prop:=∀(pos:ğ)(pins:b? (c_×L?))(s:d?)(U:St)(H:Hp)(Q:b? V->Hp->Prop),Inv X pins U H s->t U H Q->l_ (n_ X.prog X.w) X.A (evalAll ((Ö pos (U_ fk X.env)).map (·.2))) (AP X pins U Q) X.xe s
section
variable {X:Cx}{CX:fj}{k:i_}{f C:c_}{fd:l'}{ps ks:b? y?}{sp:Sp}{E:XK}{x m:y?}{p pos apos DB:ğ}{e o:G?}{es:b? G?}{fk:b? Ŷ}{te ta:TE}{t tk:TA}{nm:g? y?}
theorem uu:PK X [] lT:=λ_ _ _ _ H Q I h=>wpAny_evalAll_nil (xa0 [] H ⟨I,.nil,h⟩)
theorem xc (ha:PE X e te)(hr:PK X fk t):PK X (⟨nm,e,DB⟩::fk) (vu te t):=by intro pos pins s U H Q I h;show l_ _ _ (evalAll ((do let v<-U? e X.env;Ŵ pos;ó v)::(Ö pos (U_ fk X.env)).map (·.2))) _ _ s;refine wpAny_evalAll_cons (d_ (ah (ha pins s U H _ I h) λu s1 ⟨x,H1,I1,r1,q1⟩=>d_ (á (j_ ?_))));exact ah (hr pos pins s1 U H1 _ I1 q1) λus s2 ⟨xs,H2,I2,r2,q2⟩=>(xa0 (x::xs) H2 ⟨I2,.cons r1 r2,q2⟩)
structure dN (K:e?)(fd:l')(ps ks:b? y?)(g:b? b_->b? b_->b? b_)(gV:b? V->b? V->b? V):Prop where
 to:∀(s:d?)(us ws:b? b_),K.In s.heap->(g us ws).length=ps.length->aar s fd ⟨us,ks.zip ws⟩ (ps.zip (g us ws))
 rel:∀{vs:b? V}{us:b? b_}{zs:b? V}{ws:b? b_},Vals vs us->Vals zs ws->Vals (gV vs zs) (g us ws)
noncomputable def Uw (sp:Sp)(gV:b? V->b? V->b? V)(E:XK)(t tk:TA):TE:=λ U H Q=>t U H λvs H1=>tk U H1 λzs H2=>sp (gV vs zs) H2 Q E
variable {g:b? b_->b? b_->b? b_}{gV:b? V->b? V->b? V}
theorem Ux {pins:b? (c_×L?)}{U:St}{H:Hp}{s:d?}{Q:VK}{us ws:b? b_}{vs zs:b? V}(F:zv X.prog X.w X.K X.mg X.base CX k f fd ps sp)(hr:aT k X.A)(hb:dN X.K fd ps ks g gV)(hx:Passes CX X E)(I:Inv X pins U H s)(r:Vals vs us)(rz:Vals zs ws)(h:sp (gV vs zs) H Q E):l_ (n_ X.prog X.w) X.A (ħ (.ref f) us (ks.zip ws)) (EP X pins U Q) X.xe s:=by
 have r2:=hb.rel r rz;have hl:(g us ws).length=ps.length:=by rw[<-r2.length];exact F.len _ _ _ _ h
 refine Ĭ (ć (F.run X.A X.stack s H ⟨us,ks.zip ws⟩ (g us ws) (gV vs zs) Q E hr I.rH (hb.to s us ws I.aS hl) r2 h) λr s' hq=>?_);cases r with
 |error e=>exact hx pins U H s e s' I hq
 |ok fl=>
  cases fl with
  |ret u=>exact I.after hq
  |next=>exact J? hq
  |brk=>exact J? hq
  |cont=>exact J? hq
theorem xb (F:zv X.prog X.w X.K X.mg X.base CX k f fd ps sp)(hr:aT k X.A)(hg:Gl X x)(hm:X.mg x=some (.ref f))(hk:ã X.K (.ref f)=true)(hb:dN X.K fd ps ks g gV)(hx:Passes CX X E)(ha:PA X (e::es) t)(tO:PK X fk tk)(iV:e_ ((Ö pos (U_ fk X.env)).all (·.1.isSome)=true) aP1)(DC:e_ ((Ö pos (U_ fk X.env)).filterMap (·.1)=ks) aP1)(cI:e_ ((x==("__debug__":y?))=false) aP2)(he:e_ (x? (e::es) X.env=(false,U? e X.env)::x? es X.env) aP1)(cg:e_ (((W_ pos (x? (e::es) X.env)).any (·.1)||(Ö pos (U_ fk X.env)).any (·.1.isNone))=false) aP1):
  PE X (.Call (.Name x p) (e::es) fk pos) (Uw sp gV E t tk):=by
 intro pins s U H Q I h;refine ò (mQ I hg hm ?_ cI);refine abD (h₀:=X.base) I.ok.mod.eJ hk iV (ah (ha pos pins s U H _ I h) λus s1 zQ=>?_) cg he;obtain⟨vs,H1,I1,r,q⟩:=zQ;refine ah (tO pos pins s1 U H1 _ I1 q) λws s2 ⟨zs,H2,I2,rz,q2⟩=>⟨I2.aS,?_⟩;rw[DC];exact Ux F hr hb hx I2 r rz q2
end
structure qd (N P:b? y?)(sc:Ã):Prop where
 kind:sc.kind= .function
 co:sc.isCoroutine=false
 gen:sc.isGenerator=false
 nd:N.Nodup
 pre:N.take P.length=P
 par:∀x∈P,sc.names.lookup x=some .local\/sc.names.lookup x=some .cell
 Uy:∀y∈sc.names,y.2≠.free
theorem bG {N P:b? y?}{sc:Ã}(a:e_ (sc.kind= .function) aP1)(b:e_ (sc.isCoroutine=false) aP1)(c:e_ (sc.isGenerator=false) aP1)(d:e_ (N.Nodup) aP4)(e:e_ (N.take P.length=P) aP1)(f:e_ (∀x∈P,sc.names.lookup x=some .local\/sc.names.lookup x=some .cell) aP4)(g:e_ (∀y∈sc.names,y.2≠.free) aP4):qd N P sc:=⟨a,b,c,d,e,f,g⟩
theorem Mc {kindOf:y?->g? F0}{x:y?}:∀{binds:b? (y?×b_)}{m:y?->g? b_},(∀v,(x,v)∉binds)->acs kindOf binds m x=m x
 |[],_,_=>a_
 | (n,v)::r,m,h=>by
  unfold acs;rw[Mc λw hw=>h w (q_ _ hw)];split
  .have:x≠n:=by rintro rfl;exact h v p?
   simp[this]
  .rfl
theorem Md {kindOf:y?->g? F0}{x:y?}:∀{binds:b? (y?×b_)}{m:y?->g? b_},(∀v,(x,v)∉binds)->acu kindOf binds m x=m x
 |[],_,_=>a_
 | (n,v)::r,m,h=>by
  unfold acu;rw[Md λw hw=>h w (q_ _ hw)];split
  .rfl
  .have:x≠n:=by rintro rfl;exact h v p?
   simp[this]
theorem Me {kindOf:y?->g? F0}{x:y?}{v:b_}:∀{P:b? y?}{vs:b? b_}{i:i_}{m:y?->g? b_},P.Nodup->P[i]?=some x->vs[i]?=some v->kindOf x=some .local->acs kindOf (P.zip vs) m x=some v
 |[],_,_,_,_,h,_,_=>by simp at h
 |_::_,[],_,_,_,_,h,_=>by simp at h
 |p::P,w::vs,0,m,nd,h1,h2,hk=>by simp at h1 h2;subst h1;subst h2;show acs kindOf ((p,w)::P.zip vs) m p=_;unfold acs;rw[Mc λv hv=>(W'.mp nd).1 (abG hv).1,m_ hk];simp
 |p::P,w::vs,i+1,m,nd,h1,h2,hk=>by show acs kindOf ((p,w)::P.zip vs) m x=_;unfold acs;exact Me (i:=i) (W'.mp nd).2 (by simpa using h1) (by simpa using h2) hk
theorem Mf {kindOf:y?->g? F0}{x:y?}{v:b_}:∀{P:b? y?}{vs:b? b_}{i:i_}{m:y?->g? b_},P.Nodup->P[i]?=some x->vs[i]?=some v->kindOf x≠some .local->acu kindOf (P.zip vs) m x=some v
 |[],_,_,_,_,h,_,_=>by simp at h
 |_::_,[],_,_,_,_,h,_=>by simp at h
 |p::P,w::vs,0,m,nd,h1,h2,hk=>by simp at h1 h2;subst h1;subst h2;show acu kindOf ((p,w)::P.zip vs) m p=_;unfold acu;rw[Md λv hv=>(W'.mp nd).1 (abG hv).1,j? hk];simp
 |p::P,w::vs,i+1,m,nd,h1,h2,hk=>by show acu kindOf ((p,w)::P.zip vs) m x=_;unfold acu;exact Mf (i:=i) (W'.mp nd).2 (by simpa using h1) (by simpa using h2) hk
noncomputable def start (N:b? y?)(vs:b? V):St:=vs.map some++B_ (N.length-vs.length) none
noncomputable def cZ (CX:fj)(P:D')(w:I?)(K:e?)(mg:y?->g? b_)(base:k?)(N:b? y?)(qual:y?)(scope:Ã)(f:c_)(cd:b_)(A:C_)(outer:b? Ţ)(s:d?)(H:Hp)(E:XK):Cx where
 prog:=P
 w:=w
 K:=K
 mg:=mg
 base:=base
 A:=A.deeper (È qual scope s.heap.objs.size f cd)
 N:=N
 ar:=s
 bh:=H
 env:=È qual scope s.heap.objs.size f cd
 outer:=outer
 stack:=È qual scope s.heap.objs.size f cd::outer
 ex:=[]
 calm:=true
 fn:=λ_=>true
 pn:=[]
 xe:=λe s'=>l_ (n_ P w) (A.deeper (È qual scope s.heap.objs.size f cd)) (adU (È qual scope s.heap.objs.size f cd) e) (λ_ bU=>CX outer H s E e bU) (λe' bU=>CX outer H s E e' bU) s'
theorem Mg {sc:Ã}{n:i_}{x:y?}(h:sc.names.lookup x=some .cell):∃c,(Ŭ n sc.names []).lookup x=some c:=by have q:=abd sc.names n [] (.inl h);exact g?.isSome_iff_exists.mp q
theorem Uz {CX:fj}{P:D'}{w:I?}{K:e?}{mg:y?->g? b_}{base:k?}{N ps:b? y?}{qual:y?}{scope:Ã}{f:c_}{cd:b_}{A:C_}{outer:b? Ţ}{s s1:d?}{H:Hp}{E:XK}{us:b? b_}{vs:b? V}(S:qd N ps scope)(hd:A.handled=none)(e0:oW P w K mg base A outer s H)(hl:vs.length=ps.length)(r:Vals vs us)(x:InCallC s s.heap.objs.size (acs (È qual scope s.heap.objs.size f cd).kindOf (ps.zip us) λ_=>none) (Ŭ (s.heap.objs.size+1) scope.names []) (acu (È qual scope s.heap.objs.size f cd).kindOf (ps.zip us) λ_=>none) s1):
  Inv (cZ CX P w K mg base N qual scope f cd A outer s H E) [] (start N vs) H s1:=by
 have cg:ps.length<=N.length:=by have:=X? Ĕ S.pre;rw[Ñ]at this;lia
 obtain⟨h1,tk,rfl,hk⟩:=x.done;have tP:∀b:c_,b∉(cZ CX P w K mg base N qual scope f cd A outer s H E).ex:=λb z=>w_ (show b∈([]:b? c_)from z) (by simp);refine⟨⟨e0.mod,S.kind,a_,a_,r_ _,λy z c h1 h2=>?_,λy hy=>?_,λy c _ h=>?_,λ_=>hd,C_.frames_deeper e0.frames,.inr ⟨a_,a_⟩,λb z=>w_ z (tP b),e0.bs,e0.jY,λb _ _=>tP b,λb z=>w_ z (tP b),e0.fg,e0.iM⟩,a_,e0.bare,Un.kept hk,⟨_,x.toInCall.ns,λi y v h1 h2 h3=>?_⟩,λy c h=>⟨_,x.cell y c h⟩,e0.ag.fresh (r_ _),λy c h=>?_,λp hp=>w_ (show p∈([]:b? (c_×L?))from hp) (by simp),e0.ag.kept hk,?_⟩
 .exact name_of_addr x.apart (ü h1) (ü h2)
 .have hy:scope.names.lookup y=some .cell\/scope.names.lookup y=some .free:=hy;rcases hy with hy|hy
  .exact Mg hy
  .exact w_ a_ (S.Uy _ (ü hy))
 .exact aam (x.above y c (ü h))
 .have hi:i<vs.length:=by
   unfold start at h2;by_cases hi:i<vs.length
   .exact hi
   .rw[ő (by simpa using hi)]at h2;rw[ų]at h2;split at h2<;>cases h2
  have ha:vs[i]?=some v:=by
   unfold start at h2;rw[Ś (by simpa using hi),y_]at h2;cases e:vs[i]? with
   |none=>rw[e]at h2;cases h2
   |some a=>rw[e]at h2;cases h2;rfl
  obtain⟨u,hu,rv⟩:=r.get ha;have hp:ps[i]?=some y:=by rw[<-S.pre,b?.getElem?_take_of_lt (by lia)];exact h1
  have Mh:ps.Nodup:=by rw[<-S.pre];exact S.nd.sublist (b?.take_sublist _ _)
  refine⟨u,rv,?_⟩;rcases S.par y (u_ hp)with k|k
  .exact .inl ⟨k,Me Mh hp hu k⟩
  .obtain⟨c,e⟩:=Mg (n:=s.heap.objs.size+1) k;refine .inr ⟨.inl k,c,e,?_⟩;have q:=x.cell y c e;rw[Mf Mh hp hu (by show scope.names.lookup y≠_;rw[k];decide)]at q;exact q
 .exact e0.ag.fresh (aam (x.above y c (ü h)))
 .unfold start;show _=N.length;rw[p_,g_,Ċ];lia
theorem Mi {CX:fj}{P:D'}{w:I?}{K:e?}{mg:y?->g? b_}{base:k?}{k:i_}{f:c_}{name qual:y?}{params:Arguments}{body:b? K?}{scope:Ã}{dV kV doc pm aD ct oc:b_}{an od:g? c_}{kG:E? (g? b_)}{N ps:b? y?}{sp:Sp}(lk:K.lookup f=some ⟨oc,od,.func (Ă name qual params body scope dV kV doc pm an aD ct),kG⟩)(eL:aae K aD qual=true)(S:qd N ps scope)(len:∀vs H Q E,sp vs H Q E->vs.length=ps.length)(aX:∀(A:C_)(outer:b? Ţ)(s:d?)(H:Hp)(vs:b? V)(Q:VK)(E:XK),aT k (A.deeper (È qual scope s.heap.objs.size f aD))->sp vs H Q E->∃t,cU (cZ CX P w K mg base N qual scope f aD A outer s H E) body t/\t {nx:=λ_ H'=>Q .aj H',rt:=Q} (start N vs) H):
  zv P w K mg base CX (k+1) f (Ă name qual params body scope dV kV doc pm an aD ct) ps sp:=by
 refine⟨len,λA outer s H args us vs Q E hr e0 hb r iB=>?_⟩;have hl:=len _ _ _ _ iB;have KX:K.In s.heap:=e0.mod.eJ.keeps λb o e=>(e0.bs b o e).1;have lim:s.heap.NoLimit:=e0.mod.nolimit.keeps λb o e=>(e0.bs b o e).1;have tQ:∀y∈ps.zip us,scope.names.lookup y.1=some .local\/(scope.names.lookup y.1=some .cell/\((Ŭ (s.heap.objs.size+1) scope.names []).lookup y.1).isSome=true):=λ⟨n,v⟩ hy=>by
  rcases S.par n (abG hy).1 with q|q
  .exact .inl q
  .exact .inr ⟨q,abd _ _ _ (.inl q)⟩
 refine codeAny_call_function hr.depth (KX _ _ lk) a_ S.co S.gen a_ (PySem.W.codeRec_of KX eL) (hb _ _ _ _ ?_);refine wpAny_newFunctionEnv_cells S.kind tQ λenv he s1 x=>?_;subst he;refine⟨lim.keeps x.toInCall.keep,codeAny_func ?_⟩;obtain⟨t,ht,hq⟩:=aX A outer s H vs Q E (hr.deeper _) iB;have I:Inv (cZ CX P w K mg base N qual scope f aD A outer s H E) [] (start N vs) H s1:=Uz S hr.hd e0 hl r x;refine G_ (ht [] s1 (start N vs) H _ I hq) (λfl s' hs=>?_) λe s' hs=>hs;have fin:∀{U':St}{H':Hp}{v:V}{u:b_},Inv (cZ CX P w K mg base N qual scope f aD A outer s H E) [] U' H' s'->RelV v u->Q v H'->CE outer P w H s Q u s':=λ{U' H' v u} J rv q=>(xa0 v H' ⟨J.os,J.bare,J.base,J.ag,rv,q⟩);cases fl with
 |ret u=>obtain⟨v,U',H',J,rv,q⟩:=hs;exact fin J rv q
 |next=>obtain⟨U',H',J,q⟩:=hs;exact fin (v:=V.aj) (u:=ė) J a_ q
 |brk=>obtain⟨_,_,_,q⟩:=hs;exact J? q
 |cont=>obtain⟨_,_,_,q⟩:=hs;exact J? q
section
variable {X:Cx}{x:y?}{p pos:ğ}{e:G?}{es:b? G?}{t:TA}{id T:ë}{r:b? V->Hp->VK->Prop}
noncomputable def Mj (r:b? V->Hp->VK->Prop)(t:TA):TE:=λ U H Q=>t U H λvs H1=>r vs H1 Q
theorem jo (hc:ef X (.builtin id) r)(hg:Gl X x)(hm:X.mg x=none)(hv:N_ x=some (.builtin id))(ha:PA X (e::es) t)(hn:e_ (x≠"__name__") aP2)(cI:e_ ((x==("__debug__":y?))=false) aP2)(he:e_ (x? (e::es) X.env=(false,U? e X.env)::x? es X.env) aP1)(cg:e_ ((W_ pos (x? es X.env)).any (·.1)=false) aP1):PE X (.Call (.Name x p) (e::es) [] pos) (Mj r t):=by
 intro pins s U H Q I h;refine ò (tm I hg hm hv ?_ hn cI);exact aeR (ah (ha pos pins s U H _ I h) λus s1 ⟨vs,H1,I1,r1,q1⟩=>hc pins s1 U H1 vs us Q I1 r1 q1) he cg
theorem gr (hc:ef X (.type T) r)(hg:Gl X x)(hm:X.mg x=none)(hv:N_ x=some (.type T))(ha:PA X (e::es) t)(hn:e_ (x≠"__name__") aP2)(cI:e_ ((x==("__debug__":y?))=false) aP2)(he:e_ (x? (e::es) X.env=(false,U? e X.env)::x? es X.env) aP1)(cg:e_ ((W_ pos (x? es X.env)).any (·.1)=false) aP1):PE X (.Call (.Name x p) (e::es) [] pos) (Mj r t):=by
 intro pins s U H Q I h;refine ò (tm I hg hm hv ?_ hn cI);exact ę (ah (ha pos pins s U H _ I h) λus s1 ⟨vs,H1,I1,r1,q1⟩=>hc pins s1 U H1 vs us Q I1 r1 q1) he cg
end
end L2
namespace HT
open PySem PyProof.Rows
noncomputable def lexLt:b? f?->b? f?->o?
 |[],[]=>false
 |[],_::_=>true
 |_::_,[]=>false
 |x::xs,y::ys=>if x=y then lexLt xs ys else s? (x<y)
theorem oX (x y:f?)(xs ys:b? f?):lexLt (x::xs) (y::ys)=if x=y then lexLt xs ys else s? (x<y):=a_
theorem UA:lexLt [] []=false:=a_
theorem UB (y:f?)(ys:b? f?):lexLt [] (y::ys)=true:=a_
theorem UC (x:f?)(xs:b? f?):lexLt (x::xs) []=false:=a_
theorem UD (A:C_)(s:d?)(a:f?)(t:Tok)(c:f?)(u:Tok):∃e,m? A s (.int a t) (.int c u) e/\(e=true↔a=c):=⟨(a==c),acX a t c u,by simp⟩
theorem UE (A:C_)(s:d?)(a:f?)(t:Tok)(c:f?)(u:Tok)(prog:D')(w:I?)(E:b_->d?->Prop)(Q:b_->d?->Prop)(h:Q (.bool (s? (a<c))) s):l_ (n_ prog w) A (abm .Lt (.int a t) (.int c u)) Q E s:=(aaz h:l_ (n_ prog w) A (Q_ .Lt (.int a t) (.int c u)) Q E s)
section
open PySem.SeqAt
open PySem.AutoSeq1 (wpAny_loadPart')
open PySem.MeetsSeq PySem.MeetsSeq2 PySem.MeetsSeq3
theorem UG (l b:c_)(items aU:E? b_)(n n2:i_)(dd DD:g? c_)(sl tR:E? (g? b_))(ns ms:b? f?)(hi:Y? items.toList ns)(hj:Y? aU.toList ms):Meets (Builtin.«tuple.__lt__» ⟨[.ref l,.ref b],[]⟩) (λ_ R s=>s.heap.get? l=some {cls:=.type "tuple",dict:=dd,data:=.seq items n,slots:=sl}/\s.heap.get? b=some {cls:=.type "tuple",dict:=DD,data:=.seq aU n2,slots:=tR}/\R (.ok (.ret (.bool (lexLt ns ms)))) s):=
 .of_wp λprog w A R s h=>by
  obtain⟨hp,g,d,tk,os⟩:=s;obtain⟨hl,hb,h⟩:=h;have f2:=AutoSeq1.sub_tuple_tuple;have z1:items.size=ns.length:=by rw[<-hi.length];simp
  have z2:aU.size=ms.length:=by rw[<-hj.length];simp
  wp_walk using wpAny_loadPart' hl,wpAny_loadPart' hb,wpAny_forIn_list _ (λrest b s'=>b.1=none/\s'=⟨hp,g,d,tk,os⟩/\∃(vs ws:b? b_)(lU rJ:b? f?),rest=vs.zip ws/\Y? vs lU/\Y? ws rJ/\lU.length+aU.size=rJ.length+items.size/\R (.ok (.ret (.bool (lexLt lU rJ)))) ⟨hp,g,d,tk,os⟩) _;case turn=>
   rintro⟨y,x⟩ rest b s' ⟨fJ,rfl,vs,ws,lU,rJ,hz,DE,Ab,hlen,hR⟩
   cases DE with
   |nil=>rw[b?.zip_nil_left]at hz;cases hz
   | cons a t DF=>
    cases Ab with
    |nil=>rw[adp]at hz;cases hz
    |cons c u DG=>
     rw[aaM]at hz;injection hz with UH cJ;injection UH with hy hx;subst hy hx;rw[oX]at hR;simp only[C?]at hlen;obtain⟨e,he,tS⟩:=UD A.in1 ⟨hp,g,d,tk,os⟩ a t c u;refine d_ (he prog w _ _ ?_);cases e with
     |true=>rw[m_ (tS.mp a_)]at hR;wp_walk;exact⟨a_,a_,xa2 _ _ _ _ ⟨cJ,DF,DG,by lia,hR⟩⟩
     |false=>rw[j? (λq=>w_ (tS.mpr q) t?)]at hR;have UI:=UE A.in1 ⟨hp,g,d,tk,os⟩ a t c u prog w;wp_walk using UI;exact⟨_,a_,by simpa using hR⟩
  case fin=>
   rintro⟨b1,b2⟩ s' ⟨fJ,rfl,vs,ws,lU,rJ,hz,DE,Ab,hlen,hR⟩
   simp only at fJ;subst fJ;have hv:lexLt lU rJ=s? (items.size<aU.size):=by
    cases DE with
    |nil=>
     cases Ab with
     |nil=>simp only[ź]at hlen;rw[UA];exact(z? (by lia)).symm
     |cons c u hw=>simp only[ź,C?]at hlen;rw[UB];exact(i? (by lia)).symm
    |cons a t hv=>
     cases Ab with
     |nil=>simp only[ź,C?]at hlen;rw[UC];exact(z? (by lia)).symm
     |cons c u hw=>rw[aaM]at hz;cases hz
   rw[hv]at hR;wp_walk;exact⟨_,a_,by simpa[Ü.Tuple.tupleCompareSizes]using hR⟩
  case h=>exact⟨a_,a_,xa2 items.toList aU.toList ns ms ⟨a_,hi,hj,by lia,h⟩⟩
end
section
variable {prog:D'}{w:I?}{A:C_}{E:b_->d?->Prop}{s:d?}
theorem UJ {l b:c_}{items aU:E? b_}{ns ms:b? f?}{Q:b_->d?->Prop}(hl:adh s.heap l items)(hb:adh s.heap b aU)(hi:Y? items.toList ns)(hj:Y? aU.toList ms)(hu:A.units<Â)(h:Q (.bool (lexLt ns ms)) s):l_ (n_ prog w) A (Q_ .Lt (.ref l) (.ref b)) Q E s:=by
 obtain⟨⟨cls,dd,data,sl⟩,ho,hc,n,hd⟩:=id hl;obtain⟨⟨UK,DD,data2,tR⟩,iW,eN,n2,hd2⟩:=id hb;simp only at hc hd eN hd2;subst hc hd eN hd2;exact richCompare_meets_room (op:=.Lt) ⟨_,ho,a_⟩ ⟨_,iW,a_⟩ PySem.F.slot_tuple_lt PySem.F.entry_tuple_lt (PySem.F.args_tuple_lt_2 _ _) (UG l b items aU n n2 dd DD sl tR ns ms hi hj) ⟨ho,iW,show Å (lexLt ns ms)≠b_.notImplemented/\Q (.bool (lexLt ns ms)) s from⟨(λx=>nomatch x),h⟩⟩ hu
end
end HT
namespace L2
open PySem PySem.Spec PyProof.Rows
theorem intsAre_of {ns:b? f?}:∀{us:b? b_},Vals (ns.map V.int) us->Y? us ns:=by
 induction ns with
 |nil=>intro us r;rw[ĉ]at r;cases r;exact .nil
 |cons n ns ih=>
  intro us r;rw[A_]at r;cases r with
  |cons r1 r2=>obtain⟨t,e⟩:=r1;subst e;exact .cons n t (ih r2)
noncomputable def mY (n:i_)(i:f?):g? i_:=if 0<=i then(if i<n then some i.toNat else none)else if-(n:f?)<=i then some (i+n).toNat else none
noncomputable def mZ {α:Type}(xs:b? α)(i:f?):g? α:=(mY xs.length i).bind λj=>xs[j]?
theorem Ml {n:i_}{i:f?}{j:i_}(h:mY n i=some j):acp i n=some j/\j<n/\-(n:f?)<=i/\i<n:=by
 unfold mY at h;by_cases h0:0<=i
 .rw[m_ h0]at h;by_cases h1:i<n
  .rw[m_ h1]at h;have e:i.toNat=j:=s_ h;exact⟨by rw[ac8 h0 h1,e],by lia,by lia,h1⟩
  .rw[j? h1]at h;cases h
 .rw[j? h0]at h;by_cases h1:-(n:f?)<=i
  .rw[m_ h1]at h;have e:(i+n).toNat=j:=s_ h;exact⟨by rw[acD (by lia) h1,e],by lia,h1,by lia⟩
  .rw[j? h1]at h;cases h
theorem Mm {α:Type}{xs:b? α}{i:f?}{v:α}(h:mZ xs i=some v):∃j,acp i xs.length=some j/\xs[j]?=some v/\j<xs.length/\-(xs.length:f?)<=i/\i<xs.length:=by
 unfold mZ at h;cases e:mY xs.length i with
 |none=>rw[e]at h;cases h
 |some j=>rw[e]at h;obtain⟨h1,h2,h3,h4⟩:=Ml e;exact⟨j,h1,h,h2,h3,h4⟩
noncomputable def UL (b:G?):Prop:=∀o i,abl b false o i=operate [o,i] (abA o i)
noncomputable def tT (X:Cx)(r:R2):Prop:=∀(value slice:G?)(pins:b? (c_×L?))(s:d?)(U:St)(H:Hp)(x y:V)(v u:b_)(Q:VK),Inv X pins U H s->RelV x v->RelV y u->r x y H Q->abl slice false v u=operate [v,u] (abA v u)->l_ (n_ X.prog X.w) X.A (afx value slice v u) (EP X pins U Q) X.xe s
noncomputable def tU (X:Cx)(id:ë)(r:V->b? V->Hp->VK->Prop):Prop:=∀(pins:b? (c_×L?))(s:d?)(U:St)(H:Hp)(x:V)(xs:b? V)(v:b_)(us:b? b_)(Q:VK),Inv X pins U H s->RelV x v->Vals xs us->r x xs H Q->l_ (n_ X.prog X.w) X.A (ħ (.builtin id) (v::us)) (EP X pins U Q) X.xe s
section
variable {X:Cx}{a b:G?}{ta tb:TE}{pos:ğ}
theorem gb {r:R2}(hr:tT X r)(ha:PE X a ta)(hb:PE X b tb)(hs:UL b):PE X (.Subscript a b pos) (zS r ta tb):=by intro pins s U H Q I h;exact Subscript_ (Dp ha hb I h λv u s2 x y H2 I2 rx ry q=>hr a b pins s2 U H2 x y v u Q I2 rx ry q (hs _ _))
noncomputable def Mn (K:e?):R2:=λx y H Q=>∃p xs i v,x= .ref p/\y= .int i/\af K H p xs/\mZ xs i=some v/\Q v H
noncomputable def Mp (K:e?):R2:=λx y H Q=>∃p xs i v,x= .ref p/\y= .int i/\az K H p xs/\mZ xs i=some v/\Q v H
theorem yr:tT X (Mn X.K):=by
 intro value slice pins s U H x y v u Q I rx ry h hs;obtain⟨p,xs,i,z,rfl,rfl,hq,he,q⟩:=h;cases rx;obtain⟨t,rfl⟩:=ry;obtain⟨its,r,pl,hz⟩:=I.list hq;obtain⟨j,h1,h2,h3,h4,h5⟩:=Mm he;obtain⟨w,ew,cz⟩:=r.get h2;have hl:=r.length;have hn:=lR;have fin:EP X pins U Q w s:=(xa0 z H ⟨I,cz,q⟩);by_cases h0:0<=i
 .have hj:i.toNat=j:=by
   rw[ac8 h0 h5]at h1;exact s_ h1
  exact item_listR pl.isList h0 (by lia) (by rw[hj];simpa using ew) fin hs
 .have hj:(i+(its.toArray.size:f?)).toNat=j:=by
   rw[acD (by lia) h4]at h1;rw[G',<-hl];exact s_ h1
  exact acI (x:=w) pl.isList.typeIs slot_list_getitem.lookup (wpAny_getItem_list_neg (Q:=λr s'=>r=w/\EP X pins U Q r s') pl.isList (by lia) (by rw[G']<;>lia) (by lia) (by rw[hj];simpa using ew) ⟨a_,fin⟩) hs
theorem gY:tT X (Mp X.K):=by
 intro value slice pins s U H x y v u Q I rx ry h hs;obtain⟨p,xs,i,z,rfl,rfl,hq,he,q⟩:=h;cases rx;obtain⟨t,rfl⟩:=ry;obtain⟨its,r,pl,hz⟩:=I.tuple hq;obtain⟨j,h1,h2,h3,h4,h5⟩:=Mm he;obtain⟨w,ew,cz⟩:=r.get h2;have hl:=r.length;have hn:=lR;have fin:EP X pins U Q w s:=(xa0 z H ⟨I,cz,q⟩);exact acI (x:=w) pl.typeIs slot_tuple_getitem.lookup (getItem_tuple (j:=j) (Q:=λr s'=>r=w/\EP X pins U Q r s') pl (by lia) (by lia) (by rw[G',<-hl];exact h1) (by simpa using ew) ⟨a_,fin⟩) hs
theorem UM (its:b? b_)(n j:i_)(u:b_):X' (·.setIfInBounds j u) {cls:=.type "list",data:=.seq its.toArray n}={cls:=.type "list",data:=.seq (its.set j u).toArray n}:=by simp[X']
theorem Inv.lst {pins:b? (c_×L?)}{U:St}{H:Hp}{s:d?}{p:c_}{xs:b? V}(I:Inv X pins U H s)(h:H p=some (.lst xs)):∃(its:b? b_)(n:i_),Vals xs its/\s.heap.get? p=some {cls:=.type "list",data:=.seq its.toArray n}/\xs.length<=k_:=by
 obtain⟨z,its,n,r,e⟩:=I.ag p _ h;exact(xa0 its n ⟨r,e,z⟩)
theorem Inv.UN {pins:b? (c_×L?)}{U:St}{H:Hp}{s:d?}{p:c_}{xs ys:b? V}{its its':b? b_}{n n':i_}{f:L?->L?}(I:Inv X pins U H s)(h:H p=some (.lst xs))(ho:s.heap.get? p=some {cls:=.type "list",data:=.seq its.toArray n})(hf:f {cls:=.type "list",data:=.seq its.toArray n}={cls:=.type "list",data:=.seq its'.toArray n'})(r:Vals ys its')(hz:ys.length<=k_)(t:i_):
  Inv X pins U (upd H p (.lst ys)) {s with heap:=s.heap.update p f,toks:=t}:=by
 have e:(s.heap.update p f).get? p=some {cls:=.type "list",data:=.seq its'.toArray n'}:=by rw[R? f ho (by rw[hf]<;>rfl),hf]
 refine I.write (x:=p) (e:=p) (by rw[h];trivial) (.inl a_) (λb u hb q=>(Û _ _ (M_ hb)).trans q) ⟨_,e⟩ ?_;exact⟨hz,xa0 its' n' ⟨r,e⟩⟩
noncomputable def UO:V->V->V->Hp->(Hp->Prop)->Prop:=λo i v H Q=>∃p xs k j,o= .ref p/\i= .int k/\H p=some (.lst xs)/\mY xs.length k=some j/\Q (upd H p (.lst (xs.set j v)))
theorem set_list:Dh X UO:=by
 intro pins s U H o i v ov iv u Q I ro ri rv h;obtain⟨p,xs,k,j,rfl,rfl,hp,hj,q⟩:=h;cases ro;obtain⟨t,rfl⟩:=ri;obtain⟨its,n,r,ho,hz⟩:=I.lst hp;obtain⟨h1,h2,h3,h4⟩:=Ml hj;have hl:=r.length;have hn:=lR;have I':Inv X pins U (upd H p (.lst (xs.set j v))) {s with heap:=s.heap.update p (X' (·.setIfInBounds j u))}:=I.UN hp ho (UM its n j u) (r.set rv j) (by rw[Ź];exact hz) s.toks;by_cases h0:0<=k
 .have hk:k.toNat=j:=by
   rw[ac8 h0 h4]at h1;exact s_ h1
  exact PySem.W.ki_setAt ho h0 (by lia) (by rw[G',<-hl];exact h4) (by rw[hk];exact⟨_,I',q⟩)
 .have hk:(k+(its.toArray.size:f?)).toNat=j:=by
   rw[acD (by lia) h3]at h1;rw[G',<-hl];exact s_ h1
  exact PySem.W.ki_setBack ho (by lia) (by rw[G',<-hl];exact h3) (by lia) (by rw[hk];exact⟨_,I',q⟩)
noncomputable def lV:V->o?
 | .aj=>true
 | .bl _=>true
 | .int _=>true
 | .str _=>true
 |_=>false
noncomputable def ni:V->V->o?
 | .aj,.aj=>true
 | .bl a,.bl b=>a==b
 | .bl a,.int b=>(if a then 1 else 0)==b
 | .int a,.bl b=>a==(if b then 1 else 0)
 | .int a,.int b=>a==b
 | .str a,.str b=>a==b
 |_,_=>false
theorem UP {A:C_}{s:d?}{y x:V}{u v:b_}(ry:RelV y u)(rx:RelV x v)(fy:lV y=true)(fx:lV x=true):m? A s u v (ni y x):=by
 cases y with
 |aj=>
  cases ry;cases x with
  |aj=>cases rx;exact adb _
  |bl b=>cases rx;exact aey b
  |int b=>obtain⟨t,rfl⟩:=rx;exact afa b t
  |str b=>obtain⟨t,rfl⟩:=rx;exact ae9 b t
  |_=>exact w_ (show false=true from fx) t?
 |bl a=>
  cases ry;cases x with
  |aj=>cases rx;exact aez a
  |bl b=>cases rx;exact aca a b
  |int b=>obtain⟨t,rfl⟩:=rx;exact afe a b t
  |str b=>obtain⟨t,rfl⟩:=rx;exact afd a b t
  |_=>exact w_ (show false=true from fx) t?
 |int a=>
  obtain⟨t',rfl⟩:=ry;cases x with
  |aj=>cases rx;exact afb a t'
  |bl b=>cases rx;exact afc a t' b
  |int b=>obtain⟨t,rfl⟩:=rx;exact acX a t' b t
  |str b=>obtain⟨t,rfl⟩:=rx;exact acW a t' b t
  |_=>exact w_ (show false=true from fx) t?
 |str a=>
  obtain⟨t',rfl⟩:=ry;cases x with
  |aj=>cases rx;exact ae7 a t'
  |bl b=>cases rx;exact ae8 a t' b
  |int b=>obtain⟨t,rfl⟩:=rx;exact acU a t' b t
  |str b=>obtain⟨t,rfl⟩:=rx;exact afu a t' b t
  |_=>exact w_ (show false=true from fx) t?
 |_=>exact w_ (show false=true from fy) t?
noncomputable def fK (x:V)(u:b_):o?:=match u with
 | .none=>ni .aj x
 | .bool b=>ni (.bl b) x
 | .int i _=>ni (.int i) x
 | .str z _=>ni (.str z) x
 |_=>false
theorem Mq {x y:V}{u:b_}(r:RelV y u)(f:lV y=true):fK x u=ni y x:=by
 cases y with
 |aj=>cases r;rfl
 |bl b=>cases r;rfl
 |int i=>obtain⟨t,rfl⟩:=r;rfl
 |str z=>obtain⟨t,rfl⟩:=r;rfl
 |_=>exact w_ (show false=true from f) t?
theorem tV {x:V}:∀{xs:b? V}{us:b? b_},Vals xs us->xs.all lV=true->us.any (fK x)=xs.any λy=>ni y x
 |_,_,.nil,_=>a_
 |y::xs,u::us,.cons r t,f=>by rw[acz,L_]at f;rw[ű,ű,Mq r f.1,tV t f.2]
theorem tW {A:C_}{s:d?}{x:V}{v:b_}(rx:RelV x v)(fx:lV x=true):∀{xs:b? V}{us:b? b_},Vals xs us->xs.all lV=true->∀u∈us,m? A s u v (fK x u)
 |_,_,.nil,_=>λu hu=>by cases hu
 |y::xs,u::us,.cons r t,f=>λu' hu=>by
  rw[acz,L_]at f;rcases D?.mp hu with rfl|hu
  .rw[Mq r f.1];exact UP r rx f.1 fx
  .exact tW rx fx t f.2 u' hu
noncomputable def Ac (x:V)(xs:b? V):o?:=xs.any λy=>ni y x
noncomputable def DH (K:e?)(neg:o?):R2:=λx y H Q=>∃p xs,y= .ref p/\(af K H p xs\/az K H p xs)/\lV x=true/\xs.all lV=true/\Q (.bl (if neg then !Ac x xs else Ac x xs)) H
theorem Mr:bz X (Q_ .In) (DH X.K false):=by
 intro pins s U H x y v u Q I rx ry h;obtain⟨p,xs,rfl,hq,fx,fs,q⟩:=h;cases ry;rcases hq with hq|hq
 .obtain⟨its,r,pl,hz⟩:=I.list hq;refine acT (fK x) pl.isList (λw hw=>tW rx fx r fs w (by simpa using hw)) (xa0 (.bl _) H ⟨I,a_,?_⟩);rw[show its.toArray.any (fK x)=its.any (fK x)by simp,tV r fs];exact q
 .obtain⟨its,r,pl,hz⟩:=I.tuple hq;refine SeqAt.in_tupleAt (fK x) pl (λw hw=>tW rx fx r fs w (by simpa using hw)) (xa0 (.bl _) H ⟨I,a_,?_⟩);rw[show its.toArray.any (fK x)=its.any (fK x)by simp,tV r fs];exact q
theorem Ae:bz X (Q_ .NotIn) (DH X.K true):=by
 intro pins s U H x y v u Q I rx ry h;obtain⟨p,xs,rfl,hq,fx,fs,q⟩:=h;cases ry;rcases hq with hq|hq
 .obtain⟨its,r,pl,hz⟩:=I.list hq;refine ack (fK x) pl.isList (λw hw=>tW rx fx r fs w (by simpa using hw)) (xa0 (.bl _) H ⟨I,a_,?_⟩);rw[show its.toArray.any (fK x)=its.any (fK x)by simp,tV r fs];exact q
 .obtain⟨its,r,pl,hz⟩:=I.tuple hq;refine SeqAt.notIn_tupleAt (fK x) pl (λw hw=>tW rx fx r fs w (by simpa using hw)) (xa0 (.bl _) H ⟨I,a_,?_⟩);rw[show its.toArray.any (fK x)=its.any (fK x)by simp,tV r fs];exact q
theorem jw:ef X (.builtin "len") (λxs H Q=>∃p ys,xs=[.ref p]/\(af X.K H p ys\/az X.K H p ys)/\Q (.int ys.length) H):=by
 intro pins s U H xs us Q I r h;obtain⟨p,ys,rfl,hq,q⟩:=h;obtain⟨u,rfl,rx⟩:=vals1 r;cases rx;have hn:=lR;rcases hq with hq|hq
 .obtain⟨its,r',pl,hz⟩:=I.list hq;have hlen:=r'.length;exact Calls.call_len_list pl.isList (by simp only[G']<;>lia) (xa0 (.int ys.length) H ⟨I.tok _,⟨s.toks+1,by rw[G',hlen]⟩,q⟩)
 .obtain⟨its,r',pl,hz⟩:=I.tuple hq;have hlen:=r'.length;exact len_tuple pl (by simp only[G']<;>lia) (xa0 (.int ys.length) H ⟨I.tok _,⟨s.toks+1,by rw[G',hlen]⟩,q⟩)
theorem ya:ef X (.type "list") (λxs H Q=>∃p ys,xs=[.ref p]/\(af X.K H p ys\/az X.K H p ys)/\∀l,H l=none->Q (.ref l) (upd H l (.lst ys))):=by
 intro pins s U H xs us Q I r h;obtain⟨p,ys,rfl,hq,q⟩:=h;obtain⟨u,rfl,rx⟩:=vals1 r;cases rx;have fin:∀(its:b? b_),Vals ys its->ys.length<=k_->∀(h':k?)(c':i_),(∀b o',s.heap.get? b=some o'->h'.get? b=some o')->h'.get? s.heap.objs.size=some {cls:=.type "list",dict:=none,data:=.seq its.toArray c',slots:=#[]}->EP X pins U Q (.ref s.heap.objs.size) {s with heap:=h'}:=λits r' hz h' c' kp e=>(xa0 (.ref s.heap.objs.size) _ ⟨I.laid (t':=s.toks) kp (r_ _) (show wg X.prog X.w _ h' _ (.lst ys)from⟨hz,xa0 its c' ⟨r',e⟩⟩),a_,q _ (I.ag.fresh (r_ _))⟩);rcases hq with hq|hq
 .obtain⟨its,r',pl,hz⟩:=I.list hq;have hlen:=r'.length;obtain⟨o,ho,hc,n,hd⟩:=pl.isList;exact afs p (.inl a_) ho hc hd (λh' c' kp e=>fin its r' hz h' c' kp e) (by simp only[G']<;>lia)
 .obtain⟨its,r',pl,hz⟩:=I.tuple hq;have hlen:=r'.length;obtain⟨o,ho,hc,n,hd⟩:=pl;exact afs p (.inr a_) ho hc hd (λh' c' kp e=>fin its r' hz h' c' kp e) (by simp only[G']<;>lia)
noncomputable def DI (K:e?)(T:ë)(x:V)(H:Hp):Prop:=match x with
 | .str _=>T="str"
 | .int _=>T="int"
 | .ref p=>(T="list"/\∃xs,af K H p xs)\/(T="tuple"/\∃o,K.lookup p=some o/\o.cls= .type "tuple"/\o.dict=none)\/(T="dict"/\((∃kvs,H p=some (.dK kvs))\/∃kvs,H p=some (.dT kvs)))\/(T="set"/\∃S n,H p=some (.set S n))
 |_=>w?
theorem Ms {pins:b? (c_×L?)}{U:St}{H:Hp}{s:d?}{T:ë}{x:V}{v:b_}(I:Inv X pins U H s)(r:RelV x v)(ty:DI X.K T x H):s.TypeIs v T/\∀a,v= .ref a->∃ob,s.heap.get? a=some ob/\ob.dict=none:=by
 cases x with
 |str z=>obtain⟨t,rfl⟩:=r;cases(show T="str"from ty);exact⟨typeIs_str s z t,λ_ e=>nomatch e⟩
 |int i=>obtain⟨t,rfl⟩:=r;cases(show T="int"from ty);exact⟨adz s i t,λ_ e=>nomatch e⟩
 | ref p=>
  cases r;rcases ty with⟨rfl,xs,hq⟩|⟨rfl,o,hk,hc,hd⟩|⟨rfl,hk⟩|⟨rfl,S,n,hk⟩
  .obtain⟨its,_,pl,_⟩:=I.list hq;refine⟨pl.isList.typeIs,λa e=>?_⟩;cases e;obtain⟨o,n,e,c,hd,_⟩:=pl;exact⟨o,e,hd⟩
  .refine⟨⟨o,I.aS p o hk,hc⟩,λa e=>?_⟩;cases e;exact⟨o,I.aS _ o hk,hd⟩
  .have z:∃o,s.heap.get? p=some o/\o.ExactDict:=by
    rcases hk with⟨kvs,hk⟩|⟨kvs,hk⟩
    .obtain⟨_,_,_,_,o,_,_,e,ex,_⟩:=I.ag p _ hk;exact⟨o,e,ex⟩
    .obtain⟨_,_,_,_,o,_,_,e,ex,_⟩:=I.ag p _ hk;exact⟨o,e,ex⟩
   obtain⟨o,e,ex⟩:=z;refine⟨⟨o,e,ex.1⟩,λa e2=>?_⟩;cases e2;exact⟨o,e,ex.2.1⟩
  .obtain⟨o,_,_,_,e,ex,_⟩:=I.ag p _ hk;refine⟨⟨o,e,ex.1⟩,λa e2=>?_⟩;cases e2;exact⟨o,e,ex.2.1⟩
 |_=>exact J? ty
noncomputable def UQ (K:e?)(T:ë)(r:V->b? V->Hp->VK->Prop)(to:TE):TE:=λ U H Q=>to U H λx H1=>DI K T x H1/\r x [] H1 Q
noncomputable def UR (K:e?)(T:ë)(r:V->b? V->Hp->VK->Prop)(to:TE)(t:TA):TE:=λ U H Q=>to U H λx H1=>DI K T x H1/\t U H1 λxs H2=>r x xs H2 Q
variable {o e:G?}{es:b? G?}{to:TE}{t:TA}{name:y?}{apos av:ğ}{T id:ë}{r:V->b? V->Hp->VK->Prop}
theorem US (pa:PlainAttrs T)(slot:Slot T name id)(DJ:ady (.builtin id)=ó (.type "method_descriptor"))(hm:tU X id r)(ho:PE X o to)(eO:e_ (Ē o name X.env (U? o X.env)=U? o X.env) aP1)(iX:e_ ((apos.endLine==av.line)=true) aP1):PE X (.Call (.Attribute o name apos) [] [] av) (UQ X.K T r to):=by
 intro pins s U H Q I h;refine wpAny_Call_method0_late eO iX (ah (ho pins s U H _ I h) λv s1 zQ=>?_);obtain⟨x,H1,I1,r1,ty,q1⟩:=zQ;obtain⟨h1,h2⟩:=Ms I1 r1 ty;exact(xa0 T id ⟨pa,slot,DJ,h1,h2,å a_ (PySem.evalArgs_none (hm pins s1 U H1 x [] v [] Q I1 r1 .nil q1))⟩)
theorem fq (pa:PlainAttrs T)(slot:Slot T name id)(DJ:ady (.builtin id)=ó (.type "method_descriptor"))(hm:tU X id r)(ho:PE X o to)(ha:PA X (e::es) t)(eO:e_ (Ē o name X.env (U? o X.env)=U? o X.env) aP1)(DL:e_ (((W_ av (x? (e::es) X.env)).all (λx=>!x.1)&&(Ö av (U_ [] X.env)).all (λx=>x.1.isSome)&&s? ((e::es).length+([]:b? Ŷ).length+(if([]:b? Ŷ).isEmpty then 0 else 1)<30))=true) aP1)(iX:e_ ((apos.endLine==av.line)=true) aP1)(hs:e_ (x? (e::es) X.env=(false,U? e X.env)::x? es X.env) aP1)(oY:e_ ((W_ av (x? es X.env)).any (·.1)=false) aP1):
  PE X (.Call (.Attribute o name apos) (e::es) [] av) (UR X.K T r to t):=by
 intro pins s U H Q I h;refine wpAny_Call_method_late eO DL iX a_ (ah (ho pins s U H _ I h) λv s1 zQ=>?_);obtain⟨x,H1,I1,r1,ty,q1⟩:=zQ;obtain⟨h1,h2⟩:=Ms I1 r1 ty;refine(xa0 T id ⟨pa,slot,DJ,h1,h2,?_⟩);have hA:=ha av pins s1 U H1 _ I1 q1;rw[hs]at hA⊢;refine å (by show(false||(W_ av (x? es X.env)).any (·.1))=false;rw[oY]<;>rfl) (Ø ?_);exact ah hA λus s2 ⟨vs,H2,I2,r2,q2⟩=>hm pins s2 U H2 x vs v us Q I2 r1 r2 q2
end
noncomputable def DM (X:Cx)(id:ë)(r:V->b? V->Hp->VK->Prop):Prop:=∀(pins:b? (c_×L?))(s:d?)(U:St)(H:Hp)(x:V)(xs:b? V)(v:b_)(us:b? b_)(Q:VK),Inv X pins U H s->RelV x v->Vals xs us->r x xs H Q->l_ (n_ X.prog X.w) X.A (ħ (.builtin id) (v::us)) (EP X pins U Q) X.xe s
theorem Vals.one:∀{x:V}{us:b? b_},Vals [x] us->∃u,us=[u]/\RelV x u:=λ{x us} p=>by
 cases p with
 |cons r t=>cases t;exact⟨_,a_,r⟩
theorem Vals.eraseIdx:∀{xs:b? V}{us:b? b_}(i:i_),Vals xs us->Vals (xs.eraseIdx i) (us.eraseIdx i)
 |_,_,_,.nil=>.nil
 |_,_,0,.cons _ t=>t
 |_,_,i+1,.cons r t=>.cons r (Vals.eraseIdx i t)
theorem Vals.rep {xs:b? V}{us:b? b_}(h:Vals xs us):∀k:i_,Vals (B_ k xs).flatten (B_ k us).flatten
 |0=>.nil
 |k+1=>by rw[Ù,Ù,ń,ń];exact Vals.append h (Vals.rep h k)
theorem Mt {α:Type}:∀(l:b? α)(i:i_),(l.eraseIdx i).length<=l.length
 |[],_=>r_ _
 |_::_,0=>Ÿ _
 |_::r,i+1=>adH (Mt r i)
theorem foldl_rep (its:b? b_):∀(k:i_)(acc:b? b_),ad5 (λx1 x2=>x1++x2) acc.toArray (B_ k its.toArray)=(acc++(B_ k its).flatten).toArray
 |0,acc=>by simp
 |k+1,acc=>by
  have e:acc.toArray++its.toArray=(acc++its).toArray:=by simp
  have e2:(acc++its)++(B_ k its).flatten=acc++(B_ (k+1) its).flatten:=by rw[Ù,ń,aa8]
  rw[<-e2,<-foldl_rep its k (acc++its),<-e,Ù,Ż]
section
variable {X:Cx}{pins:b? (c_×L?)}{U:St}{H:Hp}{s:d?}{l b:c_}{xs ys zs:b? V}
theorem Inv.DO {its its':b? b_}{n:i_}{f:E? b_->E? b_}{t':i_}(I:Inv X pins U H s)(hH:H l=some (.lst xs))(e:s.heap.get? l=some {cls:=.type "list",data:=.seq its.toArray n})(hf:f its.toArray=its'.toArray)(hv:Vals ys its')(hz:ys.length<=k_):
  Inv X pins U (upd H l (.lst ys)) {s with heap:=s.heap.update l (X' f),toks:=t'}:=by
 have q:=PySem.IsL.update e f;rw[hf]at q;refine I.write (x:=l) (e:=l) (by rw[hH];exact trivial) (.inl a_) (λb' u hb hu=>(Û s.heap (X' f) (M_ hb)).trans hu) ⟨_,q⟩ ?_;exact⟨hz,xa0 its' _ ⟨hv,q⟩⟩
theorem Inv.Mu {its:b? b_}{t':i_}(I:Inv X pins U H s)(hv:Vals ys its)(hz:ys.length<=k_):Inv X pins U (upd H s.heap.objs.size (.lst ys)) {s with heap:=s.heap.push {cls:=.type "list",data:=.seq its.toArray},toks:=t'}:=
 I.laid (λ_ _ q=>f_ _ q) (r_ _) ⟨hz,xa0 its 0 ⟨hv,v? _ a_⟩⟩
theorem Inv.fresh (I:Inv X pins U H s):H s.heap.objs.size=none:=I.ag.fresh (r_ _)
theorem Inv.rK (I:Inv X pins U H s)(hH:H l=some (.lst xs)):xs.length<=k_/\∃(its:b? b_)(n:i_),Vals xs its/\xs.length=its.length/\s.heap.get? l=some {cls:=.type "list",data:=.seq its.toArray n}:=by obtain⟨z,its,n,r,e⟩:=I.ag l _ hH;exact⟨z,xa0 its n ⟨r,r.length,e⟩⟩
theorem UT {n:i_}(h:n<=k_):ů n=false:=by unfold ů;exact z? (by lia)
end
section
variable {X:Cx}
noncomputable def UU:V->b? V->Hp->VK->Prop:=λx vs H Q=>∃l xs y,x= .ref l/\vs=[y]/\H l=some (.lst xs)/\xs.length<k_/\Q .aj (upd H l (.lst (xs++[y])))
theorem y8:DM X "list.append" UU:=by intro pins s U H x vs v us Q I rx rv h;obtain⟨l,xs,y,rfl,rfl,hH,hz,q⟩:=h;cases rx;obtain⟨u,rfl,ru⟩:=rv.one;obtain⟨z,its,n,r,hl,e⟩:=I.rK hH;refine ň E_ ⟨_,e,a_⟩ F.entry_list_append (F.args_list_append_2 _ _) (PySem.list_append l its.toArray n u (by rw[G'];lia)) ⟨e,?_⟩;refine(xa0 .aj _ ⟨I.DO (its':=its++[u]) hH e (by simp) (r.append (.cons ru .nil)) ?_,a_,q⟩);rw[p_,acM];lia
noncomputable def UW:V->b? V->Hp->VK->Prop:=λx vs H Q=>∃l xs i k y,x= .ref l/\vs=[.int i]/\H l=some (.lst xs)/\-(2^63)<=i/\i<2^63/\acp i xs.length=some k/\xs[k]?=some y/\Q y (upd H l (.lst (xs.eraseIdx k)))
theorem UX:DM X "list.pop" UW:=by
 intro pins s U H x vs v us Q I rx rv h;obtain⟨l,xs,i,k,y,rfl,rfl,hH,h1,h2,hk,hy,q⟩:=h;cases rx;obtain⟨u,rfl,ru⟩:=rv.one;obtain⟨t,rfl⟩:=ru;obtain⟨z,its,n,r,hl,e⟩:=I.rK hH;obtain⟨w,hw,cz⟩:=r.get hy;refine ň acx ⟨_,e,a_⟩ F.entry_list_pop (F.args_list_pop_2 _ _) (MeetsSeq.list_pop_at l its.toArray n i t k w (ae0 h1 h2) (by rw[G',<-hl];exact hk) (by rw[<-đ];exact hw) (by rw[G'];lia)) ⟨e,?_⟩;refine(xa0 y _ ⟨I.DO (its':=its.eraseIdx k) hH e ?_ (r.eraseIdx k) ?_,cz,q⟩)
 .show its.toArray.eraseIdxIfInBounds k=(its.eraseIdx k).toArray;rw[ī]
 .have:=Mt xs k;lia
noncomputable def UY:R2:=λx y H Q=>∃l b xs zs,x= .ref l/\y= .ref b/\H l=some (.lst xs)/\H b=some (.lst zs)/\xs.length+zs.length<=k_/\∀p,H p=none->Q (.ref p) (upd H p (.lst (xs++zs)))
theorem DP:bz X (ŉ .Add) UY:=by
 intro pins s U H x y v u Q I rx ry h;obtain⟨l,b,xs,zs,rfl,rfl,hH,hB,hz,q⟩:=h;cases rx;cases ry;obtain⟨z,its,n,r,hl,e⟩:=I.rK hH;obtain⟨z2,tX,n2,r2,Mv,e2⟩:=I.rK hB;refine PySem.P.add_list e e2 ?_ (by rw[G',G'];lia);have ea:its.toArray++tX.toArray=(its++tX).toArray:=by simp
 rw[ea];exact(xa0 (.ref _) _ ⟨I.Mu (t':=s.toks) (r.append r2) (by rw[p_];lia),a_,q _ I.fresh⟩)
noncomputable def UZ:R2:=λx y H Q=>∃l k xs,x= .ref l/\y= .int k/\H l=some (.lst xs)/\-(2^63)<=k/\k<2^63/\xs.length*k.toNat<=k_/\∀p,H p=none->Q (.ref p) (upd H p (.lst (B_ k.toNat xs).flatten))
theorem len_rep {α:Type}(xs:b? α)(k:i_):(B_ k xs).flatten.length=k*xs.length:=by
 induction k with
 |zero=>simp
 |succ k ih=>rw[Ù,ń,p_,ih,i_.succ_mul,i_.add_comm]
theorem Mw:bz X (ŉ .Mult) UZ:=by
 intro pins s U H x y v u Q I rx ry h;obtain⟨l,k,xs,rfl,rfl,hH,h1,h2,hz,q⟩:=h;cases rx;obtain⟨t,rfl⟩:=ry;obtain⟨z,its,n,r,hl,e⟩:=I.rK hH;have hlen:its.toArray.size*k.toNat<=k_:=by rw[G',<-hl];exact hz
 have DQ:¬its.toArray.size*k.toNat>(2^63-1) / 8:=by
  have:(k_:i_)<=(2^63-1) / 8:=by decide
  lia
 have DR:¬(!Ü.List.listFitsIndex k)=true:=by rw[ae0 h1 h2];exact t?
 have tY:¬ů (its.toArray.size*k.toNat)=true:=by rw[UT hlen];exact t?
 have oZ:ad5 (λx1 x2=>x1++x2) #[] (B_ (if its.toArray.isEmpty=true then 0 else k.toNat) its.toArray)=(B_ k.toNat its).flatten.toArray:=by
  have f0:∀m:i_,ad5 (λx1 x2=>x1++x2) #[] (B_ m its.toArray)=(B_ m its).flatten.toArray:=λm=>by have:=foldl_rep its m [];rw[aeo]at this;exact this
  rw[f0];cases its with
  |nil=>simp
  |cons a r'=>rw[j? (by simp)]
 refine wpAny_binaryOp_repeat_ref (T:="list") (U:="int") (by decide) ⟨_,e,a_⟩ (λs'=>adz s' k t) noFill_list_mul F.fills_int_mul adY repeat_list F.slot_int_index.lookup (ň adY (adz s k t) F.entry_int_rmul (F.args_int_rmul_2 _ _) (int___rmul___int_list k t l its.toArray n) ⟨e,a_,⟨_,e,a_⟩,ň F.slot_list_mul ⟨_,e,a_⟩ F.entry_list_mul (F.args_list_mul_2 _ _) (AutoListH.list___mul___list_int_3 l its.toArray n k t DR DQ tY) ⟨e,?_⟩⟩);rw[oZ];exact(xa0 (.ref _) _ ⟨I.Mu (t':=s.toks) (r.rep k.toNat) (by rw[len_rep,i_.mul_comm];exact hz),a_,q _ I.fresh⟩)
end
end L2
namespace Mx
open PySem PySem.W PySem.Calls PyProof.Rows
theorem U5 {P:Params}{h:k?}:∀(ns:b? f?)(vs:b? b_),WellAll P h vs (ns.map WData.int)->Y? vs ns:=by
 intro ns;induction ns with
 |nil=>intro vs w;rw[ĉ]at w;cases w;exact .nil
 |cons n ns ih=>
  intro vs w;rw[A_]at w;cases w with
  |cons a b=>cases a;exact .cons _ _ (ih _ b)
theorem Va {l:Ķ}{n:i_}(hn:l.most=some n){P:Params}{h:k?}{args:b? WData}{vals:b? b_}(lW:l.row.toRowW.claim.pre args=true)(DT:WellAll P h vals args):∃a vs ns,vals=[t_ a]/\args=[WData.list (ns.map WData.int)]/\h.get? a=some {cls:=.type "list",data:=.seq vs.toArray}/\Y? vs ns/\ns.length<=n:=by
 have Vb:WShape.hasAll [] args [.list .int]=true:=(pre_splitW lW).1;have hc:l.pre.holds [] {args:=args}=true:=(pre_splitW lW).2;obtain⟨d,r,rfl,h1,h2⟩:=hasAllW_cons Vb;obtain rfl:=hasAllW_nil h2;obtain⟨xs,rfl,h3⟩:=hasW_list h1;obtain⟨ns,rfl⟩:=items_int h3;have hlen:ns.length<=n:=by
  unfold Ķ.pre at hc;have h4:(WTm.not (.lt (.lit (.int (n:f?))) (.len (.arg 0)))).holds [] {args:=[.list (ns.map .int)]}=true:=by have h4:=(holds_andW hc).1;rw[hn]at h4;exact h4
  have h5:=condW_of h4 (w_not (w_lt w_lit (w_len_list (w_arg a_))));rw[g_]at h5;refine i_.le_of_not_lt λq=>?_;have q':(n:f?)<((ns.length:i_):f?):=by lia
  first
   |(rw[i? q']at h5;exact w_ h5 (by decide))
   |(simp at h5;lia)
 cases DT with
 |cons w1 w2=>
  cases w2;cases w1 with
  |list ho iV=>exact(xa1 _ _ ns ⟨a_,a_,ho,U5 ns _ iV,hlen⟩)
theorem Vc (l:Ķ)(args:b? WData):l.row.toRowW.claim.post args (.bool true) args=true:=postW_of (r:=l.row.toRowW) (X:=(true==true)) (show WShape.has [] (.bool true) .bool=true by first|rfl|decide|simp[WShape.has,WShape.arms,WShape.armsAll]) (show(WTm.eq .res (.lit (.bool true))).value [] {args:=args,res:=some (.bool true),after:=args}=some (.bool (true==true))from w_eq_bool (w_res a_) w_lit) a_
theorem Vd {l:Ķ}{n:i_}{q:D'}{loose:b? y?}{XP:(y?->g? b_)->k?->Prop}{YP:I?->k?->Prop}{d:DefRec}(hn:l.most=some n)(tZ:d.params.defaults=[])(call:∀(w:I?)(ar ai:d?)(mg mb:y?->g? b_)(fa:c_)(o:L?)(pm cd doc:b_)(a:c_)(vs:b? b_)(ns:b? f?),Ground q loose [] XP w ar mg mb ai.heap->YP w ai.heap->
   ai.heap.get? fa=some o->o.data= .func (docDef d.name d.params d.body d.scope pm cd doc)->ai.heap.CodeRec cd d.name->mg d.name=some (.ref fa)->
   ai.heap.get? a=some {cls:=.type "list",data:=.seq vs.toArray}->Y? vs ns->ns.length<=n->ai.gens=#[]->
   Ú (n_ l.prog w) aap (.call (.ref fa) ⟨[.ref a],[]⟩) (λr s'=>r= .ok (.ret (.bool true))/\OldK ai.heap s'.heap/\s'.os=ai.os/\Ŗ s'.gens) ai):
  acj q loose XP YP l.row.toRowW d [] (λf vs=>ħ f vs):=by
 intro w ar ai mg mb G Yq fa o pm cd doc dV kV ho hd eL hD hmg hg args vals as lW uA hrd DT hlo;obtain rfl:dV= .none:=Dflts.none hD tZ;obtain rfl:kV= .none:=Dflts.noKw hD;obtain⟨a,vs,ns,rfl,rfl,pA,hints,hlen⟩:=Va hn lW DT;refine enter_call (ć (call w ar ai mg mb fa o pm cd doc a vs ns G Yq ho (fd_plain hd) eL hmg pA hints hlen hg) λr s' hq=>?_);obtain⟨rfl,h2,h3,h4⟩:=hq;exact⟨.inl (xa1 (.bool true) (.bool true) [] ⟨a_,λ_=>a_,.bool true,Vc l _,λ_=>⟨afm,λ_ hm=>(nomatch hm)⟩⟩),h2,h3,h4⟩
end Mx
namespace L2
open PySem PySem.Spec PyProof.Rows
theorem My:∀{vs:b? b_}{ns:b? f?},Y? vs ns->Vals (ns.map V.int) vs
 |_,_,.nil=>.nil
 |_,_,.cons n t h=>.cons ⟨t,a_⟩ (My h)
noncomputable def Af (H:Hp):Prop:=∀b,H b=none\/∃o xs,H b=some (.aB o (.lst xs))
theorem Ve {P:D'}{w:I?}{K:e?}{mg mb:y?->g? b_}{CX:fj}{k:i_}{fa a:c_}{fd:l'}{x:y?}{sp:Sp}{ai:d?}{vs:b? b_}{ns:b? f?}(KX:K.In ai.heap)(rM:ai.heap.Ns î mg)(hb:ai.heap.Ns abU mb)(Vf:∀x:y?,x≠"__name__"->mb x=N_ x)(DU:ai.heap.NoLimit)(hg:ai.gens=#[])(ha:ai.heap.get? a=some {cls:=.type "list",data:=.seq vs.toArray})(hi:Y? vs ns)(hl:ns.length<=k_)(hr:aT k aap)(F:∀base:k?,K.In base->base.Ns î mg->zv P w K mg base CX k fa fd [x] sp)(uB:∀(s:d?)(u:b_),aar s fd ⟨[u],[]⟩ [(x,u)])(iB:∀H:Hp,Af H->af K H a (ns.map V.int)->sp [.ref a] H (λv _=>v= .bl true) λ_ _ _=>w?)(uC:∀H e s',CX [] H ai (λ_ _ _=>w?) e s'->w?):
  Ú (n_ P w) aap (.call (.ref fa) ⟨[.ref a],[]⟩) (λr s'=>r= .ok (.ret (.bool true))/\OldK ai.heap s'.heap/\s'.os=ai.os/\Ŗ s'.gens) ai:=by
 have rv:=My hi;have DV:=hi.length;have core:∀H:Hp,Af H->af K H a (ns.map V.int)->bH P w H ai.heap->(∀b,H b≠none->b=a)->(H a≠none->K.lookup a=none)->Ú (n_ P w) aap (.call (.ref fa) ⟨[.ref a],[]⟩) (λr s'=>r= .ok (.ret (.bool true))/\OldK ai.heap s'.heap/\s'.os=ai.os/\Ŗ s'.gens) ai:=by
  intro H hO hS ag hA hK;have gE:∀{b:c_}{o:L?},ai.heap.get? b=some o->H b=none->(lI ai.heap H).get? b=some o:=λe n=>Tb e n;have tP:∀{b:c_}{o:L?}{es:E? Ĉ}{ep:i_},ai.heap.get? b=some o->o.data= .dict es ep->H b=none:=λ{b o es ep} e d=>by
   cases q:H b with
   |none=>rfl
   |some u=>have e':b=a:=hA b (by rw[q];simp);subst e';rw[ha]at e;cases e;have d':acb vs.toArray _=Data.dict es ep:=d;cases d'
  have Ag:∀{b:c_}{m:y?->g? b_},ai.heap.Ns b m->(lI ai.heap H).Ns b m:=λ{b m} ⟨o,es,ep,e,d,r⟩=>(xa1 o es ep ⟨gE e (tP e d),d,r⟩);have Mz:K.In (lI ai.heap H):=λb o e=>gE (KX b o e) (by
   cases q:H b with
   |none=>rfl
   |some u=>have e':b=a:=hA b (by rw[q];simp);subst e';rw[hK (by rw[q];simp)]at e;cases e)
  have hM:Mod K mg (lI ai.heap H):=⟨Mz,Ag rM,⟨mb,Ag hb,Vf⟩,let⟨mc,h1,h2⟩:=DU;⟨mc,Ag h1,h2⟩⟩;have e0:oW P w K mg (lI ai.heap H) aap [] ai H:=⟨a_,hM,λb o e=>Tc e,afl (Ta _ _),trivial,λb hb=>w_ (show b∈([]:b? c_)from hb) (by simp),ag,.of_eq hg⟩;refine ć ((F _ Mz (Ag rM)).run aap [] ai H ⟨[.ref a],[]⟩ [.ref a] [.ref a] _ _ hr e0 (uB ai (.ref a)) (.cons a_ .nil) (iB H hO hS)) λr s' h=>?_;cases r with
  |error e=>exact(uC H e s' h).elim
  | ok fl=>
   cases fl with
   |next=>exact J? h
   |brk=>exact J? h
   |cont=>exact J? h
   | ret u=>
    obtain⟨v,H',os,bare,un,DW,r',q⟩:=h;have q':v= .bl true:=q;subst q';obtain rfl:u=Å true:=r';refine⟨a_,OldK.of_keep λb o e=>?_,os,bare⟩;cases q:H b with
    |none=>exact un.keep b o e q (by intro z;exact w_ (show b∈([]:b? c_)from z) (by simp)) (by simp)
    |some u=>
     rcases hO b with z|⟨ob,xs,z⟩
     .rw[q]at z;cases z
     .have z2:=un.dG b ob _ z;obtain⟨e1,_⟩:=ag b _ z;obtain⟨e2,_⟩:=DW b _ z2;rw[e]at e1;cases e1;exact e2
 cases hk:K.lookup a with
 |some o=>have e:=KX a o hk;rw[ha]at e;cases e;refine core (λ_=>none) (λ_=>.inl a_) (.inr (xa1 _ vs.toArray _ ⟨hk,a_,a_,a_,by rw[G',DV];exact hl,by simpa using rv⟩)) (λb u z=>by have z':(none:g? HO)=some u:=z;cases z') (λb z=>w_ a_ z) λz=>w_ a_ z
 | none=>
  refine core (λb=>if b=a then some (.aB {cls:=.type "list",data:=.seq vs.toArray} (.lst (ns.map V.int)))else none) (λb=>?_) (.inl (.inr ⟨{cls:=.type "list",data:=.seq vs.toArray},m_ a_⟩)) (λb u z=>?_) (λb z=>?_) λ_=>hk
  .by_cases hb:b=a
   .exact .inr (xa0 _ _ (m_ hb))
   .exact .inl (j? hb)
  .by_cases hb:b=a
   .have z':=(m_ hb).symm.trans z;cases z';subst hb;exact⟨ha,by rw[g_];exact hl,xa0 vs _ ⟨rv,ha⟩⟩
   .have z':=(j? hb).symm.trans z;cases z'
  .by_cases hb:b=a
   .exact hb
   .exact w_ (j? hb) z
theorem Vg {l:Ķ}{n k:i_}{q:D'}{loose:b? y?}{XP:(y?->g? b_)->k?->Prop}{YP:I?->k?->Prop}{d:DefRec}{K:Params->e?}{CX:I?->fj}{sp:I?->Sp}{x:y?}(hn:l.most=some n)(lS:n<=k_)(tZ:d.params.defaults=[])(hr:aT k aap)(hY:∀(w:I?)(h:k?),YP w h->(K w.params).In h)(F:∀(w:I?)(mg:y?->g? b_)(fa:c_)(h:k?),(K w.params).In h->h.Ns î mg->mg d.name=some (.ref fa)->∃fd:l',(∀(s:d?)(u:b_),aar s fd ⟨[u],[]⟩ [(x,u)])/\∀base:k?,(K w.params).In base->base.Ns î mg->zv l.prog w (K w.params) mg base (CX w) k fa fd [x] (sp w))(iB:∀(w:I?)(H:Hp)(a:c_)(ns:b? f?),ns.length<=n->Af H->af (K w.params) H a (ns.map V.int)->sp w [.ref a] H (λv _=>v= .bl true) λ_ _ _=>w?)(uC:∀(w:I?)(H:Hp)(s:d?)(e:b_)(s':d?),CX w [] H s (λ_ _ _=>w?) e s'->w?):
  acj q loose XP YP l.row.toRowW d [] (λf vs=>ħ f vs):=by
 refine Mx.Vd hn tZ λw ar ai mg mb fa o pm cd doc a vs ns G Yq ho hd eL hmg pA hints hlen hg=>?_;have KX:=hY w _ Yq;obtain⟨fd,hb,hF⟩:=F w mg fa _ KX G.T.g hmg;exact Ve KX G.T.g G.T.b G.T.builtins G.T.nolimit hg pA hints (P_ hlen lS) hr hF hb (λH hO hS=>iB w H a ns hlen hO hS) λH e s'=>uC w H ai e s'
theorem j5m {l:Ķ}{n k:i_}{q:D'}{loose:b? y?}{XP:(y?->g? b_)->k?->Prop}{YP:I?->k?->Prop}{d:DefRec}{K:Params->e?}{CX:fj}{sp:e?->Sp}{x:y?}(hn:l.most=some n)(lS:n<=k_)(tZ:d.params.defaults=[])(hr:aT k aap)(hY:∀(w:I?)(h:k?),YP w h->(K w.params).In h)(F:∀(w:I?)(mg:y?->g? b_)(fa:c_)(h:k?),(K w.params).In h->h.Ns î mg->mg d.name=some (.ref fa)->∃fd:l',(∀(s:d?)(u:b_),aar s fd ⟨[u],[]⟩ [(x,u)])/\∀base:k?,(K w.params).In base->base.Ns î mg->zv l.prog w (K w.params) mg base CX k fa fd [x] (sp (K w.params)))(iB:∀(K:e?)(H:Hp)(a:c_)(ns:b? f?),ns.length<=n->Af H->af K H a (ns.map V.int)->sp K [.ref a] H (λv _=>v= .bl true) λ_ _ _=>w?)(uC:∀(H:Hp)(s:d?)(e:b_)(s':d?),CX [] H s (λ_ _ _=>w?) e s'->w?):
  acj q loose XP YP l.row.toRowW d [] (λf vs=>ħ f vs):=
 Vg (K:=K) (CX:=λ_=>CX) (sp:=λw=>sp (K w.params)) hn lS tZ hr hY F (λw H a ns h1 h2 h3=>iB (K w.params) H a ns h1 h2 h3) λ_ H s e s'=>uC H s e s'
noncomputable def inClass (s:K?)(j:i_):K?:=match s with
 | .ClassDef _ _ _ body _ _ _ _ _ _ _=>body.getD j (.Pass ⟨0,0,0,0⟩)
 |_=>.Pass ⟨0,0,0,0⟩
noncomputable def rN (s:K?):Arguments:=match s with
 | .FunctionDef _ a _ _ _ _ _ _ _ _=>a
 |_=>{posonlyargs:=[],args:=[],vararg:=none,kwonlyargs:=[],kw_defaults:=[],kwarg:=none,defaults:=[]}
noncomputable def iC (s:K?):b? K?:=match s with
 | .FunctionDef _ _ b _ _ _ _ _ _ _=>b
 |_=>[]
noncomputable def jt (s:K?):Ã:=match s with
 | .FunctionDef _ _ _ _ _ _ sc _ _ _=>sc
 |_=>{kind:=.function,names:=[],isGenerator:=false,isCoroutine:=false}
noncomputable abbrev CX0:fj:=λ_ _ _ _ _ _=>w?
noncomputable abbrev E0:XK:=λ_ _ _=>w?
theorem jl {X:Cx}:Passes CX0 X E0:=λ_ _ _ _ _ _ _ h=>h.elim
structure au (K:e?)(x qual:y?)(st:K?)(f:c_)(fd:l'):Prop where
 ex:∃(oc:b_)(od:g? c_)(kV doc pm:b_)(an:g? c_)(aD ct:b_)(kG:E? (g? b_)),fd=Ă x qual (rN st) (iC st) (jt st) .none kV doc pm an aD ct/\K.lookup f=some ⟨oc,od,.func fd,kG⟩/\aae K aD qual=true
 kp:ã K (.ref f)=true
section
variable {P:D'}{w:I?}{K:e?}{mg:y?->g? b_}{base:k?}
theorem au.ok {x qual:y?}{st:K?}{f:c_}{fd:l'}{N ps:b? y?}{k:i_}{sp:Sp}(F:au K x qual st f fd)(S:qd N ps (jt st))(len:∀vs H Q E,sp vs H Q E->vs.length=ps.length)(aX:∀(aD:b_)(A:C_)(outer:b? Ţ)(s:d?)(H:Hp)(vs:b? V)(Q:VK)(E:XK),aT k (A.deeper (È qual (jt st) s.heap.objs.size f aD))->sp vs H Q E->∃t,cU (cZ CX0 P w K mg base N qual (jt st) f aD A outer s H E).rC (iC st) t/\t {nx:=λ_ H'=>Q .aj H',rt:=Q} (start N vs) H):zv P w K mg base CX0 (k+1) f fd ps sp:=by
 obtain⟨oc,od,kV,doc,pm,an,aD,ct,kG,rfl,lk,eL⟩:=F.ex;refine Mi lk eL S len λA outer s H vs Q E hr iB=>?_;obtain⟨t,h,q⟩:=aX aD A outer s H vs Q E hr iB;exact⟨t,h.rC,q⟩
theorem au.bF {x qual:y?}{st:K?}{f:c_}{fd:l'}{N ps:b? y?}{k:i_}{sp:Sp}(F:au K x qual st f fd)(S:qd N ps (jt st))(aX:∀(aD:b_)(A:C_)(outer:b? Ţ)(s:d?)(H:Hp)(vs:b? V)(Q:VK)(E:XK),aT k (A.deeper (È qual (jt st) s.heap.objs.size f aD))->sp vs H Q E->∃t,cU (cZ CX0 P w K mg base N qual (jt st) f aD A outer s H E).rC (iC st) t/\t {nx:=λ_ H'=>Q .aj H',rt:=Q} (start N vs) H)(len:e_ (∀vs H Q E,sp vs H Q E->vs.length=ps.length) aP6):zv P w K mg base CX0 (k+1) f fd ps sp:=F.ok S len aX
theorem au.aW {x qual:y?}{st:K?}{f:c_}{fd:l'}{N ps:b? y?}{k:i_}{sp:Sp}(F:au K x qual st f fd)(aX:∀(aD:b_)(A:C_)(outer:b? Ţ)(s:d?)(H:Hp)(vs:b? V)(Q:VK)(E:XK),aT k (A.deeper (È qual (jt st) s.heap.objs.size f aD))->sp vs H Q E->∃t,cU (cZ CX0 P w K mg base N qual (jt st) f aD A outer s H E).rC (iC st) t/\t {nx:=λ_ H'=>Q .aj H',rt:=Q} (start N vs) H)(S:e_ (qd N ps (jt st)) aP8)(len:e_ (∀vs H Q E,sp vs H Q E->vs.length=ps.length) aP6):zv P w K mg base CX0 (k+1) f fd ps sp:=F.ok S len aX
theorem au.binds {x qual:y?}{st:K?}{f:c_}{fd:l'}{ps:b? y?}(F:au K x qual st f fd)(h:∀(kV doc pm:b_)(an:g? c_)(aD ct:b_)(us:b? b_),us.length=ps.length->ada (Ă x qual (rN st) (iC st) (jt st) .none kV doc pm an aD ct) ⟨us,[]⟩=ó (ps.zip us)):Binds K fd ps []:=by
 obtain⟨oc,od,kV,doc,pm,an,aD,ct,kG,rfl,lk,eL⟩:=F.ex;exact .all (h kV doc pm an aD ct)
theorem ji {x qual:y?}{st:K?}{f:c_}{oc:b_}{od an:g? c_}{kG:E? (g? b_)}{kV doc pm aD ct:b_}(l:K.lookup f=some ⟨oc,od,.func (Ă x qual (rN st) (iC st) (jt st) .none kV doc pm an aD ct),kG⟩)(c:aae K aD qual=true)(k:ã K (.ref f)=true):au K x qual st f (Ă x qual (rN st) (iC st) (jt st) .none kV doc pm an aD ct):=⟨(xa4 oc od kV doc pm an aD ct kG ⟨a_,l,c⟩),k⟩
end
theorem fM {A:C_}{k:i_}(hr:aT k A):A.units+1<Â:=aal (i_.add_le_add_left (by decide:1<=64) _) hr.units
theorem zm {n:i_}(h:n<=1000):n<k_:=aal h (by decide)
section
variable {X:Cx}
theorem pv (i:i_){x:y?}{pos:ğ}(hN:e_ (X.N[i]?=some x) aP1)(hv:tj X.env.scope x:=by first|exact Or.inl rfl|exact Or.inr (Or.inl rfl)|exact Or.inr (Or.inr rfl))(hd:e_ ((x==("__debug__":y?))=false) aP2)(eL:e_ ((x==("__classdict__":y?))=false) aP2):PE X (.Name x pos) (Lx i):=Te hN hv hd eL
end
theorem w4 {A Bq:Prop}(h:Bq):if false=true then A else Bq:=by rw[j? t?];exact h
theorem bA {A Bq:Prop}(h:A):if true=true then A else Bq:=by rw[m_ a_];exact h
theorem bj {c A Bq:Prop}[aer c](h1:c->A)(h2:¬c->Bq):if c then A else Bq:=by
 by_cases h:c
 .rw[m_ h];exact h1 h
 .rw[j? h];exact h2 h
noncomputable def x8 (H H':Hp):Prop:=∀b o,H b=some o->H' b=some o
theorem x8.refl (H:Hp):x8 H H:=λ_ _ h=>h
theorem x8.trans {H H1 H2:Hp}(a:x8 H H1)(b:x8 H1 H2):x8 H H2:=λc o h=>b c o (a c o h)
theorem x8.free {H H':Hp}(e:x8 H H'){l:c_}(h:H' l=Option.none):H l=Option.none:=by
 cases q:H l with
 |none=>rfl
 |some o=>rw[e l o q]at h;cases h
theorem x8.seq {K:e?}{H H':Hp}{a:c_}{xs:b? V}(e:x8 H H')(h:af K H a xs):af K H' a xs:=by
 rcases h with(h|⟨o,h⟩)|h
 .exact .inl (.inl (e _ _ h))
 .exact .inl (.inr ⟨o,e _ _ h⟩)
 .exact .inr h
section
variable {B:Type}[ĝ B]
noncomputable def aY (kvs:b? (B×V))(k:B):g? V:=(kvs.find? λkv=>s? (kv.1=k)).map (·.2)
noncomputable def putK (kvs:b? (B×V))(k:B)(v:V):b? (B×V):=if(kvs.any λkv=>s? (kv.1=k))=true then kvs.map (λkv=>if kv.1=k then(kv.1,v)else kv)else kvs++[(k,v)]
theorem kH {p:B×V}{r:b? (B×V)}{k:B}(e:p.1=k):aY (p::r) k=some p.2:=by simp[aY,Ą,e]
theorem kI {p:B×V}{r:b? (B×V)}{k:B}(e:¬p.1=k):aY (p::r) k=aY r k:=by simp[aY,Ą,e]
theorem Ah (k:B):∀kvs:b? (B×V),(kvs.any λkv=>s? (kv.1=k))=(aY kvs k).isSome
 |[]=>a_
 |p::r=>by
  rw[ű];by_cases e:p.1=k
  .simp only[kH e,i? e,ac3,g?.isSome_some]
  .rw[kI e,z? e,afo];exact Ah k r
theorem uD (kvs:b? (B×V))(k:B)(v:V):(putK kvs k v).length<=kvs.length+1:=by
 unfold putK;split
 .rw[g_];lia
 .rw[p_,C?,ź];lia
theorem uE {kvs:b? (B×V)}{k:B}(v:V)(h:aY kvs k=none):putK kvs k v=kvs++[(k,v)]:=by unfold putK;rw[Ah,h];exact j? (by decide)
theorem dX.uF {o:g? V}{u:g? b_}(r:dX o u):o.isSome=u.isSome:=by
 cases o with
 |none=>cases u with
  |none=>rfl
  |some _=>exact(show w? from r).elim
 |some _=>cases u with
  |none=>exact(show w? from r).elim
  |some _=>rfl
theorem dX.getD {o:g? V}{u:g? b_}{d:V}{d':b_}(r:dX o u)(rd:RelV d d'):RelV (o.getD d) (u.getD d'):=by
 cases o with
 |none=>cases u with
  |none=>exact rd
  |some _=>exact(show w? from r).elim
 |some _=>cases u with
  |none=>exact(show w? from r).elim
  |some _=>exact r
theorem KV.val {kvs:b? (B×V)}{vs:b? (B×b_)}(r:KV kvs vs)(k:B):dX (aY kvs k) (aaQ vs k):=by
 unfold KV at r;induction r with
 |nil=>exact xv
 | @cons p q ps qs h t ih=>
  obtain⟨h1,h2⟩:=h;by_cases e:p.1=k
  .have e':q.1=k:=h1.symm.trans e;have b:aaQ (q::qs) k=some q.2:=by simp[aaQ,Ą,e']
   rw[kH e,b];exact h2
  .have e':¬q.1=k:=λz=>e (h1.trans z);have b:aaQ (q::qs) k=aaQ qs k:=by simp[aaQ,Ą,e']
   rw[kI e,b];exact ih
theorem KV.any {kvs:b? (B×V)}{vs:b? (B×b_)}(r:KV kvs vs)(k:B):(kvs.any λkv=>s? (kv.1=k))=vs.any λkv=>s? (kv.1=k):=by
 unfold KV at r;induction r with
 |nil=>rfl
 |cons h t ih=>rw[ű,ű,ih,h.1]
theorem KV.DX {kvs:b? (B×V)}{vs:b? (B×b_)}(r:KV kvs vs)(k:B){y:V}{u:b_}(ry:RelV y u):KV (kvs.map λkv=>if kv.1=k then(kv.1,y)else kv) (vs.map λkv=>if kv.1=k then(kv.1,u)else kv):=by
 unfold KV at r⊢;induction r with
 |nil=>exact .nil
 |@cons p q ps qs h t ih=>
  rw[A_,A_];refine .cons ?_ ih;obtain⟨h1,h2⟩:=h;by_cases e:p.1=k
  .rw[m_ e,m_ (h1.symm.trans e)];exact⟨h1,ry⟩
  .rw[j? e,j? (λz=>e (h1.trans z))];exact⟨h1,h2⟩
theorem KV.put {kvs:b? (B×V)}{vs:b? (B×b_)}(r:KV kvs vs)(k:B){y:V}{u:b_}(ry:RelV y u):KV (putK kvs k y) (stored vs k u):=by
 unfold putK stored;rw[r.any k];by_cases e:(vs.any λkv=>s? (kv.1=k))=true
 .rw[m_ e,m_ e];exact r.DX k ry
 .rw[j? e,j? e];exact h_.snoc r ⟨a_,ry⟩
theorem KV.length {kvs:b? (B×V)}{vs:b? (B×b_)}(r:KV kvs vs):kvs.length=vs.length:=q? r
end
theorem nj {P:D'}{w:I?}{k:Key}{u:b_}(r:RelV (kV k) u):(qy P w).is k u=true:=by
 cases k with
 |inl i=>obtain⟨t,e⟩:=(show ∃t,u=ą i t from r);subst e;exact SX P w i t
 |inr x=>obtain⟨t,e⟩:=(show ∃t,u=acS x t from r);subst e;exact SY P w x t
theorem MA {P:D'}{w:I?}:∀{ks:b? Key}{us:b? b_},Vals (ks.map kV) us->ItemsAre (qy P w) ks us
 |[],_,r=>by rw[ĉ]at r;cases r;exact .nil
 |k::ks,_,r=>by
  rw[A_]at r;cases r with
  |cons h t=>exact .cons (nj h) (MA t)
noncomputable abbrev KT (H:Hp):b? (b? Key×V)->b? (b? Key×c_×b_)->Prop:=h_ λp q=>p.1=q.1/\H q.2.1=some (.tup (p.1.map kV))/\RelV p.2 q.2.2
theorem KT.val {H:Hp}{kvs:b? (b? Key×V)}{xs:b? (b? Key×c_×b_)}(r:KT H kvs xs)(k:b? Key):dX (aY kvs k) ((aai xs k).map (·.2)):=by
 induction r with
 |nil=>exact xv
 | @cons p q ps qs h t ih=>
  obtain⟨h1,_,h2⟩:=h;by_cases e:p.1=k
  .have e':q.1=k:=h1.symm.trans e;have b:aai (q::qs) k=some q.2:=by simp[aai,Ą,e']
   rw[kH e,b];exact h2
  .have e':¬q.1=k:=λz=>e (h1.trans z);have b:aai (q::qs) k=aai qs k:=by simp[aai,Ą,e']
   rw[kI e,b];exact ih
theorem KT.DX {H:Hp}{kvs:b? (b? Key×V)}{xs:b? (b? Key×c_×b_)}(r:KT H kvs xs)(k:b? Key){y:V}{u:b_}(ry:RelV y u):KT H (kvs.map λkv=>if kv.1=k then(kv.1,y)else kv) (xs.map (putAt k u)):=by
 induction r with
 |nil=>exact .nil
 |@cons p q ps qs h t ih=>
  rw[A_,A_];refine .cons ?_ ih;obtain⟨h1,h2,h3⟩:=h;unfold putAt;by_cases e:p.1=k
  .rw[m_ e,m_ (h1.symm.trans e)];exact⟨h1,h2,ry⟩
  .rw[j? e,j? (λz=>e (h1.trans z))];exact⟨h1,h2,h3⟩
theorem KT.put {H:Hp}{kvs:b? (b? Key×V)}{xs:b? (b? Key×c_×b_)}(r:KT H kvs xs)(k:b? Key){b:c_}{y:V}{u:b_}(hb:H b=some (.tup (k.map kV)))(ry:RelV y u):KT H (putK kvs k y) (storedH xs k b u):=by
 have e:(kvs.any λkv=>s? (kv.1=k))=(aai xs k).isSome:=by rw[Ah,(r.val k).uF,g?.isSome_map]
 unfold putK storedH;rw[e];by_cases q:(aai xs k).isSome=true
 .rw[m_ q,m_ q];exact r.DX k ry
 .rw[j? q,j? q];exact h_.snoc r ⟨a_,hb,ry⟩
theorem KT.keeps {H H':Hp}{kvs:b? (b? Key×V)}{xs:b? (b? Key×c_×b_)}(r:KT H kvs xs)(ht:∀b ys,H b=some (.tup ys)->H' b=some (.tup ys)):KT H' kvs xs:=Paired.gy r λ_ _ z=>⟨z.1,ht _ _ z.2.1,z.2.2⟩
section
variable {P:D'}{w:I?}{H:Hp}{h:k?}{a:c_}
theorem MB {u:HO}(ok:bH P w H h)(e:Rd H a u):wg P w H h a u:=e.ok ok
theorem nA {kvs:b? (Key×V)}(ok:bH P w H h)(e:Rd H a (.dK kvs)):kvs.length<=k_/\(a==Yd)=false/\∃vs,KV kvs vs/\h.DictOf (qy P w) a vs:=show wg P w H h a (.dK kvs)from MB ok e
theorem MC {kvs:b? (Key×V)}(ok:bH P w H h)(e:H a=some (.dK kvs)):kvs.length<=k_/\(a==Yd)=false/\∃vs,KV kvs vs/\h.DictOf (qy P w) a vs:=nA ok (.inl e)
theorem lX {ks:b? Key}(ok:bH P w H h)(e:H a=some (.tup (ks.map kV))):(Į (qy P w)).is h ks a:=by obtain⟨_,its,r,o,h1,h2,n,h3⟩:=(show wg P w H h a (.tup (ks.map kV))from ok a _ e);exact(xa1 o its.toArray n ⟨h1,h2,h3,by simpa using MA r⟩)
theorem nB {kvs:b? (b? Key×V)}(ok:bH P w H h)(e:Rd H a (.dT kvs)):kvs.length<=k_/\(a==Yd)=false/\∃xs,KT H kvs xs/\h.DictOfH (Į (qy P w)) a xs:=by
 obtain⟨z,y,xs,r,o,es,ep,h1,h2,h3,h4,h5⟩:=(show wg P w H h a (.dT kvs)from MB ok e);refine⟨z,y,xs,r,xa1 o es ep ⟨h1,h2,h3,h4,λx hx=>?_,h5⟩⟩;have all:∀{l:b? (b? Key×V)}{m:b? (b? Key×c_×b_)},KT H l m->∀x∈m,(Į (qy P w)).is h x.1 x.2.1:=by
  intro l m q;induction q with
  |nil=>intro x hx;exact nomatch hx
  |@cons p q ps qs hq t ih=>
   intro x hx;rcases D?.mp hx with e|hx
   .subst e;exact lX ok (by rw[<-hq.1];exact hq.2.1)
   .exact ih x hx
 exact all r x hx
theorem DY {kvs:b? (b? Key×V)}(ok:bH P w H h)(e:H a=some (.dT kvs)):kvs.length<=k_/\(a==Yd)=false/\∃xs,KT H kvs xs/\h.DictOfH (Į (qy P w)) a xs:=nB ok (.inl e)
end
noncomputable def gF (H:Hp)(a:c_)(y:V)(r:g? V):Prop:=(∃kvs k,Rd H a (.dK kvs)/\y=kV k/\r=aY kvs k)\/∃kvs k b,Rd H a (.dT kvs)/\y= .ref b/\H b=some (.tup (k.map kV))/\r=aY kvs k
noncomputable def ft (H:Hp)(a:c_)(y v:V)(H':Hp):Prop:=(∃kvs k,H a=some (.dK kvs)/\y=kV k/\kvs.length<k_/\H'=upd H a (.dK (putK kvs k v)))\/∃kvs k b,H a=some (.dT kvs)/\y= .ref b/\H b=some (.tup (k.map kV))/\kvs.length<k_/\H'=upd H a (.dT (putK kvs k v))
theorem gF.t {H:Hp}{a b:c_}{kvs:b? (b? Key×V)}{k:b? Key}(e:H a=some (.dT kvs))(eb:H b=some (.tup (k.map kV))):gF H a (.ref b) (aY kvs k):=.inr (xa1 kvs k b ⟨.inl e,a_,eb,a_⟩)
theorem ft.k {H:Hp}{a:c_}{kvs:b? (Key×V)}{k:Key}{v:V}(e:H a=some (.dK kvs))(hl:kvs.length<k_):ft H a (kV k) v (upd H a (.dK (putK kvs k v))):=.inl (xa0 kvs k ⟨e,a_,hl,a_⟩)
theorem ft.t {H:Hp}{a b:c_}{kvs:b? (b? Key×V)}{k:b? Key}{v:V}(e:H a=some (.dT kvs))(eb:H b=some (.tup (k.map kV)))(hl:kvs.length<k_):ft H a (.ref b) v (upd H a (.dT (putK kvs k v))):=.inr (xa1 kvs k b ⟨e,a_,eb,hl,a_⟩)
section
variable {X:Cx}{pins:b? (c_×L?)}{U:St}{H:Hp}{s:d?}{a:c_}{y v:V}{u r:b_}{o:g? V}{A:C_}{E:b_->d?->Prop}
theorem Inv.big (I:Inv X pins U H s):Yd<s.heap.objs.size:=by have h:î<s.heap.objs.size:=(I.mod.glob.keeps I.bk).lt;exact i_.lt_trans (by decide) h
theorem Vh {Q:b_->d?->Prop}(hu:A.units+1<Â)(I:Inv X pins U H s)(g:gF H a y (some v))(ry:RelV y u)(h:∀w' s',Inv X pins U H s'->RelV v w'->Q w' s'):l_ (n_ X.prog X.w) A (abA (.ref a) u) Q E s:=by
 rcases g with⟨kvs,k,e,ey,l⟩|⟨kvs,k,b,e,ey,eb,l⟩
 .subst ey;obtain⟨z,hd,vs,rel,dd⟩:=nA I.ag e;obtain⟨w',hw,cz⟩:=dX.some_of (v:=v) (o:=aaQ vs k) (by rw[l];exact rel.val k);exact wpAny_getItem_of (nj ry) dd.mapOf hw (h w' _ (I.tok _) cz)
 .subst ey;cases(show u=t_ b from ry);obtain⟨z,hd,xs,rel,dd⟩:=nB I.ag e;obtain⟨w',hw,cz⟩:=dX.some_of (v:=v) (o:=(aai xs k).map (·.2)) (by rw[l];exact rel.val k);obtain⟨p,hp,uG⟩:=g?.map_eq_some_iff.mp hw;refine wpAny_getItem_heap (Õ hu) (lX I.ag eb) dd hp ?_;rw[uG];exact h w' _ (I.tok _) cz
theorem Vi {Q:b_->d?->Prop}(hu:A.units+1<Â)(I:Inv X pins U H s)(g:gF H a y o)(ry:RelV y u)(h:∀s',Inv X pins U H s'->Q (.bool o.isSome) s'):l_ (n_ X.prog X.w) A (Q_ .In u (.ref a)) Q E s:=by
 rcases g with⟨kvs,k,e,ey,l⟩|⟨kvs,k,b,e,ey,eb,l⟩
 .subst ey;obtain⟨z,hd,vs,rel,dd⟩:=nA I.ag e;refine wpAny_in_of (nj ry) hd dd.mapOf ?_;rw[<-(rel.val k).uF,<-l];exact h _ (I.tok _)
 .subst ey;cases(show u=t_ b from ry);obtain⟨z,hd,xs,rel,dd⟩:=nB I.ag e;refine wpAny_in_heap (Õ hu) (lX I.ag eb) hd dd ?_;have q:=(rel.val k).uF;rw[g?.isSome_map]at q;rw[<-q,<-l];exact h _ (I.tok _)
theorem Vj {Q:b_->d?->Prop}(hu:A.units+1<Â)(I:Inv X pins U H s)(g:gF H a y o)(ry:RelV y u)(h:∀s',Inv X pins U H s'->Q (.bool (!o.isSome)) s'):l_ (n_ X.prog X.w) A (Q_ .NotIn u (.ref a)) Q E s:=by
 rcases g with⟨kvs,k,e,ey,l⟩|⟨kvs,k,b,e,ey,eb,l⟩
 .subst ey;obtain⟨z,hd,vs,rel,dd⟩:=nA I.ag e;refine wpAny_notIn_of (nj ry) hd dd.mapOf ?_;rw[<-(rel.val k).uF,<-l];exact h _ (I.tok _)
 .subst ey;cases(show u=t_ b from ry);obtain⟨z,hd,xs,rel,dd⟩:=nB I.ag e;refine wpAny_notIn_heap (Õ hu) (lX I.ag eb) hd dd ?_;have q:=(rel.val k).uF;rw[g?.isSome_map]at q;rw[<-q,<-l];exact h _ (I.tok _)
theorem uH {h':k?}{t':i_}{ob:HO}(I:Inv X pins U H s)(mu:iz (H a))(hs:H_ a s.heap h')(he:∃q,h'.get? a=some q)(new:wg X.prog X.w (upd H a ob) h' a ob):Inv X pins U (upd H a ob) {s with heap:=h',toks:=t'}:=
 I.write (x:=a) (e:=a) mu (.inl a_) (λb q hb z=>(hs.2 b hb).trans z) he new
theorem MD {P:D'}{w:I?}{H':Hp}{h':k?}{kvs:b? (Key×V)}{vs:b? (Key×b_)}(z:kvs.length<=k_)(hd:(a==Yd)=false)(rel:KV kvs vs)(dd:h'.DictOf (qy P w) a vs):wg P w H' h' a (.dK kvs):=⟨z,hd,vs,rel,dd⟩
theorem Vl {H':Hp}{Q:acB->d?->Prop}(hu:A.units+1<Â)(I:Inv X pins U H s)(g:ft H a y v H')(ry:RelV y u)(rv:RelV v r)(h:∀s',Inv X pins U H' s'->Q () s'):l_ (n_ X.prog X.w) A (adR (.ref a) u r) Q E s:=by
 rcases g with⟨kvs,k,e,ey,l,eH⟩|⟨kvs,k,b,e,ey,eb,l,eH⟩
 .subst ey eH;obtain⟨z,hd,vs,rel,dd⟩:=MC I.ag e;have hz:vs.length<=k_:=by rw[<-rel.length];exact z
  have hl:(putK kvs k v).length<=k_:=by have:=uD kvs k v;lia
  refine wpAny_setItem_pairs (hsz:=hz) (nj ry) dd λh' iY hs=>h _ ?_;have he:∃q,h'.get? a=some q:=let⟨q,_,_,hq,_⟩:=iY;⟨q,hq⟩;exact uH I (by rw[e];exact xv) hs he (MD hl hd (rel.put k rv) iY)
 .subst ey eH;cases(show u=t_ b from ry);obtain⟨z,hd,xs,rel,dd⟩:=DY I.ag e;have hz:xs.length<=k_:=by rw[<-q? rel];exact z
  have hl:(putK kvs k v).length<=k_:=by have:=uD kvs k v;lia
  refine wpAny_setItem_heap (hsz:=hz) (Õ hu) (lX I.ag eb) dd λh' iY hs=>h _ ?_;obtain⟨q,es,ep,hq,h2,h3,h4,_,h5⟩:=iY;refine uH I (by rw[e];exact xv) hs ⟨q,hq⟩ ⟨hl,hd,_,(rel.put k eb rv).keeps λc ys ec=>?_,xa1 q es ep ⟨hq,h2,h3,h4,h5⟩⟩;rw[jd (cT ec e (λz=>nomatch z))];exact ec
end
noncomputable def ME (i:G?):Prop:=∀ov iv,abl i false ov iv=operate [ov,iv] (abA ov iv)
theorem Vm {prog:D'}{w:I?}{A:C_}{E:b_->d?->Prop}{s:d?}{env:Ţ}{value slice:G?}{pos:ğ}{T id:ë}{Q:b_->d?->Prop}(hl:ņ (.type T) "__getitem__"=ó (some (.builtin id)))(hs:ME slice)(h:l_ (n_ prog w) A (U? value env) (λo ai=>l_ (n_ prog w) A (U? slice env) (λi aa=>aa.TypeIs o T/\l_ (n_ prog w) A (abA o i) Q E aa) E ai) E s):
  l_ (n_ prog w) A (U? (.Subscript value slice pos) env) Q E s:=by
 refine Subscript_ (G_ h (λo ai h₁=>G_ h₁ (λi aa bX=>?_) λ_ _ x=>x) λ_ _ x=>x);obtain⟨hT,bX⟩:=bX;unfold afx;refine d_ ?_;rw[getitemInPython_of_ne hT.not_modules];refine d_ (aet hT hl ?_);have fin:l_ (n_ prog w) A (abl slice false o i) (λr aJ=>l_ (n_ prog w) A (letTemporaryGo value o r >>= λ_=>ó r) Q E aJ) E aa:=by rw[hs o i];exact wpAny_operating (G_ bX (λr aJ fN=>d_ (wpAny_letTemporaryGo (j_ fN))) λ_ _ x=>x)
 first
  |exact j_ (d_ fin)
  |exact wpAny_bind (wpAny_pure (wpAny_bind fin))
  |exact wpAny_bind fin
theorem Vn {X:Cx}{pins:b? (c_×L?)}{U:St}{H:Hp}{s:d?}{a:c_}{y:V}{o:g? V}(I:Inv X pins U H s)(g:gF H a y o):s.TypeIs (.ref a) "dict":=by
 rcases g with⟨kvs,k,e,_,_⟩|⟨kvs,k,b,e,_,_,_⟩
 .obtain⟨_,_,vs,_,dd⟩:=nA I.ag e;exact dd.typeIs
 .obtain⟨_,_,xs,_,dd⟩:=nB I.ag e;exact dd.typeIs
noncomputable def Vo (td ty:TE):TE:=λ U H Q=>td U H λx H1=>ty U H1 λy H2=>∃a v,x= .ref a/\gF H2 a y (some v)/\Q v H2
noncomputable def Vp (ty td:TE):TE:=λ U H Q=>ty U H λy H1=>td U H1 λx H2=>∃a o,x= .ref a/\gF H2 a y o/\Q (.bl o.isSome) H2
noncomputable def Vq (ty td:TE):TE:=λ U H Q=>ty U H λy H1=>td U H1 λx H2=>∃a o,x= .ref a/\gF H2 a y o/\Q (.bl (!o.isSome)) H2
noncomputable def Vr (td ty tv:TE):TS:=λD U H=>tv U H λv H1=>td U H1 λx H2=>ty U H2 λy H3=>∃a H4,x= .ref a/\ft H3 a y v H4/\D.nx U H4
section
variable {X:Cx}{o i e value:G?}{pos pos' fG:ğ}{td ty tv:TE}
theorem MF (hu:X.A.units+1<Â)(ho:PE X o td)(hi:PE X i ty)(hs:ME i):PE X (.Subscript o i pos) (Vo td ty):=by intro pins s U H Q I h;refine Vm PySem.F.slot_dict_getitem.lookup hs (ah (ho pins s U H _ I h) λu s1 ⟨x,H1,I1,rx,q1⟩=>ah (hi pins s1 U H1 _ I1 q1) λiv s2 zQ=>?_);obtain⟨y,H2,I2,ry,a,v,ex,g,q2⟩:=zQ;subst ex;obtain rfl:u=t_ a:=rx;exact⟨Vn I2 g,Vh hu I2 g ry λw' s3 I3 cz=>(xa0 v H2 ⟨I3,cz,q2⟩)⟩
theorem Vs (hu:X.A.units+1<Â)(hi:PE X i ty)(ho:PE X o td):PC X .In i o (Vp ty td):=by intro pins s U H Q I h;refine ah (hi pins s U H _ I h) λiv s1 ⟨y,H1,I1,ry,q1⟩=>ah (ho pins s1 U H1 _ I1 q1) λu s2 zQ=>?_;obtain⟨x,H2,I2,rx,a,ov,ex,g,q2⟩:=zQ;subst ex;obtain rfl:u=t_ a:=rx;exact Vi hu I2 g ry λs3 I3=>(xa0 (.bl ov.isSome) H2 ⟨I3,a_,q2⟩)
theorem D0 (hu:X.A.units+1<Â)(hi:PE X i ty)(ho:PE X o td):PC X .NotIn i o (Vq ty td):=by intro pins s U H Q I h;refine ah (hi pins s U H _ I h) λiv s1 ⟨y,H1,I1,ry,q1⟩=>ah (ho pins s1 U H1 _ I1 q1) λu s2 zQ=>?_;obtain⟨x,H2,I2,rx,a,ov,ex,g,q2⟩:=zQ;subst ex;obtain rfl:u=t_ a:=rx;exact Vj hu I2 g ry λs3 I3=>(xa0 (.bl (!ov.isSome)) H2 ⟨I3,a_,q2⟩)
theorem MG (hu:X.A.units+1<Â)(ho:PE X o td)(hi:PE X i ty)(hv:PE X value tv)(hs:aan value (some (.Subscript o i pos')) pos.line X.env=ó false):PS X (.Assign [.Subscript o i pos'] value pos) (Vr td ty tv):=by
 intro pins s U H D I h;refine wpAny_Assign_Subscript (ah (hv pins s U H _ I h) λr s1 ⟨v,H1,I1,rv,q1⟩=>ah (ho pins s1 U H1 _ I1 q1) λu s2 ⟨x,H2,I2,rx,q2⟩=>ah (hi pins s2 U H2 _ I2 q2) λiv s3 zQ=>?_) hs;obtain⟨y,H3,I3,ry,a,H4,ex,g,q3⟩:=zQ;subst ex;obtain rfl:u=t_ a:=rx;exact Vl hu I3 g ry rv λs4 I4=>(xa0 U H4 ⟨I4,q3⟩)
end
theorem Vu {P:D'}{w:I?}{H:Hp}(h:k?)(hb:Yd<h.objs.size):wg P w H (h.push {cls:=.type "dict",data:=.dict #[]}) h.objs.size (.dK []):=⟨T? _,Î.mpr (M_ (N? hb)),[],.nil,k?.DictOf.new h⟩
theorem MH {P:D'}{w:I?}{H:Hp}(h:k?)(hb:Yd<h.objs.size):wg P w H (h.push {cls:=.type "dict",data:=.dict #[]}) h.objs.size (.dT []):=⟨T? _,Î.mpr (M_ (N? hb)),[],.nil,xa1 _ (#[]) 0 ⟨v? _ a_,⟨a_,a_,a_⟩,a_,a_,Ņ⟩⟩
noncomputable def Vv:TE:=λ_ H Q=>∀p,H p=none->Q (.ref p) (upd H p (.dT []))
section
variable {X:Cx}{pos:ğ}
theorem D1:PE X (.Dict [] [] pos) Vv:=λpins s U H Q I h=>wpAny_Dict_empty (xa0 (.ref s.heap.objs.size) _ ⟨I.laid (a:=s.heap.objs.size) (o:=.dT []) (t':=s.toks) (λ_ _ q=>f_ _ q) (r_ _) (MH s.heap I.big),a_,h _ (I.ag.fresh (r_ _))⟩)
end
structure M1 (X:Cx)(o:G?)(m:y?)(apos:ğ)(e:G?)(av:ğ):Prop where
 base:Ē o m X.env (U? o X.env)=U? o X.env
 few:((W_ av (x? [e] X.env)).all (λx=>!x.1)&&(Ö av (U_ [] X.env)).all (λx=>x.1.isSome)&&s? (([e]:b? G?).length+([]:b? Ŷ).length+(if([]:b? Ŷ).isEmpty then 0 else 1)<30))=true
 line:(apos.endLine==av.line)=true
 trees:W_ av (x? [e] X.env)=[(false,U? e X.env)]
structure M2 (X:Cx)(o:G?)(m:y?)(apos:ğ)(e f:G?)(av:ğ):Prop where
 base:Ē o m X.env (U? o X.env)=U? o X.env
 few:((W_ av (x? [e,f] X.env)).all (λx=>!x.1)&&(Ö av (U_ [] X.env)).all (λx=>x.1.isSome)&&s? (([e,f]:b? G?).length+([]:b? Ŷ).length+(if([]:b? Ŷ).isEmpty then 0 else 1)<30))=true
 line:(apos.endLine==av.line)=true
 trees:W_ av (x? [e,f] X.env)=[(false,U? e X.env),(false,U? f X.env)]
noncomputable def uI (H:Hp)(a:c_):Prop:=(∃kvs,Rd H a (.dK kvs))\/∃kvs,Rd H a (.dT kvs)
theorem D2 {X:Cx}{pins:b? (c_×L?)}{U:St}{H:Hp}{s:d?}{a:c_}(I:Inv X pins U H s)(d:uI H a):s.TypeIs (.ref a) "dict"/\(∀b,t_ a= .ref b->∃ob,s.heap.get? b=some ob/\ob.dict=none)/\(a==Yd)=false:=by
 rcases d with⟨kvs,e⟩|⟨kvs,e⟩
 .obtain⟨_,hd,vs,_,dd⟩:=nA I.ag e;refine⟨dd.typeIs,λb q=>?_,hd⟩;cases q;obtain⟨ob,_,_,h1,h2,_⟩:=dd;exact⟨ob,h1,h2.2.1⟩
 .obtain⟨_,hd,xs,_,dd⟩:=nB I.ag e;refine⟨dd.typeIs,λb q=>?_,hd⟩;cases q;obtain⟨ob,_,_,h1,h2,_⟩:=dd;exact⟨ob,h1,h2.2.1⟩
section
variable {X:Cx}{pins:b? (c_×L?)}{U:St}{H:Hp}{s:d?}{a:c_}{y d:V}{u r:b_}{o:g? V}{A:C_}{E:b_->d?->Prop}
theorem Vw {Q:b_->d?->Prop}(hu:A.units+1<Â)(I:Inv X pins U H s)(g:gF H a y o)(ry:RelV y u)(h:∀w' s',Inv X pins U H s'->RelV (o.getD .aj) w'->Q w' s'):l_ (n_ X.prog X.w) A (ħ (.builtin "dict.get") [.ref a,u]) Q E s:=by
 rcases g with⟨kvs,k,e,ey,l⟩|⟨kvs,k,b,e,ey,eb,l⟩
 .subst ey;obtain⟨z,hd,vs,rel,dd⟩:=nA I.ag e;refine ł Í dd.typeIs č (aa5 _ _) (meets_dict_get (qy X.prog X.w) a (nj ry) hd) ⟨_,dd.mapOf,h _ _ (I.tok _) ?_⟩;rw[l];exact(rel.val k).getD a_
 .subst ey;cases(show u=t_ b from ry);obtain⟨z,hd,xs,rel,dd⟩:=nB I.ag e;refine ł Í dd.typeIs č (aa5 _ _) (meetsH_dict_get (Į (qy X.prog X.w)) a b hd) ⟨Õ hu,xa0 k xs ⟨lX I.ag eb,dd,h _ _ (I.tok _) ?_⟩⟩;rw[l];exact(rel.val k).getD a_
theorem Vx {Q:b_->d?->Prop}(hu:A.units+1<Â)(I:Inv X pins U H s)(g:gF H a y o)(ry:RelV y u)(rd:RelV d r)(h:∀w' s',Inv X pins U H s'->RelV (o.getD d) w'->Q w' s'):l_ (n_ X.prog X.w) A (ħ (.builtin "dict.get") [.ref a,u,r]) Q E s:=by
 rcases g with⟨kvs,k,e,ey,l⟩|⟨kvs,k,b,e,ey,eb,l⟩
 .subst ey;obtain⟨z,hd,vs,rel,dd⟩:=nA I.ag e;refine ł Í dd.typeIs č (aa4 _ _ _) (meets_dict_get_default (qy X.prog X.w) a (nj ry) hd r) ⟨_,dd.mapOf,h _ _ (I.tok _) ?_⟩;rw[l];exact(rel.val k).getD rd
 .subst ey;cases(show u=t_ b from ry);obtain⟨z,hd,xs,rel,dd⟩:=nB I.ag e;refine ł Í dd.typeIs č (aa4 _ _ _) (meetsH_dict_get_default (Į (qy X.prog X.w)) a b hd r) ⟨Õ hu,xa0 k xs ⟨lX I.ag eb,dd,h _ _ (I.tok _) ?_⟩⟩;rw[l];exact(rel.val k).getD rd
end
noncomputable def Vy (td ty:TE):TE:=λ U H Q=>td U H λx H1=>∃a,x= .ref a/\uI H1 a/\ty U H1 λy H2=>∃o,gF H2 a y o/\Q (o.getD .aj) H2
noncomputable def Vz (td ty tx:TE):TE:=λ U H Q=>td U H λx H1=>∃a,x= .ref a/\uI H1 a/\ty U H1 λy H2=>tx U H2 λz H3=>∃o,gF H3 a y o/\Q (o.getD z) H3
section
variable {X:Cx}{o e f:G?}{apos av:ğ}{td ty tx:TE}
theorem MI (hu:X.A.units+1<Â)(ho:PE X o td)(he:PE X e ty)(m:M1 X o "get" apos e av):PE X (.Call (.Attribute o "get" apos) [e] [] av) (Vy td ty):=by intro pins s U H Q I h;refine aaP m.base m.few m.line Ć Í abo (ah (ho pins s U H _ I h) λu s1 zQ=>?_);obtain⟨x,H1,I1,rx,a,ex,d,q1⟩:=zQ;subst ex;obtain rfl:u=t_ a:=rx;obtain⟨t1,t2,_⟩:=D2 I1 d;refine⟨t1,t2,?_⟩;rw[m.trees];refine å a_ (Ø (ä (ah (he pins s1 U H1 _ I1 q1) λiv s2 ⟨y,H2,I2,ry,ov,g,q2⟩=>ŀ ?_)));exact Vw hu I2 g ry λw' s3 I3 cz=>(xa0 _ H2 ⟨I3,cz,q2⟩)
theorem VA (hu:X.A.units+1<Â)(ho:PE X o td)(he:PE X e ty)(hf:PE X f tx)(m:M2 X o "get" apos e f av):PE X (.Call (.Attribute o "get" apos) [e,f] [] av) (Vz td ty tx):=by
 intro pins s U H Q I h;refine aaP m.base m.few m.line Ć Í abo (ah (ho pins s U H _ I h) λu s1 zQ=>?_);obtain⟨x,H1,I1,rx,a,ex,d,q1⟩:=zQ;subst ex;obtain rfl:u=t_ a:=rx;obtain⟨t1,t2,_⟩:=D2 I1 d;refine⟨t1,t2,?_⟩;rw[m.trees];refine å a_ (Ø (ä (ah (he pins s1 U H1 _ I1 q1) λiv s2 ⟨y,H2,I2,ry,q2⟩=>ä (ah (hf pins s2 U H2 _ I2 q2) λfv s3 ⟨z,H3,I3,rz,ov,g,q3⟩=>ŀ ?_))));exact Vx hu I3 g ry rz λw' s4 I4 cz=>(xa0 _ H3 ⟨I4,cz,q3⟩)
end
section
variable {B:Type}[ĝ B]
theorem VB {kvs:b? (B×V)}{k:B}{v:V}(h:aY kvs k=some v):k∈kvs.map (·.1):=by
 have q:(kvs.any λkv=>s? (kv.1=k))=true:=by rw[Ah,h];all_goals rfl
 obtain⟨p,hp,e⟩:=abu.mp q;exact H?.mpr ⟨p,hp,n? e⟩
end
noncomputable def cA (scope:Ã)(env:Ţ):b? (y?×c_):=(scope.names.filterMap λp=>if p.2=ì then(env.cells.lookup p.1).map λc=>(p.1,c)else none).reverse
theorem Ai {α:Type}{x:y?}{c:α}:∀{l:b? (y?×α)},l.lookup x=some c->(x,c)∈l
 |[],h=>by simp at h
 |(y,d)::r,h=>by
  rw[ð]at h;cases e:x==y with
  |true=>rw[e]at h;have h':d=c:=s_ h;rw[h',Ų e];exact p?
  |false=>rw[e]at h;exact q_ _ (Ai h)
theorem MJ {α:Type}{x:y?}{c:α}:∀{l:b? (y?×α)},(x,c)∈l->∃d,l.lookup x=some d
 |[],h=>by simp at h
 | (y,d)::r,h=>by
  rw[ð];cases e:x==y with
  |true=>exact⟨d,a_⟩
  |false=>
   rcases D?.mp h with z|z
   .have z1:x=y:=X? Prod.fst z;rw[z1,ŧ]at e;cases e
   .exact MJ z
theorem D3 {scope:Ã}{env:Ţ}{x:y?}{c:c_}:(x,c)∈cA scope env↔(x,ì)∈scope.names/\env.cells.lookup x=some c:=by
 unfold cA;rw[b?.mem_reverse,aaF];constructor
 .rintro⟨⟨y,k⟩,hm,e⟩
  by_cases hk:k=ì
  .subst hk;rw[m_ a_]at e;cases q:env.cells.lookup y with
   |none=>rw[q]at e;cases e
   |some d=>rw[q]at e;have e':(y,d)=(x,c):=s_ e;cases e';exact⟨hm,q⟩
  .rw[j? hk]at e;cases e
 .rintro⟨hm,q⟩
  exact⟨(x,ì),hm,by rw[m_ a_];rw[q];rfl⟩
theorem iZ {scope:Ã}{env:Ţ}{x:y?}{c:c_}(h:(cA scope env).lookup x=some c):env.cells.lookup x=some c:=(D3.mp (Ai h)).2
theorem D4 {scope:Ã}{env:Ţ}{x:y?}{c:c_}(hm:(x,ì)∈scope.names)(h:env.cells.lookup x=some c):(cA scope env).lookup x=some c:=by obtain⟨d,e⟩:=MJ (D3.mpr ⟨hm,h⟩);rw[e,<-h];exact(iZ e).symm
theorem D5 {env:Ţ}:∀(names:b? (y?×F0))(cs:b? (y?×c_)),(∀p∈names,p.2= .free->∃c,env.cells.lookup p.1=some c)->(forIn names cs λ(x:y?×F0)(cs:b? (y?×c_))=>(match x with
   |(name,kind)=>if(kind== .free)=true then(do let a<-adD env name;ó (Ĝ ((name,a)::cs)))else ó (Ĝ cs):Ī (Ì (b? (y?×c_)))))
   =ó ((names.filterMap λp=>if p.2=ì then(env.cells.lookup p.1).map λc=>(p.1,c)else none).reverse++cs)
 |[],cs,_=>a_
 | (n,k)::r,cs,h=>by
  rw[aep];have hr:∀p∈r,p.2= .free->∃c,env.cells.lookup p.1=some c:=λp hp=>h p (q_ _ hp);by_cases hk:k=ì
  .subst hk;obtain⟨c,hc⟩:=h (n,.free) p? a_;have e1:adD env n=ó c:=by unfold adD;rw[show env.cells.lookup n=some c from hc]
   show((do let a<-adD env n;ó (Ĝ ((n,a)::cs)):Ī (Ì (b? (y?×c_)))) >>= _)=_;rw[e1];simp only[pure_bind];rw[D5 r ((n,c)::cs) hr,Ħ,m_ a_,show env.cells.lookup n=some c from hc];simp
  .have hb:(k==ì)=false:=by simpa using hk
   show((if(k==ì)=true then(do let a<-adD env n;ó (Ĝ ((n,a)::cs)))else ó (Ĝ cs):Ī (Ì (b? (y?×c_)))) >>= _)=_;rw[hb,j? t?];simp only[pure_bind];rw[D5 r cs hr,Ħ,j? hk]
theorem VC {scope:Ã}{env:Ţ}(h:∀p∈scope.names,p.2= .free->∃c,env.cells.lookup p.1=some c):adC scope env=ó (cA scope env):=by have e:=D5 scope.names [] h;rw[â]at e;unfold adC cA;simp only[bind_pure];exact e
theorem gq {env:Ţ}{x:y?}:∀{names:b? (y?×F0)}{k:F0},(names.map λ(n,k)=>if(k==ì&&env.scope.kind== .function&&env.kindOf n==some .cell)then(n,ĩ)else(n,k)).lookup x=some k->∃k',(x,k')∈names/\(k'=k\/(k'= .free/\k= .cell))
 |[],_,h=>by simp at h
 | (n,j)::r,k,h=>by
  by_cases hc:(j==ì&&env.scope.kind== .function&&env.kindOf n==some .cell)=true
  .rw[A_]at h;have h':ÿ x ((if(j==ì&&env.scope.kind== .function&&env.kindOf n==some .cell)=true then(n,ĩ)else(n,j))::_)=some k:=h;rw[m_ hc,ð]at h';cases e:x==n with
   |true=>
    rw[e]at h';have h2:ĩ=k:=s_ h';have hj:j=ì:=by have:=hc;rw[L_,L_]at this;exact Ų this.1.1
    exact⟨j,by rw[Ų e];exact p?,.inr ⟨hj,h2.symm⟩⟩
   |false=>rw[e]at h';obtain⟨k',hm,q⟩:=gq h';exact⟨k',q_ _ hm,q⟩
  .rw[A_]at h;have h':ÿ x ((if(j==ì&&env.scope.kind== .function&&env.kindOf n==some .cell)=true then(n,ĩ)else(n,j))::_)=some k:=h;rw[j? hc,ð]at h';cases e:x==n with
   |true=>rw[e]at h';exact⟨j,by rw[Ų e];exact p?,.inl (s_ h')⟩
   |false=>rw[e]at h';obtain⟨k',hm,q⟩:=gq h';exact⟨k',q_ _ hm,q⟩
noncomputable def MK (N:b? y?)(sc scope:Ã)(N':b? y?)(ix:b? (g? i_)):o?:=scope.kind== .function&&scope.names.all (λy=>y.2 != .cell)&&scope.names.all (λy=>y.2 != .local||scope.names.lookup y.1==some .local)&&
 scope.names.all (λy=>y.2 != .free||sc.names.lookup y.1==some .cell||sc.names.lookup y.1==some .free)&&
 s? (ix.length=N'.length)&&s? N'.Nodup&&(N'.zip ix).all λp=>match p.2 with
  |none=>scope.names.all λy=>y.1 != p.1||y.2== .local
  |some k=>N[k]?==some p.1&&scope.names.lookup p.1==some .free&&scope.names.all λy=>y.1 != p.1||y.2== .free
structure i3 (N:b? y?)(sc scope:Ã)(N':b? y?)(ix:b? (g? i_)):Prop where
 kind:scope.kind= .function
 ML:∀y∈scope.names,y.2≠.cell
 names:∀y∈scope.names,y.2= .local->scope.names.lookup y.1=some .local
 frees:∀y∈scope.names,y.2= .free->sc.names.lookup y.1=some .cell\/sc.names.lookup y.1=some .free
 len:ix.length=N'.length
 nd:N'.Nodup
 own:∀(i:i_)(x:y?),N'[i]?=some x->ix[i]?=some none->∀y∈scope.names,y.1=x->y.2= .local
 out:∀(i:i_)(x:y?)(k:i_),N'[i]?=some x->ix[i]?=some (some k)->N[k]?=some x/\(x,ì)∈scope.names/\∀y∈scope.names,y.1=x->y.2= .free
theorem xr {N:b? y?}{sc scope:Ã}{N':b? y?}{ix:b? (g? i_)}(h:MK N sc scope N' ix=true):i3 N sc scope N' ix:=by
 unfold MK at h;simp only[L_,ñ,Œ,adv,Ô,O_,ne_eq]at h;obtain⟨⟨⟨⟨⟨⟨h1,h2⟩,h3⟩,h4⟩,h5⟩,h6⟩,h7⟩:=h;have nE:∀{i:i_}{x:y?}{o:g? i_},N'[i]?=some x->ix[i]?=some o->(x,o)∈N'.zip ix:=λ{i x o} a b=>by refine u_ (i:=i) ?_;rw[b?.getElem?_zip_eq_some];exact⟨a,b⟩
 refine⟨h1,λy hy=>h2 y hy,λy hy e=>?_,λy hy e=>?_,h5,h6,λi x a b y hy e=>?_,λi x k a b=>?_⟩
 .rcases h3 y hy with z|z
  .exact w_ e z
  .exact z
 .rcases h4 y hy with(z|z)|z
  .exact w_ e z
  .exact .inl z
  .exact .inr z
 .have q:=h7 _ (nE a b);simp only[ñ,Œ,adv,Ô,ne_eq]at q;rcases q y hy with z|z
  .exact w_ e z
  .exact z
 .have q:=h7 _ (nE a b);simp only[L_,ñ,Œ,adv,Ô,ne_eq]at q;obtain⟨⟨q1,q2⟩,q3⟩:=q;refine⟨q1,Ai q2,λy hy e=>?_⟩;rcases q3 y hy with z|z
  .exact w_ e z
  .exact z
noncomputable def gZ (ix:b? (g? i_))(U:St):St:=ix.map λo=>match o with
 |some k=>(U[k]?).join
 |none=>none
noncomputable def bM (X:Cx)(scope:Ã)(N':b? y?)(C:c_)(fp:b? c_)(aa:d?)(ae:Hp):Cx:={X with N:=N',ar:=aa,bh:=ae,env:=ac9 scope (cA scope X.env) C X.env,outer:=X.stack,stack:=X.stack,ex:=fp,fn:=λ_=>false,pn:=[],xe:=λ_ _=>w?}
noncomputable abbrev eP (its:b? b_)(n:i_):L?:={cls:=.type "list",data:=.seq its.toArray n}
section
variable {X:Cx}{scope:Ã}{N':b? y?}{ix:b? (g? i_)}{C:c_}{fp:b? c_}{aa:d?}{ae:Hp}{pins:b? (c_×L?)}{U:St}
theorem MM (I:Inv X pins U ae aa){x:y?}{c:c_}(h:(cA scope X.env).lookup x=some c):c<aa.heap.objs.size:=by obtain⟨v,q⟩:=I.cell x c (iZ h);exact q.lt
theorem VD (I:Inv X pins U ae aa){b:c_}(h:aa.heap.objs.size<=b):b∉bf X.stack:=λz=>by
 rcases D?.mp (I.oP b z)with e|e
 .rw[e]at h;exact w_ (F? I.lt h) (Ě _)
 .exact I.Lp h e
end
structure nG (N:b? y?)(sc scope:Ã)(N':b? y?)(ix:b? (g? i_))(ow:g? y?):Prop where
 kind:scope.kind= .function
 one:scope.names.filter (λz=>z.2== .cell)=ow.toList.map λy=>(y,.cell)
 names:∀y∈scope.names,y.2= .local->scope.names.lookup y.1=some .local
 frees:∀y∈scope.names,y.2= .free->sc.names.lookup y.1=some .cell\/sc.names.lookup y.1=some .free
 nf:∀y,ow=some y->(y,ì)∉scope.names
 len:ix.length=N'.length
 out:∀(i:i_)(x:y?)(k:i_),N'[i]?=some x->ix[i]?=some (some k)->N[k]?=some x/\(x,ì)∈scope.names/\∀y∈scope.names,y.1=x->y.2= .free
theorem i3.g {N:b? y?}{sc scope:Ã}{N':b? y?}{ix:b? (g? i_)}(co:i3 N sc scope N' ix):nG N sc scope N' ix none:=⟨co.kind,b?.filter_eq_nil_iff.mpr λz hz e=>co.ML z hz (Ų e),co.names,co.frees,(λ_ z=>nomatch z),co.len,co.out⟩
theorem nG.cell {N:b? y?}{sc scope:Ã}{N':b? y?}{ix:b? (g? i_)}{ow:g? y?}{x:y?}(co:nG N sc scope N' ix ow)(h:(x,ĩ)∈scope.names):ow=some x:=by have z:(x,ĩ)∈scope.names.filter (λz=>z.2== .cell):=D_.mpr ⟨h,a_⟩;rw[co.one]at z;obtain⟨y,hy,e⟩:=H?.mp z;rw[<-(Ó e).1];exact g?.mem_toList.mp hy
theorem nG.own {N:b? y?}{sc scope:Ã}{N':b? y?}{ix:b? (g? i_)}{ow:g? y?}{y:y?}(co:nG N sc scope N' ix ow)(h:ow=some y):(y,ĩ)∈scope.names:=by
 have z:(y,ĩ)∈scope.names.filter (λz=>z.2== .cell):=by rw[co.one,h];exact p?
 exact(D_.mp z).1
noncomputable def own (ow:g? y?)(C:c_):b? (y?×c_):=ow.toList.map λy=>(y,Á C)
noncomputable def eA (X:Cx)(scope:Ã)(N':b? y?)(ow:g? y?)(C:c_)(fp:b? c_)(aa:d?)(ae:Hp):Cx:={X with N:=N',ar:=aa,bh:=ae,env:=ac9 scope (own ow C++cA scope X.env) C X.env,outer:=X.stack,stack:=X.stack,ex:=fp,fn:=λz=>ow==some z,pn:=[],xe:=λ_ _=>w?}
section
variable {X:Cx}{scope:Ã}{N':b? y?}{ix:b? (g? i_)}{ow:g? y?}{C:c_}{fp:b? c_}{aa:d?}{ae:Hp}{pins:b? (c_×L?)}{U:St}
theorem nH {x:y?}{c:c_}(h:(own ow C++cA scope X.env).lookup x=some c):(ow=some x/\@Eq i_ c (Á C))\/(cA scope X.env).lookup x=some c:=by
 cases ow with
 |none=>exact .inr h
 |some y=>
  have h:((y,Á C)::cA scope X.env).lookup x=some c:=h;rw[ð]at h;cases e:x==y with
  |true=>rw[e]at h;exact .inl ⟨by rw[Ų e],(s_ h).symm⟩
  |false=>rw[e]at h;exact .inr h
theorem MN {x:y?}{c:c_}(n:ow≠some x)(h:(cA scope X.env).lookup x=some c):(own ow C++cA scope X.env).lookup x=some c:=by
 cases ow with
 |none=>exact h
 |some y=>show((y,Á C)::cA scope X.env).lookup x=some c;rw[ð,Î.mpr λz=>n (by rw[z])];exact h
theorem MO (I:Inv X pins U ae aa)(co:nG X.N X.env.scope scope N' ix ow)(hC:@ž i_ _ aa.heap.objs.size C)(hf:∀b∈fp,dM X pins ae b)(aw:∀b∈fp,b<aa.heap.objs.size):(eA X scope N' ow C fp aa ae).Ok where
 mod:=I.ok.mod
 kind:=co.kind
 glob:=I.ok.glob
 blt:=I.ok.blt
 above:=hC
 inj:=λx z c e1 e2=>by
  have lt:∀{u:y?},(cA scope X.env).lookup u=some c->@ś i_ _ c aa.heap.objs.size:=λh=>MM I h;rcases nH e1 with⟨f1,q1⟩|f1<;>rcases nH e2 with⟨f2,q2⟩|f2
  .exact s_ (f1.symm.trans f2)
  .have:=lt f2;have q:@Eq i_ c (Á C):=q1;lia
  .have:=lt f1;have q:@Eq i_ c (Á C):=q2;lia
  .exact I.ok.inj x z c (iZ f1) (iZ f2)
 has:=λx h=>by
  have h1:∃k,(adT scope X.env).names.lookup x=some k/\(k= .cell\/k= .free):=by
   rcases h with h|h
   .exact⟨_,h,.inl a_⟩
   .exact⟨_,h,.inr a_⟩
  obtain⟨k,h1,h2⟩:=h1;obtain⟨k',hm,q⟩:=gq h1;by_cases hx:ow=some x
  .refine⟨Á C,?_⟩;show ÿ x (own ow C++cA scope X.env)=_;rw[hx];show ÿ x ((x,Á C)::cA scope X.env)=_;rw[ð,ŧ]
  have hk:k'= .free:=by
   rcases q with q|⟨q,_⟩
   .rcases h2 with z|z
    .exact w_ (co.cell (by rw[<-z,<-q];exact hm)) hx
    .exact q.trans z
   .exact q
  rw[hk]at hm;obtain⟨c,hc⟩:=I.ok.has x (co.frees _ hm a_);exact⟨c,MN hx (D4 hm hc)⟩
 oN:=λx c h e=>by
  rcases nH e with⟨_,q⟩|f
  .have q':@Eq i_ c (Á C):=q;show@ž i_ _ aa.heap.objs.size c;lia
  .exact w_ (D3.mp (Ai f)).1 (co.nf x (Ų (show(ow==some x)=true from h)))
 hd:=I.ok.hd
 frames:=I.ok.frames
 cX:=.inl a_
 zG:=λb hb=>⟨N? (F? (aw b hb) hC),λx c e=>(nH e).elim (λq=>by have q':@Eq i_ c (Á C):=q.2;have:@ś i_ _ b aa.heap.objs.size:=aw b hb;show¬@Eq i_ c b;lia) λf=>(hf b hb).2.2.2.2.1 x c (iZ f)⟩
 bs:=I.bs
 jY:=P_ I.ok.jY I.sz
 oO:=λb o e hb=>by
  rcases(hf b hb).2.2.2.1 with z|z
  .exact I.ok.oO b o e z
  .exact w_ (F? (r? (I.ok.bs b o e).1) z) (Ě _)
 rA:=λb hb z=>by
  rcases D?.mp (I.oP b z)with e|e
  .exact(hf b hb).2.1 e
  .exact(hf b hb).2.2.1 e
 fg:=I.stack
 iM:=I.zH
theorem VE (I:Inv X pins U ae aa)(co:nG X.N X.env.scope scope N' ix ow){D:c_}{h₁:k?}{t':i_}(hD:@Eq i_ D aa.heap.objs.size)(hC:@Eq i_ C (aa.heap.objs.size+1))(hf:∀b∈fp,dM X pins ae b)(aw:∀b∈fp,b<aa.heap.objs.size)(old:∀b o,aa.heap.get? b=some o->h₁.get? b=some o)(cK:h₁.get? D=some (eP [] 0)){m:y?->g? b_}(rM:h₁.Ns C m)(uJ:ow≠none->h₁.IsCell (Á C) none):
  Inv (eA X scope N' ow C fp aa ae) [(D,eP [] 0)] (gZ ix U) ae {aa with heap:=h₁,toks:=t'} where
 ok:=MO I co (by lia) hf aw
 os:=a_
 bare:=I.bare
 base:=Un.kept old
 loc :=by
  refine⟨m,rM,λi x v e1 e2 e3=>?_⟩;unfold gZ at e2;rw[y_]at e2;cases q:ix[i]? with
  |none=>rw[q]at e2;cases e2
  | some o=>
   rw[q]at e2;cases o with
   |none=>cases e2
   | some k=>
    have gG:(U[k]?).join=some v:=s_ e2;have pB:U[k]?=some (some v):=by
     cases z:U[k]? with
     |none=>rw[z]at gG;cases gG
     |some o=>rw[z]at gG;exact X? some gG
    obtain⟨o1,o2,o3⟩:=co.out i x k e1 q;have hk:X.env.kindOf x=some .cell\/X.env.kindOf x=some .free:=co.frees _ o2 a_;have VF:tj X.env.scope x:=.inr hk;obtain⟨m0,_,hl⟩:=I.loc;obtain⟨u,r,l⟩:=hl k x v o1 pB VF;refine⟨u,r,?_⟩;rcases l with⟨l,_⟩|⟨_,c,ec,dz⟩
    .rcases hk with z|z
     .rw[z]at l;cases l
     .rw[z]at l;cases l
    .refine .inr ⟨?_,c,MN (λz=>by have:=o3 _ (co.own z) a_;cases this) (D4 o2 ec),?_⟩
     .rcases e3 with z|z|z
      .obtain⟨k',hm,q⟩:=gq z;rcases q with q|⟨_,q⟩
       .have:=o3 _ hm a_;rw[show k'=F0.local from q]at this;cases this
       .cases q
      .exact .inl z
      .exact .inr z
     .obtain⟨o,ho,hd⟩:=dz;exact⟨o,old _ _ ho,hd⟩
 cell:=λx c e=>by
  rcases nH e with⟨w,q⟩|f
  .rw[show c=Á C from q];exact⟨_,uJ (by rw[w];intro z;cases z)⟩
  obtain⟨v,o,ho,hd⟩:=I.cell x c (iZ f);exact(xa0 v o ⟨old _ _ ho,hd⟩)
 free:=I.ag.fresh (by show@ž i_ _ aa.heap.objs.size C;lia)
 dH:=λx c e=>(nH e).elim (λq=>I.ag.fresh (by have q':@Eq i_ c (Á C):=q.2;show@ž i_ _ aa.heap.objs.size c;lia)) λf=>I.dH x c (iZ f)
 pin:=λp hp=>by
  have e:p=(D,eP [] 0):=by simpa[eA]using hp
  subst e;refine⟨cK,I.ag.fresh (by show@ž i_ _ aa.heap.objs.size D;lia),by show¬@Eq i_ D C;lia,VD I (by show@ž i_ _ aa.heap.objs.size D;lia),λv z=>?_⟩;have z':acb _ _=abx v:=z;cases z'
 ag:=I.ag.kept old
 len:=by unfold gZ;rw[g_];exact co.len
theorem VG (I:Inv X pins U ae aa){D:c_}(hD:@Eq i_ D aa.heap.objs.size)(hf:∀b∈fp,dM X pins ae b){ys:b? V}{its:b? b_}{n:i_}{U':St}{H':Hp}{s':d?}(I':Inv (eA X scope N' ow C fp aa ae) [(D,eP its n)] U' H' s')(hv:Vals ys its)(hz:ys.length<=k_):Inv X pins U (upd H' D (.lst ys)) s':=by
 obtain⟨dp,dn,_,_,_⟩:=I'.pin (D,eP its n) (by simp);have VH:s'.heap.get? D=some (eP its n):=dp;have MP:H' D=none:=dn;have u:=I'.base;have ne:∀b o,aa.heap.get? b=some o->b≠D:=λb o e z=>by have h1:@ś i_ _ b aa.heap.objs.size:=r? e;have h2:@Eq i_ b D:=z;lia
 have nI:∀b o,ae b=some o->b≠D:=λb o e z=>by have h1:@ś i_ _ b aa.heap.objs.size:=I.ag.lt e;have h2:@Eq i_ b D:=z;lia
 refine I.De (ch:=fp) I'.os ⟨u.keep,u.slot,λb o e q hb=>?_,u.there,λb xs q=>?_,λb o xs q=>?_,λb ps q=>?_⟩ (λb o e=>?_) I'.bare λb hb=>?_
 .rw[jd (ne b o e)];exact u.free b o e q hb
 .rw[jd (nI b _ q)];exact u.dY b xs q
 .rw[jd (nI b _ q)];exact u.dG b o xs q
 .rw[jd (nI b _ q)];exact u.eI b ps q
 .by_cases hb:b=D
  .subst hb;rw[ja]at e;cases e;exact⟨hz,xa0 its n ⟨hv,VH⟩⟩
  .rw[jd hb]at e;exact(I'.ag b o e).cG (λc v _ q=>q) (λc q=>by rw[jd (jg q MP)];exact q) λc xs q=>by rw[jd (jg q MP)];exact q
 .obtain⟨_,f1,_,f3,f4,f5⟩:=hf b hb;exact⟨f3,f1,f4,f5⟩
end
section
variable {X:Cx}{scope:Ã}{N':b? y?}{ix:b? (g? i_)}{C:c_}{fp:b? c_}{aa:d?}{ae:Hp}{pins:b? (c_×L?)}{U:St}
theorem VI (I:Inv X pins U ae aa)(co:i3 X.N X.env.scope scope N' ix)(hC:@ž i_ _ aa.heap.objs.size C)(hf:∀b∈fp,dM X pins ae b)(aw:∀b∈fp,b<aa.heap.objs.size):(bM X scope N' C fp aa ae).Ok:=MO (ow:=none) I co.g hC hf aw
end
noncomputable abbrev eB:b_->d?->Prop:=λ_ _=>w?
section
variable {prog:D'}{w:I?}{A:C_}{R:š->d?->Prop}{s:d?}
theorem VJ {elt target iter:G?}{ifs:b? G?}{scope:Ã}{pos:ğ}{it acc:b_}{env:Ţ}(I:i_->d?->Prop)(turn:∀n s,I n s->l_ (n_ prog w) A (ĺ it) (λr ai=>match r with
   |none=>R (.ok .next) ai
   |some v=>l_ (n_ prog w) A (Ļ target it v) (λ_ ai=>l_ (n_ prog w) A (aaj target env v) (λ_ aa=>l_ (n_ prog w) A (forIn ifs true λc r=>if r=true then do let ok<-abP c env (U? c env);ó (Ĝ ok)else ó (Ĝ r)) (λok aJ=>if ok=true then l_ (n_ prog w) A (U? elt env) (λx cL=>l_ (n_ prog w) A (ħ (.builtin "list.append") [acc,x]) (λ_ i4=>∃m,m<n/\I m i4) eB cL) eB aJ
      else ∃m,m<n/\I m aJ) eB aa) eB ai) eB ai) eB s)(n:i_)(h:I n s):Ú (n_ prog w) A (.compLoop (.ListComp elt [⟨target,iter,ifs,0⟩] scope pos) 0 it acc env) R s:=by
 refine aaR a_ I (λn s hI=>?_) n h;show l_ _ A ((compTurn (.ListComp elt [⟨target,iter,ifs,0⟩] scope pos) 0 it acc env).onRaise (λx=>do acr x env;aev x)) _ _ s;refine wpAny_noted ?_;rw[compTurn_list];refine d_ (á (d_ (G_ (turn n s hI) (λr ai h₁=>?_) λ_ _ h'=>h'.elim)));cases r with
 |none=>exact j_ h₁
 |some v=>
  refine d_ (G_ h₁ (λ_ ai h₁=>?_) λ_ _ h'=>h'.elim);refine d_ (G_ h₁ (λ_ aa bX=>d_ (G_ bX (λok aJ fN=>?_) λ_ _ h'=>h'.elim)) λ_ _ h'=>h'.elim);cases ok with
  |false=>exact j_ ⟨a_,fN⟩
  |true=>exact d_ (d_ (G_ fN (λx cL cM=>d_ (G_ cM (λ_ i4 bb=>j_ (j_ ⟨a_,bb⟩)) λ_ _ h'=>h'.elim)) λ_ _ h'=>h'.elim))
end
noncomputable def nJ (X:Cx)(ifs:b? G?)(t:TT):Prop:=∀(pins:b? (c_×L?))(s:d?)(U:St)(H:Hp)(Q:o?->Hp->Prop),Inv X pins U H s->t U H Q->l_ (n_ X.prog X.w) X.A (forIn ifs true λc r=>if r=true then do let ok<-abP c X.env (U? c X.env);ó (Ĝ ok)else ó (Ĝ r)) (TP X pins U Q) X.xe s
noncomputable def pC:TT:=λ_ H Q=>Q true H
theorem lY {X:Cx}:nJ X [] pC:=λ_ _ _ H _ I h=>wpAny_tests_nil ⟨H,I,h⟩
theorem rO {X:Cx}{c:G?}{t:TT}(h:PT X c t):nJ X [c] t:=λpins s U H Q I q=>wpAny_tests_one (h pins s U H Q I q)
theorem MQ:∀(names:b? (y?×F0))(n:i_)(acc:b? (y?×c_))(h:k?),names.filter (λz=>z.2== .cell)=[]->Ŭ n names acc=acc/\abb h names=h:=λnames=>by
 induction names with
 |nil=>exact λ_ _ _ _=>⟨a_,a_⟩
 | cons p r ih=>
  intro n acc h e;obtain⟨x,k⟩:=p;have hk:(k==ĩ)=false:=by
   cases q:(k==ĩ)with
   |false=>rfl
   |true=>rw[V' (by exact q)]at e;cases e
  rw[É (by rw[show((x,k):y?×F0).2=k from a_,hk];decide)]at e;unfold Ŭ abb;rw[hk,j? t?,j? t?];exact ih n acc h e
theorem MR {ow:g? y?}:∀(names:b? (y?×F0))(n:i_)(acc:b? (y?×c_))(h:k?),h.objs.size=n->names.filter (λz=>z.2== .cell)=(ow.toList.map λy=>(y,.cell))->Ŭ n names acc=(ow.toList.map λy=>(y,n))++acc/\(∀b o,h.get? b=some o->(abb h names).get? b=some o)/\(ow≠none->(abb h names).IsCell n none)
 |[],n,acc,h,hn,e=>by
  cases ow with
  |none=>exact⟨a_,λ_ _ z=>z,λz=>w_ a_ z⟩
  |some y=>cases e
 | (x,k)::r,n,acc,h,hn,e=>by
  unfold Ŭ abb;cases q:(k==ĩ)with
  |true=>
   rw[V' (by exact q)]at e;cases ow with
   |none=>cases e
   |some y=>obtain⟨e1,e2⟩:=ĸ e;rw[m_ a_,m_ a_,(Ó e1).1,(MQ r _ _ h e2).1,(MQ r 0 acc _ e2).2];refine⟨a_,λb o e=>f_ _ e,λ_=>⟨{cls:=.type "cell",data:=.cell none},?_,a_⟩⟩;rw[<-hn];exact v? _ a_
  |false=>rw[É (by rw[show((x,k):y?×F0).2=k from a_,q];decide)]at e;rw[j? t?,j? t?];exact MR r n acc h hn e
theorem VL {M:aak}{A:C_}{E:b_->d?->Prop}{s:d?}{scope:Ã}{globals:c_}{cl:b? (y?×c_)}{qual:y?}{ow:g? y?}{env:Ţ}{Q:Ţ->d?->Prop}(hc:scope.names.filter (λz=>z.2== .cell)=ow.toList.map λy=>(y,.cell))(hQ:∀h',h'.Ns s.heap.objs.size (λ_=>none)->(ow≠none->h'.IsCell (s.heap.objs.size+1) none)->(∀b o,s.heap.get? b=some o->h'.get? b=some o)->Q (newEnv scope s.heap.objs.size globals (own ow s.heap.objs.size++cl) qual none .none (some env) abU) {s with heap:=h'}):
  l_ M A (Ň scope globals cl [] qual none .none (some env)) Q E s:=by
 simp only[Ň,g?.isSome_some,abz];refine d_ (wpAny_alloc (d_ (wpAny_layCells _ (λname kind cells=>by cases q:kind==ĩ<;>simp[q]) _ _ _ _ ?_)));have sz:(s.heap.push {cls:=.type "dict",data:=.dict #[]}).objs.size=s.heap.objs.size+1:=Ę ..;obtain⟨e1,kp,uJ⟩:=MR (ow:=ow) scope.names (s.heap.objs.size+1) cl (s.heap.push {cls:=.type "dict",data:=.dict #[]}) sz hc;show l_ M A _ Q E _;rw[show({s with heap:=s.heap.push {cls:=.type "dict",data:=.dict #[]}}:d?).heap.objs.size=s.heap.objs.size+1 from sz,e1];refine d_ (j_ (j_ ?_));exact hQ _ ((k?.Ns.new s.heap (.type "dict")).keeps kp) uJ λb o e=>kp b o (f_ _ e)
noncomputable def rP (Q:VK)(ys:b? V)(H:Hp):Prop:=∀p,H p=none->Q (.ref p) (upd H p (.lst ys))
noncomputable def MS (ix:b? (g? i_))(wi:TI)(g:TG)(ti:TT)(te:TE):TE:=λ U H Q=>wi U H λJ H1=>∃W:i_->i_->b? V->St->Hp->Prop,(∃m,W 0 m [] (gZ ix U) H1)/\∀i m ys U H,W i m ys U H->ys.length<=k_/\((J.stop i H/\rP Q ys H)\/(J.go i H/\∃N:b? V->St->Hp->Prop,(∀br U' H',N br U' H'->∃m',m'<m/\W (i+1) m' br U' H')/\∀x H',J.dJ i H x H'->g x U H' λ U2 H2=>ti U2 H2 λb H3=>if b=true then te U2 H3 λy H4=>N (ys++[y]) U2 H4 else N ys U2 H3))
structure nK (X:Cx)(pins:b? (c_×L?))(H:Hp)(s:d?)(C:c_):Prop where
 ns:∃m,s.heap.Ns C m
 fr:H C=none
 nl:C≠X.env.locals
 ab:X.ar.heap.objs.size<=C
 nc:∀x c,X.env.cells.lookup x=some c->c≠C
 np:∀p∈X.pn++pins,p.1≠C
section
variable {X:Cx}
theorem VM {scope:Ã}{N':b? y?}{ow:g? y?}{ix:b? (g? i_)}{pins:b? (c_×L?)}{U:St}{tg iter elt:G?}{ifs:b? G?}{pos:ğ}{g:TG}{ti:TT}{te:TE}{E:b_->d?->Prop}(co:nG X.N X.env.scope scope N' ix ow)(hc:X.calm=true)(hg:∀C fp aa ae,PG (eA X scope N' ow C fp aa ae) tg g)(hi:∀C fp aa ae,nJ (eA X scope N' ow C fp aa ae) ifs ti)(he:∀C fp aa ae,PE (eA X scope N' ow C fp aa ae) elt te){ae:Hp}{aa:d?}{J:It}{fp:b? c_}{it:c_}{tn:i_->k?->Prop}{QF:b? V->Hp->Prop}(I:Inv X pins U ae aa)(T:Turn X.prog X.w X.K tg J fp it tn)(st:tn 0 aa.heap)(hf:∀b∈fp,dM X pins ae b){W:i_->i_->b? V->St->Hp->Prop}(w0:∃m,W 0 m [] (gZ ix U) ae)(hW:∀i m ys U H,W i m ys U H->ys.length<=k_/\((J.stop i H/\QF ys H)\/(J.go i H/\∃N:b? V->St->Hp->Prop,(∀br U' H',N br U' H'->∃m',m'<m/\W (i+1) m' br U' H')/\∀x H',J.dJ i H x H'->g x U H' λ U2 H2=>ti U2 H2 λb H3=>if b=true then te U2 H3 λy H4=>N (ys++[y]) U2 H4 else N ys U2 H3))){RR:b_->c_->š->d?->Prop}(uK:∀D C ys H' s',Inv X pins U (upd H' D (.lst ys)) s'->H' D=none->QF ys H'->nK X pins (upd H' D (.lst ys)) s' C->RR (.ref D) C (.ok .next) s'):
  l_ (n_ X.prog X.w) X.A (newList []) (λacc aJ=>l_ (n_ X.prog X.w) X.A (Ň scope X.env.globals (cA scope X.env) [] X.env.qual none .none (some X.env)) (λeQ cL=>Ú (n_ X.prog X.w) X.A (.compStart (.ListComp elt [⟨tg,iter,ifs,0⟩] scope pos) 0 (.ref it) acc {eQ with scope:=adT scope X.env}) (RR acc eQ.locals) cL) E aJ) E aa:=by
 have aw:∀b∈fp,@ś i_ _ b aa.heap.objs.size:=λb hb=>by obtain⟨o,e,_⟩:=T.obj _ _ st b hb;exact r? e
 refine ù (VL co.one λh₁ bI dO cB=>?_);dsimp only at bI dO cB⊢;generalize rQ:aa.heap.push {cls:=.type "list",dict:=none,data:=.seq ([]:b? b_).toArray}=H2 at bI dO cB⊢;have hC:@Eq i_ H2.objs.size (aa.heap.objs.size+1):=by rw[<-rQ,Ę]
 have below:∀b:i_,b<aa.heap.objs.size->¬@Eq i_ b H2.objs.size:=λb hb=>by lia
 have D6:¬@Eq i_ aa.heap.objs.size H2.objs.size:=by lia
 have old:∀b o,aa.heap.get? b=some o->h₁.get? b=some o:=λb o e=>cB b o (rQ ▸ f_ _ e);have cK:h₁.get? aa.heap.objs.size=some (eP [] 0):=cB _ _ (rQ ▸ v? _ a_);have eR:tn 0 h₁:=T.keep _ _ _ st λb _ o e=>old b o e;generalize D7:H2.objs.size=C at bI dO hC below D6⊢;generalize MT:aa.heap.objs.size=D at cK D6⊢;have loop:∀aJ:d?,aJ={aa with heap:=h₁}->Ú (n_ X.prog X.w) X.A (.compLoop (.ListComp elt [⟨tg,iter,ifs,0⟩] scope pos) 0 (.ref it) (.ref D) (ac9 scope (own ow C++cA scope X.env) C X.env)) (RR (.ref D) C) aJ:=by
  rintro aJ rfl
  obtain⟨m0,w0⟩:=w0;have I3:Inv (eA X scope N' ow C fp aa ae) [(D,eP [] 0)] (gZ ix U) ae {aa with heap:=h₁}:=VE I co MT.symm hC hf aw old cK bI dO;refine VJ (λk s'=>∃i ys its n U' H',Inv (eA X scope N' ow C fp aa ae) [(D,eP its n)] U' H' s'/\Vals ys its/\tn i s'.heap/\(∀b∈fp,H' b=none)/\W i k ys U' H') ?_ m0 (xa5 0 [] [] 0 _ _ ⟨I3,.nil,eR,λb hb=>(hf b hb).1,w0⟩)
  rintro k s' ⟨i,ys,its,n,U',H',I',hv,bL,pD,w'⟩
  have fO:∀{H':Hp}{o:L?},(∀b∈fp,H' b=none)->∀b∈fp,dM (eA X scope N' ow C fp aa ae) [(D,o)] H' b:=λ{H' o} hn b hb=>by
   refine⟨hn b hb,below b (aw b hb),λz=>?_,.inl hb,λx c e=>(nH e).elim (λq=>by have q':@Eq i_ c (Á C):=q.2;have:@ś i_ _ b aa.heap.objs.size:=aw b hb;show¬@Eq i_ c b;lia) λf=>(hf b hb).2.2.2.2.1 x c (iZ f),λp hp z=>?_⟩
   .rcases D?.mp (I.oP b z)with e|e
    .exact(hf b hb).2.1 e
    .exact(hf b hb).2.2.1 e
   .have e:p=(D,o):=by simpa[eA]using hp
    subst e;have z':@Eq i_ D b:=z;have z2:=aw b hb;lia
  obtain⟨hz,VN⟩:=hW i k ys U' H' w';rcases VN with⟨stop,q⟩|⟨go,N,hN,step⟩
  .refine ah (T.done (eA X scope N' ow C fp aa ae) a_ a_ a_ hc i _ s' U' H' eB I' (fO pD) bL stop) λr s4 ⟨hr,I4⟩=>?_;subst hr;obtain⟨_,dn,_⟩:=I4.pin (D,eP its n) (by simp);have cf:H' C=none:=I4.free;refine uK D C ys H' s4 (VG I MT.symm hf I4 hv hz) dn q ⟨?_,by rw[jd (M_ D6)];exact cf,?_,?_,λx c e=>?_,λp hp=>?_⟩
   .obtain⟨m,hn,_⟩:=I4.loc;exact⟨m,hn⟩
   .have z:@ś i_ _ X.env.locals aa.heap.objs.size:=I.lt;show¬@Eq i_ C X.env.locals;lia
   .have z:@ž i_ _ X.ar.heap.objs.size aa.heap.objs.size:=I.sz;show@ž i_ _ X.ar.heap.objs.size C;lia
   .obtain⟨v,z⟩:=I.cell x c e;have z2:@ś i_ _ c aa.heap.objs.size:=z.lt;show¬@Eq i_ c C;lia
   .have z2:@ś i_ _ p.1 aa.heap.objs.size:=r? (I.pin p hp).1;show¬@Eq i_ p.1 C;lia
  .refine ah (T.item (eA X scope N' ow C fp aa ae) a_ a_ a_ hc i _ s' U' H' eB I' (fO pD) bL go) λr s4 zQ=>?_;obtain⟨u,hr,h4⟩:=zQ;subst hr;refine ah h4 λ_ s5 zQ=>?_;obtain⟨x,H5,I5,r5,y5,gT,tJ⟩:=zQ;have tK:=I5.pinned (fO tJ) (T.obj _ _ gT);refine ah (hg C fp aa ae _ s5 U' H5 x u _ tK r5 (step x H5 y5)) λ_ s6 zQ=>?_;obtain⟨U6,H6,I6,q6⟩:=zQ;refine ah (hi C fp aa ae _ s6 U6 H6 _ I6 q6) λok s7 zQ=>?_;obtain⟨H7,I7,q7⟩:=zQ;have fP:∀{U8:St}{H8:Hp}{s8:d?},Inv (eA X scope N' ow C fp aa ae) ([(D,eP its n)]++lP fp s5.heap) U8 H8 s8->∀b∈fp,∀o,s5.heap.get? b=some o->s8.heap.get? b=some o/\H8 b=none:=λ{U8 H8 s8} I8 b hb o e=>by
    have z:=I8.pin (b,o) (z_ _ (z_ _ (zR hb e)));exact⟨z.1,z.2.1⟩
   cases ok with
   |false=>
    have fQ:N ys U6 H7:=by have fQ:=q7;rw[j? t?]at fQ;exact fQ
    obtain⟨m',hm,w7⟩:=hN _ _ _ fQ;refine⟨m',hm,xa5 (i+1) ys its n U6 H7 ⟨I7.tI,hv,T.keep _ _ _ gT λb hb o e=>(fP I7 b hb o e).1,λb hb=>?_,w7⟩⟩;obtain⟨o,e,_⟩:=T.obj _ _ gT b hb;exact(fP I7 b hb o e).2
   | true=>
    have fQ:te U6 H7 λy H4=>N (ys++[y]) U6 H4:=by have fQ:=q7;rw[m_ a_]at fQ;exact fQ
    show l_ _ _ _ _ _ _;refine ah (he C fp aa ae _ s7 U6 H7 _ I7 fQ) λyv s8 zQ=>?_;obtain⟨y,H8,I8,r8,q8⟩:=zQ;obtain⟨m',hm,w8⟩:=hN _ _ _ q8;obtain⟨z1,z2,z3,z4,z5⟩:=I8.pin (D,eP its n) (by simp);have zD:s8.heap.get? D=some (eP its n):=z1;have uL:=hv.length;refine append_at (hsz:=by rw[G'];lia) zD λh9 MU VO=>?_;have VP:Inv (eA X scope N' ow C fp aa ae) (lP fp s5.heap) U6 H8 s8:=I8.zI λp hp=>I8.pin p (z_ _ (z_ _ hp));have I9:Inv (eA X scope N' ow C fp aa ae) (lP fp s5.heap) U6 H8 {s8 with heap:=h9}:=VP.turned (it:=D) (t':=s8.toks) (λb o hb e=>(MU.2 b hb).trans e) z2 z3 (.inr (by show aa.heap.objs.size<=D;lia)) (λx c e=>(nH e).elim (λq=>by have q':@Eq i_ c (Á C):=q.2;show¬@Eq i_ c D;lia) λf=>by have z:@ś i_ _ c aa.heap.objs.size:=MM (scope:=scope) I f;show¬@Eq i_ c D;lia) (λp hp=>by
      have lZ:p∈lP fp s5.heap:=by simpa[eA]using hp
      have z:=aw _ (LL lZ).1;show¬@Eq i_ p.1 D;lia);have D8:h9.get? D=some (eP (its++[yv]) (n+1)):=by
     rw[VO];simp[eP]
    have gH:Inv (eA X scope N' ow C fp aa ae) [(D,eP (its++[yv]) (n+1))] U6 H8 {s8 with heap:=h9}:=I9.zI λp hp=>by
     have e:p=(D,eP (its++[yv]) (n+1)):=by simpa using hp
     subst e;refine⟨D8,z2,z3,z4,λv z=>?_⟩;have z':acb _ _=abx v:=z;cases z'
    refine⟨m',hm,xa5 (i+1) (ys++[y]) (its++[yv]) (n+1) U6 H8 ⟨gH,hv.append (.cons r8 .nil),T.keep _ _ _ gT λb hb o e=>?_,λb hb=>?_,w8⟩⟩
    .have VQ:b≠D:=by
      have z:=aw b hb;show¬@Eq i_ b D;lia
     exact(MU.2 b VQ).trans (fP I8 b hb o e).1
    .obtain⟨o,e,_⟩:=T.obj _ _ gT b hb;exact(fP I8 b hb o e).2
 exact codeAny_compStart_list (loop _ a_) (T.self _ 0 _ _ _ eR (loop _ a_))
theorem MV {scope:Ã}{N':b? y?}{ix:b? (g? i_)}{pins:b? (c_×L?)}{U:St}{tg iter elt:G?}{ifs:b? G?}{pos:ğ}{g:TG}{ti:TT}{te:TE}{E:b_->d?->Prop}(co:i3 X.N X.env.scope scope N' ix)(hc:X.calm=true)(hg:∀C fp aa ae,PG (bM X scope N' C fp aa ae) tg g)(hi:∀C fp aa ae,nJ (bM X scope N' C fp aa ae) ifs ti)(he:∀C fp aa ae,PE (bM X scope N' C fp aa ae) elt te){ae:Hp}{aa:d?}{J:It}{fp:b? c_}{it:c_}{tn:i_->k?->Prop}{QF:b? V->Hp->Prop}(I:Inv X pins U ae aa)(T:Turn X.prog X.w X.K tg J fp it tn)(st:tn 0 aa.heap)(hf:∀b∈fp,dM X pins ae b){W:i_->i_->b? V->St->Hp->Prop}(w0:∃m,W 0 m [] (gZ ix U) ae)(hW:∀i m ys U H,W i m ys U H->ys.length<=k_/\((J.stop i H/\QF ys H)\/(J.go i H/\∃N:b? V->St->Hp->Prop,(∀br U' H',N br U' H'->∃m',m'<m/\W (i+1) m' br U' H')/\∀x H',J.dJ i H x H'->g x U H' λ U2 H2=>ti U2 H2 λb H3=>if b=true then te U2 H3 λy H4=>N (ys++[y]) U2 H4 else N ys U2 H3))){RR:b_->c_->š->d?->Prop}(uK:∀D C ys H' s',Inv X pins U (upd H' D (.lst ys)) s'->H' D=none->QF ys H'->nK X pins (upd H' D (.lst ys)) s' C->RR (.ref D) C (.ok .next) s'):
  l_ (n_ X.prog X.w) X.A (newList []) (λacc aJ=>l_ (n_ X.prog X.w) X.A (Ň scope X.env.globals (cA scope X.env) [] X.env.qual none .none (some X.env)) (λeQ cL=>Ú (n_ X.prog X.w) X.A (.compStart (.ListComp elt [⟨tg,iter,ifs,0⟩] scope pos) 0 (.ref it) acc {eQ with scope:=adT scope X.env}) (RR acc eQ.locals) cL) E aJ) E aa:=VM (ow:=none) co.g hc hg hi he I T st hf w0 hW uK
theorem nK.go {pins:b? (c_×L?)}{U:St}{H:Hp}{s:d?}{C:c_}{h':k?}(G:nK X pins H s C)(I:Inv X pins U H s)(hs:H_ C s.heap h'):Inv X pins U H {s with heap:=h'}:=I.turned (it:=C) (t':=s.toks) (λb o hb e=>(hs.2 b hb).trans e) G.fr G.nl (.inr G.ab) G.nc G.np
variable {scope:Ã}{N':b? y?}{ix:b? (g? i_)}{tg iter elt:G?}{ifs:b? G?}{pos:ğ}{wi:TI}{g:TG}{ti:TT}{te:TE}
theorem D9 (co:i3 X.N X.env.scope scope N' ix){pins:b? (c_×L?)}{U:St}{H:Hp}{s:d?}(I:Inv X pins U H s):adC scope X.env=ó (cA scope X.env):=VC λp hp e=>I.ok.has p.1 (co.frees p hp e)
theorem kJ (co:i3 X.N X.env.scope scope N' ix)(hc:X.calm=true)(hit:PI X tg iter wi)(hg:∀C fp aa ae,PG (bM X scope N' C fp aa ae) tg g)(hi:∀C fp aa ae,nJ (bM X scope N' C fp aa ae) ifs ti)(he:∀C fp aa ae,PE (bM X scope N' C fp aa ae) elt te)(hs:e_ (∀x,Ŕ iter X.env x=ó x) aP3):
  PE X (.ListComp elt [⟨tg,iter,ifs,0⟩] scope pos) (MS ix wi g ti te):=by
 intro pins s U H Q I h;rw[eval_ListComp];refine Ŝ (use:=none) a_ hs (D9 co I) co.kind co.names (ah (hit pins s U H _ I h) λxv ai h₁=>ah h₁ λtG aa bX=>?_);obtain⟨it,fp,tn,J,ae,e,eS,T,st,hf,W,w0,hW⟩:=bX;subst e;refine MV co hc hg hi he eS T st hf w0 hW (RR:=λacc C=>ae3 (n_ X.prog X.w) X.A X.xe none (EP X pins U Q) acc C) λD C ys H' s' I' dn q G=>?_;obtain⟨m,hn⟩:=G.ns;exact⟨m,hn,λh' pE=>(xa0 (.ref D) _ ⟨G.go I' pE,a_,q D dn⟩)⟩
theorem MW {i:i_}{y:y?}{py uM:ğ}(hN:X.N.Nodup)(VR:X.N[i]?=some y)(hy:X.env.scope.names.lookup y=some .local)(co:i3 X.N X.env.scope scope N' ix)(hc:X.calm=true)(hit:PI X tg iter wi)(hg:∀C fp aa ae,PG (bM X scope N' C fp aa ae) tg g)(hi:∀C fp aa ae,nJ (bM X scope N' C fp aa ae) ifs ti)(he:∀C fp aa ae,PE (bM X scope N' C fp aa ae) elt te)(hs:e_ (∀x,Ŕ iter X.env x=ó x) aP3)(VS:e_ (aan (.ListComp elt [⟨tg,iter,ifs,0⟩] scope pos) (some (.Name y py)) uM.line X.env=ó true) aP1):
  PS X (.Assign [.Name y py] (.ListComp elt [⟨tg,iter,ifs,0⟩] scope pos) uM) (Dk (MS ix wi g ti te) (dI i)):=by
 intro pins s U H D I h;rw[exec_Assign_Name_used _ _ _ _ VS];refine d_ (á (d_ ?_));show l_ _ X.A (do let _<-afr (.ListComp elt [⟨tg,iter,ifs,0⟩] scope pos) scope X.env _ (newList []) false (U? iter X.env) (some (aaj (.Name y py) X.env))) _ _ s;refine d_ (G_ (Ŝ (use:=some (aaj (.Name y py) X.env)) (Q:=λ_ s'=>SP X pins D .next s') a_ hs (D9 co I) co.kind co.names (ah (hit pins s U H _ I h) λxv ai h₁=>ah h₁ λtG aa bX=>?_)) (λ_ s' hq=>j_ (j_ hq)) λ_ _ e=>e);obtain⟨it,fp,tn,J,ae,e,eS,T,st,hf,W,w0,hW⟩:=bX;subst e;refine MV co hc hg hi he eS T st hf w0 hW (RR:=λacc C=>ae3 (n_ X.prog X.w) X.A X.xe (some (aaj (.Name y py) X.env)) (λ_ s'=>SP X pins D .next s') acc C) λDa C ys H' s' I' dn q G=>?_;show l_ _ _ (aaj (.Name y py) X.env (.ref Da)) _ _ s';refine adQ (Lu (v:=.ref Da) I' hN VR (.inl hy) a_ (λbU VT zQ=>?_) (.inr hy));obtain⟨a,sb,ha⟩:=zQ;have VU:C≠a:=by
  rcases ha with z|z
  .rw[z];exact G.nl
  .exact M_ (G.nc _ _ z)
 obtain⟨m,hn⟩:=G.ns;have lS:=hn.sameBut sb VU;have G2:nK X pins (upd H' Da (.lst ys)) bU C:=⟨⟨m,lS⟩,G.fr,G.nl,G.ab,G.nc,G.np⟩;exact⟨m,lS,λh' pE=>(xa0 _ _ ⟨G2.go VT pE,q Da dn⟩)⟩
end
theorem pF {K:e?}{a:c_}{xs:b? V}{g:TG}{ti:TT}{te:TE}{U0:St}{H0:Hp}{Q:VK}(Pv:i_->b? V->St->Hp->Prop)(h0:Pv 0 [] U0 H0)(hl:∀i ys U H,i<=xs.length->Pv i ys U H->af K H a xs/\ys.length<=k_)(hs:∀i x ys U H,xs[i]?=some x->Pv i ys U H->g x U H λ U2 H2=>ti U2 H2 λb H3=>if b=true then te U2 H3 λy H4=>Pv (i+1) (ys++[y]) U2 H4 else Pv (i+1) ys U2 H3)(hd:∀ys U H,Pv xs.length ys U H->∀p,H p=none->Q (.ref p) (upd H p (.lst ys))):∃W:i_->i_->b? V->St->Hp->Prop,(∃m,W 0 m [] U0 H0)/\∀i m ys U H,W i m ys U H->ys.length<=k_/\(((lO K a).stop i H/\rP Q ys H)\/((lO K a).go i H/\∃N:b? V->St->Hp->Prop,(∀br U' H',N br U' H'->∃m',m'<m/\W (i+1) m' br U' H')/\∀x H',(lO K a).dJ i H x H'->g x U H' λ U2 H2=>ti U2 H2 λb H3=>if b=true then te U2 H3 λy H4=>N (ys++[y]) U2 H4 else N ys U2 H3)):=by
 refine⟨λi m ys U H=>m=xs.length-i/\i<=xs.length/\Pv i ys U H,⟨xs.length,by simp,T? _,h0⟩,?_⟩
 rintro i m ys U H ⟨rfl,hi,p⟩
 obtain⟨q,hz⟩:=hl i ys U H hi p;refine⟨hz,?_⟩;by_cases aw:i<xs.length
 .refine .inr ⟨(xa0 xs (xs[i]) ⟨q,by simp[aw]⟩),Pv (i+1),λbr U' H' p'=>⟨xs.length-(i+1),by lia,a_,aw,p'⟩,λx H' y=>?_⟩;obtain⟨e,y⟩:=y;subst e;exact hs i x ys U _ (y xs q) p
 .have e:i=xs.length:=by lia
  subst e;exact .inl ⟨⟨xs,q,r_ _⟩,hd ys U H p⟩
theorem MX {lo:f?}{n:i_}{g:TG}{ti:TT}{te:TE}{U0:St}{H0:Hp}{Q:VK}(Pv:i_->b? V->St->Hp->Prop)(h0:Pv 0 [] U0 H0)(hl:∀i ys U H,i<=n->Pv i ys U H->ys.length<=k_)(hs:∀i ys U H,i<n->Pv i ys U H->g (.int (lo+i)) U H λ U2 H2=>ti U2 H2 λb H3=>if b=true then te U2 H3 λy H4=>Pv (i+1) (ys++[y]) U2 H4 else Pv (i+1) ys U2 H3)(hd:∀ys U H,Pv n ys U H->∀p,H p=none->Q (.ref p) (upd H p (.lst ys))):∃W:i_->i_->b? V->St->Hp->Prop,(∃m,W 0 m [] U0 H0)/\∀i m ys U H,W i m ys U H->ys.length<=k_/\(((kE lo n).stop i H/\rP Q ys H)\/((kE lo n).go i H/\∃N:b? V->St->Hp->Prop,(∀br U' H',N br U' H'->∃m',m'<m/\W (i+1) m' br U' H')/\∀x H',(kE lo n).dJ i H x H'->g x U H' λ U2 H2=>ti U2 H2 λb H3=>if b=true then te U2 H3 λy H4=>N (ys++[y]) U2 H4 else N ys U2 H3)):=by
 refine⟨λi m ys U H=>m=n-i/\i<=n/\Pv i ys U H,⟨n,by simp,T? _,h0⟩,?_⟩
 rintro i m ys U H ⟨rfl,hi,p⟩
 refine⟨hl i ys U H hi p,?_⟩;by_cases aw:i<n
 .refine .inr ⟨aw,Pv (i+1),λbr U' H' p'=>⟨n-(i+1),by lia,a_,aw,p'⟩,λx H' y=>?_⟩;obtain⟨e,y⟩:=y;subst e y;exact hs i ys U _ aw p
 .have e:i=n:=by lia
  subst e;exact .inl ⟨r_ _,hd ys U H p⟩
section
variable {X:Cx}
theorem uN:ef X (.builtin "isinstance") (λxs H Q=>∃x t T b,xs=[x,.ty T]/\gX X.K H x t/\S? X.K t (.type T)=some b/\Q (.bl b) H):=by intro pins s U H xs us Q I r h;obtain⟨x,t,T,b,rfl,ty,e,q⟩:=h;obtain⟨u,w,rfl,r1,r2⟩:=vals2 r;obtain rfl:w=Ĩ T:=r2;exact Uk I r1 ty e λtk=>(xa0 (.bl b) H ⟨I.tok tk,a_,q⟩)
theorem VV {A:C_}{s:d?}{p:c_}{its:b? b_}(hh:A.handled=none)(hl:s.heap.IsList p its.toArray):∃(fp:b? c_),(∀b∈fp,b<s.heap.objs.size+1)/\Walks X.prog X.w A s.heap.objs.size fp [s.heap.objs.size] its.toArray.size (λi v=>its.toArray[i]?=some v) (λi h=>h.IsListIter s.heap.objs.size p i/\h.IsList p its.toArray)/\((s.heap.push {cls:=.type "list_iterator",data:=.fields #[.ref p,.int 0 0]}).IsListIter s.heap.objs.size p 0/\(s.heap.push {cls:=.type "list_iterator",data:=.fields #[.ref p,.int 0 0]}).IsList p its.toArray):=by
 have aw:p<s.heap.objs.size:=by obtain⟨_,e,_⟩:=hl;exact r? e
 refine⟨[s.heap.objs.size,p],λb hb=>?_,Walks.list (A:=A) hh _ p (N? aw) its.toArray,⟨_,v? _ a_,a_,a_⟩,hl.push _⟩;rcases D?.mp hb with e|e
 .rw[e];exact Ĥ _
 .rw[j'.mp e];exact aaL aw
theorem VW {s:d?}{h':k?}{o:L?}(hk:∀b x,b∉[s.heap.objs.size]->(s.heap.push o).get? b=some x->h'.get? b=some x):∀b x,s.heap.get? b=some x->h'.get? b=some x:=λb x e=>hk b x (λhm=>by rw[j'.mp hm]at e;exact Ě _ (r? e)) (f_ _ e)
theorem Aj:∀{bs:b? o?}{us:b? b_},Vals (bs.map V.bl) us->us=bs.map Å
 |[],us,h=>by rw[ĉ]at h;cases h;rfl
 |b::bs,us,h=>by
  rw[A_]at h;cases h with
  |cons r1 r2=>cases r1;rw[Aj r2,A_]
theorem VX {A:C_}(bs:b? o?)(d:o?):∀(i:i_)(v:b_)(s':d?)(Q':o?->d?->Prop)(E':b_->d?->Prop),(bs.map Å).toArray[i]?=some v->Q' ((bs[i]?).getD d) s'->l_ (n_ X.prog X.w) A (truthy v) Q' E' s':=λi v s' Q' E' hP hQ=>by
  have e:(bs.map Å)[i]?=some v:=by simpa using hP
  rw[y_]at e;cases q:bs[i]? with
  |none=>rw[q]at e;cases e
  |some b=>rw[q]at e hQ;have e':Å b=v:=s_ e;subst e';exact X_ hQ
theorem MY (hc:X.calm=true):ef X (.builtin "all") (λxs H Q=>∃(p:c_)(bs:b? o?),xs=[.ref p]/\af X.K H p (bs.map V.bl)/\Q (.bl (bs.all id)) H):=by
 intro pins s U H xs us Q I r h;obtain⟨p,bs,rfl,hq,q⟩:=h;obtain⟨u,rfl,rx⟩:=vals1 r;cases rx;obtain⟨its,r',pl,hz⟩:=I.list hq;have ei:=Aj r';subst ei;obtain⟨fp,hfp,W,st⟩:=VV (X:=X) (A:=X.A.in1) (s:=s) (I.ok.hd hc) pl.isList;refine call_all_walk (ġ pl.isList (xa6 _ fp _ _ _ _ (λi=>(bs[i]?).getD true) ⟨a_,W,st,VX bs true,λh' tk hk=>?_⟩));have e:((V_ (bs.map Å).toArray.size).all λi=>(bs[i]?).getD true)=bs.all id:=by rw[G',g_];exact LSm.range_all bs
 rw[e];exact(xa0 (.bl (bs.all id)) H ⟨I.kept (t':=tk) (VW hk),a_,q⟩)
theorem MZ (hc:X.calm=true):ef X (.builtin "sum") (λxs H Q=>∃(p:c_)(ns:b? f?),xs=[.ref p]/\af X.K H p (ns.map V.int)/\Q (.int ns.sum) H):=by
 intro pins s U H xs us Q I r h;obtain⟨p,ns,rfl,hq,q⟩:=h;obtain⟨u,rfl,rx⟩:=vals1 r;cases rx;obtain⟨its,r',pl,hz⟩:=I.list hq;have hi:=intsAre_of r';obtain⟨ms,hx⟩:=hi.allInts.items;have nM:s.heap.IsList p (intItems ms):=hx ▸ pl.isList;refine sum_intListG (I.ok.hd hc) nM λh' tk t' hk=>?_;have e1:ns=ms.toList.map (·.1):=by rw[<-nums_intItems,<-hx];exact(show numsOf its.toArray.toList=ns from hi.numsOf).symm
 have e2:preSum (numAt ms) ms.size=ns.sum:=by rw[preSum_eq,b?.take_of_length_le (by simp),e1]
 rw[e2];exact(xa0 (.int ns.sum) H ⟨I.kept (t':=tk) hk,⟨t',a_⟩,q⟩)
end
inductive Dt where
 |aj|bl (b:o?)|int (i:f?)|str (x:y?)|tup (ds:b? Dt)|lst (ds:b? Dt)
mutual
def qt (K:e?) (H:Hp):Dt->V->Prop
 | .aj,v=>v= .aj
 | .bl b,v=>v= .bl b
 | .int i,v=>v= .int i
 | .str x,v=>v= .str x
 | .tup ds,v=>∃a xs,v= .ref a/\az K H a xs/\y9 K H ds xs
 | .lst ds,v=>∃a xs,v= .ref a/\af K H a xs/\y9 K H ds xs
def y9 (K:e?) (H:Hp):b? Dt->b? V->Prop
 |[],xs=>xs=[]
 |d::ds,xs=>∃x r,xs=x::r/\qt K H d x/\y9 K H ds r
end
mutual
def bc:Dt->Dt->o?
 | .aj,.aj=>true
 | .bl a,.bl b=>a==b
 | .bl a,.int b=>(if a then 1 else 0)==b
 | .int a,.bl b=>a==(if b then 1 else 0)
 | .int a,.int b=>a==b
 | .str a,.str b=>a==b
 | .tup as,.tup bs=>cO as bs
 | .lst as,.lst bs=>cO as bs
 |_,_=>false
def cO:b? Dt->b? Dt->o?
 |[],[]=>true
 |a::as,b::bs=>bc a b&&cO as bs
 |_,_=>false
end
mutual
def bN:Dt->i_
 | .tup ds=>dP ds+1
 | .lst ds=>dP ds+1
 |_=>0
def dP:b? Dt->i_
 |[]=>0
 |d::ds=>max (bN d) (dP ds)
end
noncomputable def kK (ds es:b? Dt)(j:i_):o?:=match ds[j]?,es[j]? with
 |some a,some b=>bc a b
 |_,_=>true
theorem rR:∀(ds es:b? Dt),((V_ (min ds.length es.length)).all (kK ds es)&&(ds.length==es.length))=cO ds es
 |[],[]=>by simp[cO]
 |[],e::es=>by simp[cO]
 |d::ds,[]=>by simp[cO]
 |d::ds,e::es=>by
  have ih:=rR ds es;have e1:min (d::ds).length (e::es).length=min ds.length es.length+1:=by simp only[C?];lia
  have e2:((d::ds).length==(e::es).length)=(ds.length==es.length):=by simp
  have e3:(kK (d::ds) (e::es)∘Á)=kK ds es:=by funext j;simp[kK,Function.comp]
  have e4:kK (d::ds) (e::es) 0=bc d e:=by simp[kK]
  rw[e1,e2,b?.range_succ_eq_map,acz,b?.all_map,e3,e4,o?.and_assoc,ih,cO]
theorem y9.length {K:e?}{H:Hp}:∀{ds:b? Dt}{xs:b? V},y9 K H ds xs->ds.length=xs.length
 |[],xs,h=>by rw[y9]at h;rw[h];rfl
 |d::ds,xs,h=>by rw[y9]at h;obtain⟨x,r,rfl,_,h2⟩:=h;rw[C?,C?,y9.length h2]
theorem y9.get {K:e?}{H:Hp}:∀{ds:b? Dt}{xs:b? V}{j:i_}{x:V},y9 K H ds xs->xs[j]?=some x->∃d,ds[j]?=some d/\qt K H d x
 |[],xs,j,x,h,e=>by rw[y9]at h;subst h;simp at e
 | d::ds,xs,j,x,h,e=>by
  rw[y9]at h;obtain⟨y,r,rfl,h1,h2⟩:=h;cases j with
  |zero=>
   have e':y=x:=by simpa using e
   subst e';exact⟨d,by simp,h1⟩
  |succ j=>obtain⟨d',q1,q2⟩:=y9.get (j:=j) h2 (by simpa using e);exact⟨d',by simpa using q1,q2⟩
theorem M0:∀{ds:b? Dt}{j:i_}{d:Dt},ds[j]?=some d->bN d<=dP ds
 |[],j,d,e=>by simp at e
 | c::ds,j,d,e=>by
  rw[dP];cases j with
  |zero=>
   have e':c=d:=by simpa using e
   subst e';exact i_.le_max_left _ _
  |succ j=>exact P_ (M0 (j:=j) (by simpa using e)) (i_.le_max_right _ _)
section
variable {X:Cx}{pins:b? (c_×L?)}{U:St}{H:Hp}{s:d?}
theorem M3 (I:Inv X pins U H s){a:c_}{xs ys:b? V}(h:af X.K H a xs)(h':az X.K H a ys):w?:=by obtain⟨_,_,p,_⟩:=I.list h;obtain⟨_,_,q,_⟩:=I.tuple h';obtain⟨o,e,c,_⟩:=p.isList;obtain⟨o',e',c',_⟩:=q;rw[e]at e';cases e';rw[c]at c';exact w_ c' (by decide)
mutual
theorem Ea (I:Inv X pins U H s):∀(d e:Dt)(x:V),qt X.K H d x->qt X.K H e x->bc d e=true
 | .aj,e,x,h,k=>by rw[qt]at h;subst h;cases e<;>rw[qt]at k<;>first|(obtain⟨_,_,z,_⟩:=k;cases z)|rfl|cases k
 | .bl b,e,x,h,k=>by rw[qt]at h;subst h;cases e<;>rw[qt]at k<;>first|(obtain⟨_,_,z,_⟩:=k;cases z)|(cases k;simp[bc];done)|cases k
 | .int b,e,x,h,k=>by rw[qt]at h;subst h;cases e<;>rw[qt]at k<;>first|(obtain⟨_,_,z,_⟩:=k;cases z)|(cases k;simp[bc];done)|cases k
 | .str b,e,x,h,k=>by rw[qt]at h;subst h;cases e<;>rw[qt]at k<;>first|(obtain⟨_,_,z,_⟩:=k;cases z)|(cases k;simp[bc];done)|cases k
 | .tup ds,e,x,h,k=>by
  rw[qt]at h;obtain⟨a,xs,rfl,h1,h2⟩:=h;cases e with
  |tup es=>rw[qt]at k;obtain⟨b,ys,z,k1,k2⟩:=k;cases z;have e:=I.Dg k1 h1;subst e;rw[bc];exact Eb I ds es _ h2 k2
  |lst es=>rw[qt]at k;obtain⟨b,ys,z,k1,k2⟩:=k;cases z;exact(M3 I k1 h1).elim
  |aj=>rw[qt]at k;cases k
  |bl b=>rw[qt]at k;cases k
  |int b=>rw[qt]at k;cases k
  |str b=>rw[qt]at k;cases k
 | .lst ds,e,x,h,k=>by
  rw[qt]at h;obtain⟨a,xs,rfl,h1,h2⟩:=h;cases e with
  |lst es=>rw[qt]at k;obtain⟨b,ys,z,k1,k2⟩:=k;cases z;have e:=I.Df k1 h1;subst e;rw[bc];exact Eb I ds es _ h2 k2
  |tup es=>rw[qt]at k;obtain⟨b,ys,z,k1,k2⟩:=k;cases z;exact(M3 I h1 k1).elim
  |aj=>rw[qt]at k;cases k
  |bl b=>rw[qt]at k;cases k
  |int b=>rw[qt]at k;cases k
  |str b=>rw[qt]at k;cases k
theorem Eb (I:Inv X pins U H s):∀(ds es:b? Dt)(xs:b? V),y9 X.K H ds xs->y9 X.K H es xs->cO ds es=true
 |[],es,xs,h,k=>by
  rw[y9]at h;subst h;cases es with
  |nil=>rw[cO]
  |cons e es=>rw[y9]at k;obtain⟨_,_,z,_⟩:=k;cases z
 |d::ds,es,xs,h,k=>by
  rw[y9]at h;obtain⟨x,r,rfl,h1,h2⟩:=h;cases es with
  |nil=>rw[y9]at k;cases k
  |cons e es=>rw[y9]at k;obtain⟨y,r',z,k1,k2⟩:=k;cases z;rw[cO,Ea I d e _ h1 k1,Eb I ds es _ h2 k2];rfl
end
theorem items_eqAt {A:C_}{ds es:b? Dt}{xs ys:b? V}{is js:b? b_}(hd:y9 X.K H ds xs)(he:y9 X.K H es ys)(vi:Vals xs is)(vj:Vals ys js)(rec:∀d e x y u v,d∈ds->bN d<=dP ds->qt X.K H d x->qt X.K H e y->RelV x u->RelV y v->m? A s u v (bc d e)):∀j (h1:j<is.toArray.size)(h2:j<js.toArray.size),m? A s is.toArray[j] js.toArray[j] (kK ds es j):=λj h1 h2=>by
 have nO:j<is.length:=by simpa using h1
 have nP:j<js.length:=by simpa using h2
 have lx:j<xs.length:=by rw[vi.length];exact nO
 have ly:j<ys.length:=by rw[vj.length];exact nP
 obtain⟨u,eu,ru⟩:=vi.get (i:=j) (x:=xs[j]) (by simp[lx]);obtain⟨v,ev,rv⟩:=vj.get (i:=j) (x:=ys[j]) (by simp[ly]);obtain⟨d,ed,kd⟩:=hd.get (j:=j) (x:=xs[j]) (by simp[lx]);obtain⟨e,ee,ke⟩:=he.get (j:=j) (x:=ys[j]) (by simp[ly]);have e1:is.toArray[j]=u:=by rw[u? nO]at eu;simpa using eu
 have e2:js.toArray[j]=v:=by rw[u? nP]at ev;simpa using ev
 have e3:kK ds es j=bc d e:=by simp[kK,ed,ee]
 rw[e1,e2,e3];exact rec d e _ _ u v (u_ ed) (M0 ed) kd ke ru rv
theorem rT {ds es:b? Dt}{xs ys:b? V}{is js:b? b_}(hd:y9 X.K H ds xs)(he:y9 X.K H es ys)(vi:Vals xs is)(vj:Vals ys js):ds.length=is.toArray.size/\es.length=js.toArray.size:=by rw[hd.length,he.length,vi.length,vj.length];simp
theorem Ec {ds es:b? Dt}(h:ds.length=es.length):(V_ ds.length).all (kK ds es)=cO ds es:=by have q:=rR ds es;rw[<-h,i_.min_self,ŧ,o?.and_true]at q;exact q
theorem Ed {ds es:b? Dt}(h:ds.length≠es.length):cO ds es=false:=by have q:=rR ds es;rw[show(ds.length==es.length)=false from by simpa using h,Ŧ]at q;exact q.symm
theorem uO (I:Inv X pins U H s):∀(n:i_)(d e:Dt)(x y:V)(u v:b_)(A:C_),bN d<=n->A.units+n<Â->qt X.K H d x->qt X.K H e y->RelV x u->RelV y v->m? A s u v (bc d e):=by
 intro n;induction n with
 | zero=>
  intro d e x y u v A hn hu hd he ru rv;have ax:A.units<Â:=by lia
  cases d with
  |tup ds=>rw[bN]at hn;lia
  |lst ds=>rw[bN]at hn;lia
  |aj=>
   rw[qt]at hd;subst hd;cases ru;cases e<;>rw[qt]at he;case aj=>subst he;cases rv;exact adb _
   case bl b=>subst he;cases rv;exact aey b
   case int b=>subst he;obtain⟨t,rfl⟩:=rv;exact afa b t
   case str b=>subst he;obtain⟨t,rfl⟩:=rv;exact ae9 b t
   case tup es=>obtain⟨b,ys,rfl,k1,k2⟩:=he;cases rv;obtain⟨js,vj,pj,_⟩:=I.tuple k1;exact m?.none_tuple pj ax
   case lst es=>obtain⟨b,ys,rfl,k1,k2⟩:=he;cases rv;obtain⟨js,vj,pj,_⟩:=I.list k1;exact m?.none_list pj.isList ax
  |bl a=>
   rw[qt]at hd;subst hd;cases ru;cases e<;>rw[qt]at he;case aj=>subst he;cases rv;exact aez a
   case bl b=>subst he;cases rv;exact aca a b
   case int b=>subst he;obtain⟨t,rfl⟩:=rv;exact afe a b t
   case str b=>subst he;obtain⟨t,rfl⟩:=rv;exact afd a b t
   case tup es=>obtain⟨b,ys,rfl,k1,k2⟩:=he;cases rv;obtain⟨js,vj,pj,_⟩:=I.tuple k1;exact m?.bool_tuple a pj ax
   case lst es=>obtain⟨b,ys,rfl,k1,k2⟩:=he;cases rv;obtain⟨js,vj,pj,_⟩:=I.list k1;exact m?.bool_list a pj.isList ax
  |int a=>
   rw[qt]at hd;subst hd;obtain⟨t0,rfl⟩:=ru;cases e<;>rw[qt]at he;case aj=>subst he;cases rv;exact afb a t0
   case bl b=>subst he;cases rv;exact afc a t0 b
   case int b=>subst he;obtain⟨t,rfl⟩:=rv;exact acX a t0 b t
   case str b=>subst he;obtain⟨t,rfl⟩:=rv;exact acW a t0 b t
   case tup es=>obtain⟨b,ys,rfl,k1,k2⟩:=he;cases rv;obtain⟨js,vj,pj,_⟩:=I.tuple k1;exact m?.int_tuple a t0 pj ax
   case lst es=>obtain⟨b,ys,rfl,k1,k2⟩:=he;cases rv;obtain⟨js,vj,pj,_⟩:=I.list k1;exact m?.int_list a t0 pj.isList ax
  |str a=>
   rw[qt]at hd;subst hd;obtain⟨t0,rfl⟩:=ru;cases e<;>rw[qt]at he;case aj=>subst he;cases rv;exact ae7 a t0
   case bl b=>subst he;cases rv;exact ae8 a t0 b
   case int b=>subst he;obtain⟨t,rfl⟩:=rv;exact acU a t0 b t
   case str b=>subst he;obtain⟨t,rfl⟩:=rv;exact afu a t0 b t
   case tup es=>obtain⟨b,ys,rfl,k1,k2⟩:=he;cases rv;obtain⟨js,vj,pj,_⟩:=I.tuple k1;exact m?.str_tuple a t0 pj ax
   case lst es=>obtain⟨b,ys,rfl,k1,k2⟩:=he;cases rv;obtain⟨js,vj,pj,_⟩:=I.list k1;exact m?.str_list a t0 pj.isList ax
 | succ n ih=>
  intro d e x y u v A hn hu hd he ru rv;have ax:A.units<Â:=by lia
  have kM:A.in1.units+n<Â:=by rw[abf];lia
  cases d with
  | tup ds=>
   rw[bN]at hn;have rW:=hd;rw[qt]at hd;obtain⟨a,xs,rfl,k1,k2⟩:=hd;cases ru;obtain⟨is,vi,pi,_⟩:=I.tuple k1;cases e with
   |tup es=>
    have Ee:=he;rw[qt]at he;obtain⟨b,ys,rfl,l1,l2⟩:=he;cases rv;obtain⟨js,vj,pj,_⟩:=I.tuple l1;by_cases cV:a=b
    .subst cV;rw[Ea I _ _ _ rW Ee];exact adb _
    .have q:=A?.tuples (A:=A) pi pj ax (items_eqAt k2 l2 vi vj λd e x y u v _ dA=>ih d e x y u v A.in1 (by lia) kM);obtain⟨z1,z2⟩:=rT k2 l2 vi vj;rw[<-z1,<-z2,rR]at q;rw[bc];exact acV cV q
   |lst es=>rw[qt]at he;obtain⟨b,ys,rfl,l1,l2⟩:=he;cases rv;obtain⟨js,vj,pj,_⟩:=I.list l1;exact m?.tuple_list pi pj.isList ax
   |aj=>rw[qt]at he;subst he;cases rv;exact m?.tuple_none pi ax
   |bl b=>rw[qt]at he;subst he;cases rv;exact m?.tuple_bool b pi ax
   |int b=>rw[qt]at he;subst he;obtain⟨t,rfl⟩:=rv;exact m?.tuple_int b t pi ax
   |str b=>rw[qt]at he;subst he;obtain⟨t,rfl⟩:=rv;exact m?.tuple_str b t pi ax
  | lst ds=>
   rw[bN]at hn;have rW:=hd;rw[qt]at hd;obtain⟨a,xs,rfl,k1,k2⟩:=hd;cases ru;obtain⟨is,vi,pi,_⟩:=I.list k1;cases e with
   | lst es=>
    have Ee:=he;rw[qt]at he;obtain⟨b,ys,rfl,l1,l2⟩:=he;cases rv;obtain⟨js,vj,pj,_⟩:=I.list l1;obtain⟨z1,z2⟩:=rT k2 l2 vi vj;by_cases cV:a=b
    .subst cV;rw[Ea I _ _ _ rW Ee];exact adb _
    .rw[bc];by_cases hsz:ds.length=es.length
     .have q:=A?.lists (A:=A) pi.isList pj.isList (by lia) ax (items_eqAt k2 l2 vi vj λd e x y u v _ dA=>ih d e x y u v A.in1 (by lia) kM);rw[<-z1,Ec hsz]at q;exact acV cV q
     .rw[Ed hsz];exact acV cV (A?.lists_lengths pi.isList pj.isList (by rw[<-z1,<-z2];simpa using hsz) ax)
   |tup es=>rw[qt]at he;obtain⟨b,ys,rfl,l1,l2⟩:=he;cases rv;obtain⟨js,vj,pj,_⟩:=I.tuple l1;exact m?.list_tuple pi.isList pj ax
   |aj=>rw[qt]at he;subst he;cases rv;exact m?.list_none pi.isList ax
   |bl b=>rw[qt]at he;subst he;cases rv;exact m?.list_bool b pi.isList ax
   |int b=>rw[qt]at he;subst he;obtain⟨t,rfl⟩:=rv;exact m?.list_int b t pi.isList ax
   |str b=>rw[qt]at he;subst he;obtain⟨t,rfl⟩:=rv;exact m?.list_str b t pi.isList ax
  |aj=>exact ih _ _ _ _ _ _ _ (T? n) (by lia) hd he ru rv
  |bl b=>exact ih _ _ _ _ _ _ _ (T? n) (by lia) hd he ru rv
  |int b=>exact ih _ _ _ _ _ _ _ (T? n) (by lia) hd he ru rv
  |str b=>exact ih _ _ _ _ _ _ _ (T? n) (by lia) hd he ru rv
theorem VY (I:Inv X pins U H s){n:i_}{d e:Dt}{x y:V}{u v:b_}{A:C_}(hn:bN d<=n)(hu:A.units+n<Â)(hd:qt X.K H d x)(he:qt X.K H e y)(ru:RelV x u)(rv:RelV y v):A? A s u v (bc d e):=by
 have ax:A.units<Â:=by lia
 cases d with
 |aj=>
  rw[qt]at hd;subst hd;cases ru;cases e<;>rw[qt]at he;case aj=>subst he;cases rv;exact A?.none_none
  case bl b=>subst he;cases rv;exact A?.none_bool b
  case int b=>subst he;obtain⟨t,rfl⟩:=rv;exact A?.none_int b t
  case str b=>subst he;obtain⟨t,rfl⟩:=rv;exact A?.none_str b t
  case tup es=>obtain⟨b,ys,rfl,k1,k2⟩:=he;cases rv;obtain⟨js,vj,pj,_⟩:=I.tuple k1;exact A?.none_tuple pj ax
  case lst es=>obtain⟨b,ys,rfl,k1,k2⟩:=he;cases rv;obtain⟨js,vj,pj,_⟩:=I.list k1;exact A?.none_list pj.isList ax
 |bl a=>
  rw[qt]at hd;subst hd;cases ru;cases e<;>rw[qt]at he;case aj=>subst he;cases rv;exact A?.bool_none a
  case bl b=>subst he;cases rv;exact A?.bool_bool a b
  case int b=>subst he;obtain⟨t,rfl⟩:=rv;exact A?.bool_int a b t
  case str b=>subst he;obtain⟨t,rfl⟩:=rv;exact A?.bool_str a b t
  case tup es=>obtain⟨b,ys,rfl,k1,k2⟩:=he;cases rv;obtain⟨js,vj,pj,_⟩:=I.tuple k1;exact A?.bool_tuple a pj ax
  case lst es=>obtain⟨b,ys,rfl,k1,k2⟩:=he;cases rv;obtain⟨js,vj,pj,_⟩:=I.list k1;exact A?.bool_list a pj.isList ax
 |int a=>
  rw[qt]at hd;subst hd;obtain⟨t0,rfl⟩:=ru;cases e<;>rw[qt]at he;case aj=>subst he;cases rv;exact A?.int_none a t0
  case bl b=>subst he;cases rv;exact A?.int_bool a t0 b
  case int b=>subst he;obtain⟨t,rfl⟩:=rv;exact A?.int_int a t0 b t
  case str b=>subst he;obtain⟨t,rfl⟩:=rv;exact A?.int_str a t0 b t
  case tup es=>obtain⟨b,ys,rfl,k1,k2⟩:=he;cases rv;obtain⟨js,vj,pj,_⟩:=I.tuple k1;exact A?.int_tuple a t0 pj ax
  case lst es=>obtain⟨b,ys,rfl,k1,k2⟩:=he;cases rv;obtain⟨js,vj,pj,_⟩:=I.list k1;exact A?.int_list a t0 pj.isList ax
 |str a=>
  rw[qt]at hd;subst hd;obtain⟨t0,rfl⟩:=ru;cases e<;>rw[qt]at he;case aj=>subst he;cases rv;exact A?.str_none a t0
  case bl b=>subst he;cases rv;exact A?.str_bool a t0 b
  case int b=>subst he;obtain⟨t,rfl⟩:=rv;exact A?.str_int a t0 b t
  case str b=>subst he;obtain⟨t,rfl⟩:=rv;exact A?.str_str a t0 b t
  case tup es=>obtain⟨b,ys,rfl,k1,k2⟩:=he;cases rv;obtain⟨js,vj,pj,_⟩:=I.tuple k1;exact A?.str_tuple a t0 pj ax
  case lst es=>obtain⟨b,ys,rfl,k1,k2⟩:=he;cases rv;obtain⟨js,vj,pj,_⟩:=I.list k1;exact A?.str_list a t0 pj.isList ax
 |tup ds=>
  rw[bN]at hn;have kM:A.in1.units+(n-1)<Â:=by rw[abf];lia
  rw[qt]at hd;obtain⟨a,xs,rfl,k1,k2⟩:=hd;cases ru;obtain⟨is,vi,pi,_⟩:=I.tuple k1;cases e with
  |tup es=>rw[qt]at he;obtain⟨b,ys,rfl,l1,l2⟩:=he;cases rv;obtain⟨js,vj,pj,_⟩:=I.tuple l1;have q:=A?.tuples (A:=A) pi pj ax (items_eqAt k2 l2 vi vj λd e x y u v _ dA=>uO I (n-1) d e x y u v A.in1 (by lia) kM);obtain⟨z1,z2⟩:=rT k2 l2 vi vj;rw[<-z1,<-z2,rR]at q;rw[bc];exact q
  |lst es=>rw[qt]at he;obtain⟨b,ys,rfl,l1,l2⟩:=he;cases rv;obtain⟨js,vj,pj,_⟩:=I.list l1;exact A?.tuple_list pi pj.isList ax
  |aj=>rw[qt]at he;subst he;cases rv;exact A?.tuple_none pi ax
  |bl b=>rw[qt]at he;subst he;cases rv;exact A?.tuple_bool b pi ax
  |int b=>rw[qt]at he;subst he;obtain⟨t,rfl⟩:=rv;exact A?.tuple_int b t pi ax
  |str b=>rw[qt]at he;subst he;obtain⟨t,rfl⟩:=rv;exact A?.tuple_str b t pi ax
 | lst ds=>
  rw[bN]at hn;have kM:A.in1.units+(n-1)<Â:=by rw[abf];lia
  rw[qt]at hd;obtain⟨a,xs,rfl,k1,k2⟩:=hd;cases ru;obtain⟨is,vi,pi,_⟩:=I.list k1;cases e with
  |lst es=>
   rw[qt]at he;obtain⟨b,ys,rfl,l1,l2⟩:=he;cases rv;obtain⟨js,vj,pj,_⟩:=I.list l1;obtain⟨z1,z2⟩:=rT k2 l2 vi vj;rw[bc];by_cases hsz:ds.length=es.length
   .have q:=A?.lists (A:=A) pi.isList pj.isList (by lia) ax (items_eqAt k2 l2 vi vj λd e x y u v _ dA=>uO I (n-1) d e x y u v A.in1 (by lia) kM);rw[<-z1,Ec hsz]at q;exact q
   .rw[Ed hsz];exact A?.lists_lengths pi.isList pj.isList (by rw[<-z1,<-z2];simpa using hsz) ax
  |tup es=>rw[qt]at he;obtain⟨b,ys,rfl,l1,l2⟩:=he;cases rv;obtain⟨js,vj,pj,_⟩:=I.tuple l1;exact A?.list_tuple pi.isList pj ax
  |aj=>rw[qt]at he;subst he;cases rv;exact A?.list_none pi.isList ax
  |bl b=>rw[qt]at he;subst he;cases rv;exact A?.list_bool b pi.isList ax
  |int b=>rw[qt]at he;subst he;obtain⟨t,rfl⟩:=rv;exact A?.list_int b t pi.isList ax
  |str b=>rw[qt]at he;subst he;obtain⟨t,rfl⟩:=rv;exact A?.list_str b t pi.isList ax
theorem VZ (I:Inv X pins U H s){n:i_}{d e:Dt}{x y:V}{u v:b_}{A:C_}(hn:bN d<=n)(hu:A.units+n<Â)(hd:qt X.K H d x)(he:qt X.K H e y)(ru:RelV x u)(rv:RelV y v):x_ A s u v (!(bc d e)):=by
 have ax:A.units<Â:=by lia
 cases d with
 |aj=>
  rw[qt]at hd;subst hd;cases ru;cases e<;>rw[qt]at he;case aj=>subst he;cases rv;exact x_.none_none
  case bl b=>subst he;cases rv;exact x_.none_bool b
  case int b=>subst he;obtain⟨t,rfl⟩:=rv;exact x_.none_int b t
  case str b=>subst he;obtain⟨t,rfl⟩:=rv;exact x_.none_str b t
  case tup es=>obtain⟨b,ys,rfl,k1,k2⟩:=he;cases rv;obtain⟨js,vj,pj,_⟩:=I.tuple k1;exact x_.none_tuple pj ax
  case lst es=>obtain⟨b,ys,rfl,k1,k2⟩:=he;cases rv;obtain⟨js,vj,pj,_⟩:=I.list k1;exact x_.none_list pj.isList ax
 |bl a=>
  rw[qt]at hd;subst hd;cases ru;cases e<;>rw[qt]at he;case aj=>subst he;cases rv;exact x_.bool_none a
  case bl b=>subst he;cases rv;exact x_.bool_bool a b
  case int b=>subst he;obtain⟨t,rfl⟩:=rv;exact x_.bool_int a b t
  case str b=>subst he;obtain⟨t,rfl⟩:=rv;exact x_.bool_str a b t
  case tup es=>obtain⟨b,ys,rfl,k1,k2⟩:=he;cases rv;obtain⟨js,vj,pj,_⟩:=I.tuple k1;exact x_.bool_tuple a pj ax
  case lst es=>obtain⟨b,ys,rfl,k1,k2⟩:=he;cases rv;obtain⟨js,vj,pj,_⟩:=I.list k1;exact x_.bool_list a pj.isList ax
 |int a=>
  rw[qt]at hd;subst hd;obtain⟨t0,rfl⟩:=ru;cases e<;>rw[qt]at he;case aj=>subst he;cases rv;exact x_.int_none a t0
  case bl b=>subst he;cases rv;exact x_.int_bool a t0 b
  case int b=>subst he;obtain⟨t,rfl⟩:=rv;exact x_.int_int a t0 b t
  case str b=>subst he;obtain⟨t,rfl⟩:=rv;exact x_.int_str a t0 b t
  case tup es=>obtain⟨b,ys,rfl,k1,k2⟩:=he;cases rv;obtain⟨js,vj,pj,_⟩:=I.tuple k1;exact x_.int_tuple a t0 pj ax
  case lst es=>obtain⟨b,ys,rfl,k1,k2⟩:=he;cases rv;obtain⟨js,vj,pj,_⟩:=I.list k1;exact x_.int_list a t0 pj.isList ax
 |str a=>
  rw[qt]at hd;subst hd;obtain⟨t0,rfl⟩:=ru;cases e<;>rw[qt]at he;case aj=>subst he;cases rv;exact x_.str_none a t0
  case bl b=>subst he;cases rv;exact x_.str_bool a t0 b
  case int b=>subst he;obtain⟨t,rfl⟩:=rv;exact x_.str_int a t0 b t
  case str b=>subst he;obtain⟨t,rfl⟩:=rv;exact x_.str_str a t0 b t
  case tup es=>obtain⟨b,ys,rfl,k1,k2⟩:=he;cases rv;obtain⟨js,vj,pj,_⟩:=I.tuple k1;exact x_.str_tuple a t0 pj ax
  case lst es=>obtain⟨b,ys,rfl,k1,k2⟩:=he;cases rv;obtain⟨js,vj,pj,_⟩:=I.list k1;exact x_.str_list a t0 pj.isList ax
 |tup ds=>
  rw[bN]at hn;have kM:A.in1.units+(n-1)<Â:=by rw[abf];lia
  rw[qt]at hd;obtain⟨a,xs,rfl,k1,k2⟩:=hd;cases ru;obtain⟨is,vi,pi,_⟩:=I.tuple k1;cases e with
  |tup es=>rw[qt]at he;obtain⟨b,ys,rfl,l1,l2⟩:=he;cases rv;obtain⟨js,vj,pj,_⟩:=I.tuple l1;have q:=x_.tuples (A:=A) pi pj ax (items_eqAt k2 l2 vi vj λd e x y u v _ dA=>uO I (n-1) d e x y u v A.in1 (by lia) kM);obtain⟨z1,z2⟩:=rT k2 l2 vi vj;rw[<-z1,<-z2,rR]at q;rw[bc];exact q
  |lst es=>rw[qt]at he;obtain⟨b,ys,rfl,l1,l2⟩:=he;cases rv;obtain⟨js,vj,pj,_⟩:=I.list l1;exact x_.tuple_list pi pj.isList ax
  |aj=>rw[qt]at he;subst he;cases rv;exact x_.tuple_none pi ax
  |bl b=>rw[qt]at he;subst he;cases rv;exact x_.tuple_bool b pi ax
  |int b=>rw[qt]at he;subst he;obtain⟨t,rfl⟩:=rv;exact x_.tuple_int b t pi ax
  |str b=>rw[qt]at he;subst he;obtain⟨t,rfl⟩:=rv;exact x_.tuple_str b t pi ax
 | lst ds=>
  rw[bN]at hn;have kM:A.in1.units+(n-1)<Â:=by rw[abf];lia
  rw[qt]at hd;obtain⟨a,xs,rfl,k1,k2⟩:=hd;cases ru;obtain⟨is,vi,pi,_⟩:=I.list k1;cases e with
  |lst es=>
   rw[qt]at he;obtain⟨b,ys,rfl,l1,l2⟩:=he;cases rv;obtain⟨js,vj,pj,_⟩:=I.list l1;obtain⟨z1,z2⟩:=rT k2 l2 vi vj;rw[bc];by_cases hsz:ds.length=es.length
   .have q:=x_.lists (A:=A) pi.isList pj.isList (by lia) ax (items_eqAt k2 l2 vi vj λd e x y u v _ dA=>uO I (n-1) d e x y u v A.in1 (by lia) kM);rw[<-z1,Ec hsz]at q;exact q
   .rw[Ed hsz];exact x_.lists_lengths pi.isList pj.isList (by rw[<-z1,<-z2];simpa using hsz) ax
  |tup es=>rw[qt]at he;obtain⟨b,ys,rfl,l1,l2⟩:=he;cases rv;obtain⟨js,vj,pj,_⟩:=I.tuple l1;exact x_.list_tuple pi.isList pj ax
  |aj=>rw[qt]at he;subst he;cases rv;exact x_.list_none pi.isList ax
  |bl b=>rw[qt]at he;subst he;cases rv;exact x_.list_bool b pi.isList ax
  |int b=>rw[qt]at he;subst he;obtain⟨t,rfl⟩:=rv;exact x_.list_int b t pi.isList ax
  |str b=>rw[qt]at he;subst he;obtain⟨t,rfl⟩:=rv;exact x_.list_str b t pi.isList ax
end
noncomputable def V0 (K:e?):R2:=λx y H Q=>∃d e,qt K H d x/\qt K H e y/\bN d<=60/\Q (.bl (bc d e)) H
noncomputable def V1 (K:e?):R2:=λx y H Q=>∃d e,qt K H d x/\qt K H e y/\bN d<=60/\Q (.bl (!bc d e)) H
section
variable {X:Cx}
theorem V2 (hu:X.A.units+64<Â):bz X (Q_ .Eq) (V0 X.K):=by intro pins s U H x y v u Q I rx ry h;obtain⟨d,e,hd,he,hn,q⟩:=h;exact VY I hn (by lia) hd he rx ry _ _ _ _ (xa0 (.bl _) H ⟨I,a_,q⟩)
theorem ma (hu:X.A.units+64<Â):bz X (Q_ .NotEq) (V1 X.K):=by intro pins s U H x y v u Q I rx ry h;obtain⟨d,e,hd,he,hn,q⟩:=h;exact VZ I hn (by lia) hd he rx ry _ _ _ _ (xa0 (.bl _) H ⟨I,a_,q⟩)
theorem V3:bz X (Q_ .Is) (λx y H Q=>∃a b,x= .bl a/\y= .bl b/\Q (.bl (a==b)) H):=by intro pins s U H x y v u Q I rx ry h;obtain⟨a,b,rfl,rfl,q⟩:=h;cases rx;cases ry;exact is_bool (xa0 (.bl _) H ⟨I,a_,q⟩)
theorem V4:bz X (Q_ .IsNot) (λx y H Q=>∃a b,x= .bl a/\y= .bl b/\Q (.bl (a != b)) H):=by intro pins s U H x y v u Q I rx ry h;obtain⟨a,b,rfl,rfl,q⟩:=h;cases rx;cases ry;exact isnot_bool (xa0 (.bl _) H ⟨I,a_,q⟩)
end
theorem Ef (K:e?)(H:Hp):∀ns:b? f?,y9 K H (ns.map Dt.int) (ns.map V.int)
 |[]=>by rw[ĉ,ĉ,y9]
 |n::ns=>by rw[A_,A_,y9];exact(xa0 _ _ ⟨a_,by rw[qt],Ef K H ns⟩)
theorem wj {K:e?}{H:Hp}{a:c_}{ns:b? f?}(h:af K H a (ns.map V.int)):qt K H (.lst (ns.map Dt.int)) (.ref a):=by rw[qt];exact(xa0 a _ ⟨a_,h,Ef K H ns⟩)
theorem M4 {K:e?}{H:Hp}{a:c_}{ns:b? f?}(h:az K H a (ns.map V.int)):qt K H (.tup (ns.map Dt.int)) (.ref a):=by rw[qt];exact(xa0 a _ ⟨a_,h,Ef K H ns⟩)
theorem Eg:∀ns:b? f?,dP (ns.map Dt.int)=0
 |[]=>by rw[ĉ,dP]
 |n::ns=>by show max (bN (Dt.int n)) (dP (ns.map Dt.int))=0;rw[Eg ns];rfl
theorem Eh:∀ms ns:b? f?,cO (ms.map Dt.int) (ns.map Dt.int)=s? (ms=ns)
 |[],[]=>by simp[cO]
 |[],n::ns=>by simp[cO]
 |m::ms,[]=>by simp[cO]
 |m::ms,n::ns=>by
  rw[A_,A_,cO,Eh ms ns,bc];by_cases h:m=n
  .subst h;simp
  .simp[h]
theorem Ei (ms ns:b? f?):bc (.lst (ms.map Dt.int)) (.lst (ns.map Dt.int))=s? (ms=ns):=by rw[bc,Eh]
theorem V5 (ms ns:b? f?):bc (.tup (ms.map Dt.int)) (.tup (ns.map Dt.int))=s? (ms=ns):=by rw[bc,Eh]
theorem rX (ns:b? f?):bN (.lst (ns.map Dt.int))<=60:=by rw[bN,Eg];decide
theorem V6 (ns:b? f?):bN (.tup (ns.map Dt.int))<=60:=by rw[bN,Eg];decide
section
variable {X:Cx}
noncomputable def V7 (K:e?):R2:=λx y H Q=>∃p xs i v,x= .ref p/\y= .int i/\af K H p xs/\0<=i/\xs[i.toNat]?=some v/\Q v H
theorem nQ:LC X (V7 X.K):=by intro pins s U H o i ov iv Q I ro ri h;obtain⟨p,xs,k,z,rfl,rfl,hq,h0,he,q⟩:=h;cases ro;obtain⟨t,rfl⟩:=ri;obtain⟨its,r,pl,hz⟩:=I.list hq;obtain⟨w,ew,cz⟩:=r.get he;have hl:=r.length;have hn:=lR;have hk:k.toNat<its.length:=(l?.mp ew).1;exact wpAny_getItem_list pl.isList h0 (by lia) (by simpa using ew) (xa0 z H ⟨I,cz,q⟩)
end
noncomputable def cj {α:Type}:b? α->b? α->b? α
 |[u0],[w0]=>[u0,w0]
 |_,_=>[]
theorem V8 {vs:b? V}{us:b? b_}{zs:b? V}{ws:b? b_}(r1:Vals vs us)(r2:Vals zs ws):Vals (cj vs zs) (cj us ws):=by
 cases r1 with
 |nil=>exact .nil
 | cons a ra=>
  cases ra with
  | nil=>
   cases r2 with
   |nil=>exact .nil
   |cons b rb=>
    cases rb with
    |nil=>exact .cons a (.cons b .nil)
    |cons _ _=>exact .nil
  |cons _ _=>exact .nil
theorem V9 {K:e?}{fd:l'}{p k:y?}{kd:c_}{v:b_}(e:ae4 K kd k=some (some v))(hp:fd.params.posonlyargs=[])(ha:fd.params.args.map (·.arg)=[p])(hv:fd.params.vararg=none)(hk:fd.params.kwonlyargs.map (·.arg)=[k])(tO:fd.params.kwarg=none)(hd:fd.defaults= .none)(Wa:fd.kwdefaults= .ref kd)(M5:(k==p)=false):Binds K fd [p,k] [v]:=by
 intro s us KX hl;obtain⟨u,rfl⟩:∃u,us=[u]:=by match us,hl with
  |[u],_=>exact⟨u,a_⟩
  |_::_::_,hl=>simp at hl
 intro Mo A E Q hq;have L:=PySem.W.looks_nsIn (M:=Mo) KX e;unfold ada;have hz:aco ė=ó none:=a_;simp only[hp,ha,hv,hk,tO,hd,Wa,hz,ĉ,aeo,C?,ź,aaM,adp,pure_bind,g?.getD_none,aeS];simp[ð,M5];refine d_ (L A _ E s (λ_ _ h=>h) ?_);simp[ð,M5];exact j_ hq
theorem wg.there {P:D'}{w:I?}{H:Hp}{h:k?}{a:c_}{o:HO}(x:wg P w H h a o):∃ob,h.get? a=some ob:=by
 cases o with
 |lst xs=>obtain⟨_,_,_,_,e⟩:=x;exact⟨_,e⟩
 |tup xs=>obtain⟨_,_,_,p⟩:=x;obtain⟨o,e,_⟩:=p;exact⟨_,e⟩
 |dK kvs=>obtain⟨_,_,_,_,o,_,_,e,_⟩:=x;exact⟨_,e⟩
 |dT kvs=>obtain⟨_,_,_,_,o,_,_,e,_⟩:=x;exact⟨_,e⟩
 |set S n=>obtain⟨o,_,_,_,e,_⟩:=x;exact⟨_,e⟩
 |ins C dx fs=>obtain⟨_,_,_,e,_⟩:=x;exact⟨_,e⟩
 |own y=>obtain⟨_,e⟩:=x;exact⟨_,e⟩
 |xd fs=>obtain⟨_,⟨_,_,_,e,_⟩,_⟩:=x;exact⟨_,e⟩
 |zF lo hi=>obtain⟨_,_,_,e⟩:=x;exact⟨_,e⟩
 |aB ob u=>obtain⟨e,_⟩:=x;exact⟨_,e⟩
 |mM ps=>exact⟨_,(show h.get? a=some _ from x)⟩
 |met f y=>exact⟨_,(show h.get? a=some _ from x)⟩
 |ext φ=>obtain⟨_,⟨_,e⟩,_⟩:=x;exact⟨_,e⟩
structure rY (P:D')(w:I?)(l:b? Ţ)(H H':Hp)(s s':d?)(ea:c_)(cls:b_):Prop where
 os:s'.os=s.os
 bare:Ŗ s'.gens
 un:Un (bf l) [] H H' s.heap s'.heap
 ag:bH P w H' s'.heap
 M6:∃(Bq:k?)(t:c_),ď Bq l ea cls (.ref t) s'.heap/\(∀b o o',s.heap.get? b=some o->s'.heap.get? b=some o'->b∉bf l->Bq.get? b=some o')/\(∀b u o',H' b=some u->s'.heap.get? b=some o'->Bq.get? b=some o')
 new:s.heap.get? ea=none
section
variable {X:Cx}{pins:b? (c_×L?)}{U:St}{H H':Hp}{s s':d?}{ea:c_}{cls:b_}
theorem Inv.kN (I:Inv X pins U H s){b:c_}{o:L?}(e:X.ar.heap.get? b=some o)(hb:b∉X.fs):b∉bf X.stack:=λz=>by
 rcases D?.mp (I.oP b z)with q|q
 .have h1:@ś i_ _ b X.ar.heap.objs.size:=r? e;have h2:@ž i_ _ X.ar.heap.objs.size X.env.locals:=I.ok.above;have h3:@Eq i_ b X.env.locals:=q;lia
 .exact hb q
theorem Inv.Wb (I:Inv X pins U H s){b:c_}(hb:b∈X.fs):b∈bf X.stack:=by
 rcases I.ok.cX with e|⟨e,hf⟩
 .rw[e];exact hb
 .rw[e];unfold bf;rw[Ħ,hf];exact q_ _ hb
theorem Wc (I:Inv X pins U H s)(hex:X.ex=[])(F:rY X.prog X.w X.stack H H' s s' ea cls){h':k?}{Bq:k?}{t:c_}(hf:ď Bq X.outer ea cls (.ref t) h')(hu:s'.heap.UpToSlots h')(k1:∀b o o',s.heap.get? b=some o->s'.heap.get? b=some o'->b∉bf X.stack->Bq.get? b=some o')(k2:∀b u o',H' b=some u->s'.heap.get? b=some o'->Bq.get? b=some o'):
  rY X.prog X.w X.outer X.bh H' X.ar {s' with heap:=h'} ea cls:=by
 have base:=I.base;rw[hex]at base;have cv:∀b:c_,b∉([]:b? c_):=λb=>by simp
 have lift:∀b o,X.ar.heap.get? b=some o->b∉X.fs->∃o1 o2,s.heap.get? b=some o1/\s'.heap.get? b=some o2/\h'.get? b=some o2:=λb o e hb=>by obtain⟨o1,e1⟩:=base.there b o e (cv b);obtain⟨o2,e2⟩:=F.un.there b o1 e1 (cv b);exact(xa0 o1 o2 ⟨e1,e2,hf.1 _ _ (k1 b o1 o2 e1 e2 (I.kN e hb))⟩)
 have slots:∀b o,X.ar.heap.get? b=some o->X.bh b=none->b∈X.fs->∃sl,h'.get? b=some {o with slots:=sl}:=λb o e n hb=>by obtain⟨sl,e1⟩:=base.slot b o e n hb (cv b);obtain⟨tR,e2⟩:=F.un.slot b _ e1 (base.free b o e n (cv b)) (I.Wb hb) (cv b);obtain⟨_,o3,e3,nf⟩:=I.ok.fg.mem hb;rw[e]at e3;cases e3;obtain⟨uP,e4⟩:=hu b _ e2 nf;exact⟨uP,e4⟩
 refine⟨F.os.trans I.os,F.bare,⟨λb o e n hb _=>?_,λb o e n hb _=>slots b o e n hb,λb o e n _=>?_,λb o e _=>?_,λb xs q=>F.un.dY b xs (base.dY b xs q),λb o xs q=>F.un.dG b o xs (base.dG b o xs q),λb ps q=>?_⟩,λb u e=>?_,(xa0 Bq t ⟨hf,λb o o' e e' hb=>?_,λb u o' q e'=>?_⟩),?_⟩
 .have e1:=base.keep b o e n hb (cv b);have e2:=F.un.keep b o e1 (base.free b o e n (cv b)) (I.kN e hb) (cv b);exact hf.1 _ _ (k1 b o o e1 e2 (I.kN e hb))
 .obtain⟨o1,e1⟩:=base.there b o e (cv b);exact F.un.free b o1 e1 (base.free b o e n (cv b)) (cv b)
 .by_cases hb:b∈X.fs
  .obtain⟨sl,q⟩:=slots b o e (I.ok.iM b hb) hb;exact⟨_,q⟩
  .obtain⟨_,o2,_,_,q⟩:=lift b o e hb;exact⟨o2,q⟩
 .obtain⟨m1,e1⟩:=base.eI b ps q;obtain⟨m2,e2⟩:=F.un.eI b _ e1;exact⟨m1++m2,by rw[e2,adL]⟩
 .refine(F.ag b u e).cG (λc v hc q=>?_) (λ_ q=>q) λ_ _ q=>q;rcases hc with z|z
  .subst z;exact hf.1 _ _ (k2 _ _ _ e q)
  .exact hf.1 _ _ (k2 _ _ _ z q)
 .by_cases Ej:b∈X.fs
  .exact w_ Ej hb
  .obtain⟨o1,o2,e1,e2,q⟩:=lift b o e Ej;have q':h'.get? b=some o':=e';rw[q]at q';cases q';exact k1 b o1 _ e1 e2 (I.kN e Ej)
 .obtain⟨o2,e2⟩:=(F.ag b u q).there;have z:=k2 b u o2 q e2;have q':h'.get? b=some o':=e';rw[hf.1 _ _ z]at q';cases q';exact z
 .cases q:X.ar.heap.get? ea with
  |none=>rfl
  |some o=>obtain⟨o1,e1⟩:=base.there ea o q (cv ea);rw[F.new]at e1;cases e1
end
noncomputable def uQ:b? b_:=[.type "ValueError",.type "Exception",.type "BaseException",.type "object"]
noncomputable def Ak (K:e?)(C:c_):Prop:=aaS K C uQ "ValueError.__new__"=true
theorem We {K:e?}{h:k?}{C:c_}{pG:b? b_}{newId:ë}(X:K.In h)(q:aaS K C pG newId=true):∃bm N nm qn bs hdct sn sub ab col dd k0 k1 k2 k3 k5 mN,h.get? C=some (Ė nm qn C N bs bm hdct sn sub ab col dd k0 k1 k2 k3 k5 newId)/\h.Ns N mN/\mN "__init__"=none/\aaq h pG bm:=by
 unfold aaS at q;split at q
 .rename_i dd cd sl ho;split at q
  .rename_i C' bm k0 k1 k2 k3 n k5 hm hs;simp only[L_,Ô,adJ]at q;obtain⟨⟨⟨⟨⟨rfl,rfl⟩,i5⟩,ht⟩,ag⟩,Al⟩:=q;obtain⟨nm,bs,mro,ns,qn,hd,sn,sub,ab,col,del⟩:=cd;dsimp only at hm i5 ag Al;subst hm i5;have pH:sl=#[k0,k1,k2,k3,some (.builtin n),k5]:=by
    obtain⟨l⟩:=sl;simp only at hs;rw[hs]
   subst pH;exact(xa7 bm ns nm qn bs hd sn sub ab col dd k0 k1 k2 k3 k5 _ ⟨X _ _ ho,.of_isNs (PySem.W.isNs_of_in X ag),PySem.W.nsMap_none_of_in X ag Al,abV X ht⟩)
  .cases q
 .cases q
theorem Wf {K:e?}{M:aak}{h:k?}{ea C Pc:c_}{oe:L?}{b:o?}(X:K.In h)(he:h.get? ea=some oe)(hc:oe.cls= .ref C)(m:Ò K (.ref C) (.ref Pc)=some b)(hb:Č K Pc (.type "BaseException")=some true):V? M h (excMatches (.ref ea) (.ref Pc)) b:=by
 obtain⟨L1,L2,L3⟩:=PySem.W.kit_cls (M:=M) X m;have L4:=Ů (M:=M) X hb;have L5:V? M h (ady (.ref ea)) (.ref C):=hc ▸ (V?.ld he).andThen .now;have f:=tc_notTuple;intro A Q E s k q;unfold excMatches abQ isExcClass;simp only[bind_assoc];refine d_ (L1 A _ E s k ?_);rw[f];simp only[pure_bind,Ā,aaN,aep,aeS,bind_assoc];refine d_ (L2 A _ E s k ?_);simp only[abz];refine d_ (L4 A _ E s k ?_);simp only[aaZ,Ā,aaN,pure_bind];refine d_ (L5 A _ E s k ?_);refine d_ (L3 A _ E s k ?_);cases b
 .exact j_ q
 .exact j_ q
noncomputable def M7 (W:Hp->Prop)(t:TA):TS:=λ_ U H=>t U H λvs H1=>vs.length<=k_/\W H1
section
variable {X:Cx}
theorem Wg {x:y?}{C:c_}{e:G?}{es:b? G?}{t:TA}{np av pos:ğ}{W:Hp->Prop}(hc:X.calm=true)(hg:Gl X x)(hm:X.mg x=some (.ref C))(hC:Ak X.K C)(ha:PA X (e::es) t)(Ek:∀{pins:b? (c_×L?)}{U:St}{H:Hp}{s:d?}{ea:c_}{vs:b? b_}{h1:k?},Inv X pins U H s->aaD s.heap h1 ea (.ref C) vs->W H->X.xe (.ref ea) {s with heap:=h1})(cI:e_ ((x==("__debug__":y?))=false) aP2)(he:e_ (x? (e::es) X.env=(false,U? e X.env)::x? es X.env) aP1)(cg:e_ ((W_ av (x? es X.env)).any (·.1)=false) aP1):
  PS X (.Raise (some (.Call (.Name x np) (e::es) [] av)) none pos) (M7 W t):=by
 intro pins s U H D I h;obtain⟨bm,N,nm,qn,bs,hdct,sn,sub,ab,col,dd,k0,k1,k2,k3,k5,mN,hC,hN,Al,T⟩:=We I.mod.eJ hC;have FB:=acH;refine wpAny_Raise_call_subT (C:=C) (nm:=nm) (q:=qn) (N:=N) (bs:=bs) (bm:=bm) (hdct:=hdct) (sn:=sn) (sub:=sub) (ab:=ab) (col:=col) (dd:=dd) (k0:=k0) (k1:=k1) (k2:=k2) (k3:=k3) (k5:=k5) FB (mN:=mN) (T.hasType FB.hasBase) (I.ok.hd hc) (by rw[he];show(false||(W_ av (x? es X.env)).any (·.1))=false;rw[cg];rfl) Al (mQ I hg hm ⟨a_,?_⟩ cI);have hA:=ha av pins s U H _ I h;rw[he]at hA⊢;exact Ø (ah hA λus s2 ⟨vs,H2,I2,r2,hz,q2⟩=>⟨a_,by rw[<-r2.length];exact hz,I2.bk _ _ hC,hN.keeps I2.bk,T.keeps I2.bk,λh' e hm=>Ek I2 hm q2⟩)
end
noncomputable def rZ (X:Cx)(ea:c_):Cx:={X with A:=X.A.mark (some (.ref ea)),calm:=false,xe:=λ_ _=>w?}
noncomputable def nU (ea:c_)(cls:b_):HO:=.ext λh=>∃o vs,h.get? ea=some o/\o.cls=cls/\o.data= .fields vs
section
variable {X:Cx}{pins pn:b? (c_×L?)}{U:St}{H H':Hp}{s s':d?}
theorem Inv.kO {X Yq:Cx}(I:Inv X pins U H s)(ok:Yq.Ok)(hs:Yq.ar=X.ar)(hH:Yq.bh=X.bh)(he:Yq.env=X.env)(ho:Yq.outer=X.outer)(hx:Yq.ex=X.ex)(hN:Yq.N=X.N)(hp:Yq.prog=X.prog)(hw:Yq.w=X.w){bE:b? (c_×L?)}(El:∀p∈Yq.pn++bE,p∈X.pn++pins):Inv Yq bE U H s:=by
 obtain⟨prog,w,K,mg,base,A,N,ar,bh,env,outer,stack,ex,fn,calm,Wh,xe⟩:=X;obtain⟨uR,w',K',Wi,uS,A',N',uT,uU,Em,pI,pJ,Lo,Wj,uV,Wk,Wm⟩:=Yq;dsimp only at hs hH he ho hx hN hp hw;subst hs hH he ho hx hN hp hw;exact⟨ok,I.os,I.bare,I.base,I.loc,I.cell,I.free,I.dH,λp hp=>I.pin p (El p hp),I.ag,I.len⟩
theorem Cx.Ok.kO {X Yq:Cx}(ok:X.Ok)(hm:Yq.K=X.K/\Yq.mg=X.mg/\Yq.base=X.base)(he:Yq.env=X.env)(hs:Yq.ar=X.ar)(hH:Yq.bh=X.bh)(ho:Yq.outer=X.outer)(iA:Yq.stack=X.stack)(hx:Yq.ex=X.ex)(hf:Yq.fn=X.fn)(hd:Yq.calm=true->Yq.A.handled=none)(nW:Yq.A.frames=some Yq.stack):Yq.Ok:=by
 obtain⟨prog,w,K,mg,base,A,N,ar,bh,env,outer,stack,ex,fn,calm,Wh,xe⟩:=X;obtain⟨uR,w',K',Wi,uS,A',N',uT,uU,Em,pI,pJ,Lo,Wj,uV,Wk,Wm⟩:=Yq;obtain⟨Am,M8,An⟩:=hm;dsimp only at Am M8 An he hs hH ho iA hx hf;subst Am M8 An he hs hH ho iA hx hf;exact⟨ok.mod,ok.kind,ok.glob,ok.blt,ok.above,ok.inj,ok.has,ok.oN,hd,nW,ok.cX,ok.zG,ok.bs,ok.jY,ok.oO,ok.rA,ok.fg,ok.iM⟩
theorem Inv.M9 {bE:b? (c_×L?)}(I:Inv {X with pn:=pn} bE U H s)(h:∀p∈X.pn++pins,p∈pn):Inv X pins U H s:=I.kO (Yq:=X) (I.ok.kO (Yq:=X) ⟨a_,a_,a_⟩ a_ a_ a_ a_ a_ a_ a_ I.ok.hd I.ok.frames) a_ a_ a_ a_ a_ a_ a_ a_ λp hp=>I_ _ (h p hp)
theorem Inv.Wn {ea:c_}(I:Inv X pins U H s):Inv (rZ X ea) pins U H s:=I.kO (Yq:=rZ X ea) (I.ok.kO (Yq:=rZ X ea) ⟨a_,a_,a_⟩ a_ a_ a_ a_ a_ a_ a_ (λz=>by have z':false=true:=z;cases z') I.ok.frames) a_ a_ a_ a_ a_ a_ a_ a_ λ_ hp=>hp
theorem Inv.Ao {ea:c_}(ok:X.Ok)(I:Inv (rZ X ea) pins U H s):Inv X pins U H s:=I.kO (Yq:=X) ok a_ a_ a_ a_ a_ a_ a_ a_ λ_ hp=>hp
theorem Wo {CX:fj}{k:i_}{f:c_}{fd:l'}{ps:b? y?}{sp:Sp}{bq:b? V}{ds:b? b_}{E:XK}{Q:VK}{us:b? b_}{vs:b? V}(F:zv X.prog X.w X.K X.mg X.base CX k f fd ps sp)(hr:aT k X.A)(hb:Binds X.K fd ps ds)(hd:Vals bq ds)(I:Inv X pins U H s)(hx:∀e s',CX X.stack H s E e s'->X.xe e s')(r:Vals vs us)(h:sp (vs++bq) H Q E):l_ (n_ X.prog X.w) X.A (ħ (.ref f) us) (EP X pins U Q) X.xe s:=by
 have r2:Vals (vs++bq) (us++ds):=r.append hd;have hl:(us++ds).length=ps.length:=by rw[<-r2.length];exact F.len _ _ _ _ h
 refine Ĭ (ć (F.run X.A X.stack s H ⟨us,[]⟩ (us++ds) (vs++bq) Q E hr I.rH (hb s us I.aS hl) r2 h) λr s' hq=>?_);cases r with
 |error e=>exact hx e s' hq
 |ok fl=>
  cases fl with
  |ret u=>exact I.after hq
  |next=>exact J? hq
  |brk=>exact J? hq
  |cont=>exact J? hq
theorem Na {ea:c_}{cls:b_}(I:Inv X pins U H s)(F:rY X.prog X.w X.stack H H' s s' ea cls){h':k?}{Bq:k?}{t:c_}(hf:ď Bq X.stack ea cls (.ref t) h')(hu:s'.heap.UpToSlots h')(k1:∀b o o',s.heap.get? b=some o->s'.heap.get? b=some o'->b∉bf X.stack->Bq.get? b=some o')(k2:∀b u o',H' b=some u->s'.heap.get? b=some o'->Bq.get? b=some o'):
  Inv X pins U H' {s' with heap:=h'}:=by
 have cv:∀b:c_,b∉([]:b? c_):=λb=>by simp
 have slots:∀b o,s.heap.get? b=some o->H b=none->b∈bf X.stack->∃sl,h'.get? b=some {o with slots:=sl}:=λb o e n hb=>by obtain⟨tR,e2⟩:=F.un.slot b _ e n hb (cv b);obtain⟨_,o3,e3,nf⟩:=I.stack.mem hb;rw[e]at e3;cases e3;obtain⟨uP,e4⟩:=hu b _ e2 nf;exact⟨uP,e4⟩
 refine I.De (ch:=[]) F.os ⟨λb o e n hb _=>?_,λb o e n hb _=>slots b o e n hb,λb o e n _=>F.un.free b o e n (cv b),λb o e _=>?_,F.un.dY,F.un.dG,F.un.eI⟩ (λb u e=>?_) F.bare λb z=>w_ z (cv b)
 .have e2:=F.un.keep b o e n hb (cv b);exact hf.1 _ _ (k1 b o o e e2 hb)
 .by_cases hb:b∈bf X.stack
  .obtain⟨sl,q⟩:=slots b o e (I.zH b hb) hb;exact⟨_,q⟩
  .obtain⟨o2,e2⟩:=F.un.there b o e (cv b);exact⟨o2,hf.1 _ _ (k1 b o o2 e e2 hb)⟩
 .refine(F.ag b u e).cG (λc v hc q=>?_) (λ_ q=>q) λ_ _ q=>q;rcases hc with z|z
  .subst z;exact hf.1 _ _ (k2 _ _ _ e q)
  .exact hf.1 _ _ (k2 _ _ _ z q)
theorem Inv.En {a:c_}{o:HO}(I:Inv X pins U H s)(hex:X.ex=[])(hn:H a=none)(h0:X.ar.heap.get? a=none)(hL:a≠X.env.locals)(hc:∀x c,X.env.cells.lookup x=some c->c≠a)(hp:∀p∈X.pn++pins,p.1≠a)(new:wg X.prog X.w (upd H a o) s.heap a o):Inv X pins U (upd H a o) s:=by
 have hG:∀b ob,X.ar.heap.get? b=some ob->b≠a:=λb ob e z=>by rw[z,h0]at e;cases e
 refine⟨I.ok,I.os,I.bare,⟨I.base.keep,I.base.slot,λb ob e n hx=>?_,I.base.there,λb xs q=>?_,λb ob u q=>?_,λb ps q=>?_⟩,I.loc,I.cell,?_,λx c e=>?_,λp Nb=>?_,λb u e=>?_,I.len⟩
 .rw[jd (hG b ob e)];exact I.base.free b ob e n hx
 .rw[jd (jg (I.base.dY b xs q) hn)];exact I.base.dY b xs q
 .rw[jd (jg (I.base.dG b ob u q) hn)];exact I.base.dG b ob u q
 .obtain⟨more,z⟩:=I.base.eI b ps q;exact⟨more,by rw[jd (jg z hn)];exact z⟩
 .rw[jd (M_ hL)];exact I.free
 .rw[jd (hc x c e)];exact I.dH x c e
 .obtain⟨q1,q2,q3⟩:=I.pin p Nb;exact⟨q1,by rw[jd (hp p Nb)];exact q2,q3⟩
 .by_cases hb:b=a
  .subst hb;rw[ja]at e;cases e;exact new
  .rw[jd hb]at e;exact(I.ag b u e).cG (λ_ _ _ q=>q) (λc q=>by rw[jd (jg q hn)];exact q) λc xs q=>by rw[jd (jg q hn)];exact q
theorem Inv.unset {i:i_}{n:y?}(I:Inv X pins U H s)(hN:X.N.Nodup)(hi:X.N[i]?=some n){m:y?->g? b_}(hm:s.heap.Ns X.env.locals m)(hl:∀(i:i_)(x:y?)(v:V),X.N[i]?=some x->U[i]?=some (some v)->tj X.env.scope x->∃u,RelV v u/\Look X.env s.heap m x u){h':k?}{u:g? b_}(mP:h'.Ns X.env.locals (λx=>if x=n then u else m x))(hs:H_ X.env.locals s.heap h'):Inv X pins (U.set i none) H {s with heap:=h'}:=by
 obtain⟨oL,_,_,Lv,_⟩:=id hm;have rB:i<U.length:=by rw[I.len];exact(l?.mp hi).1
 have iN:=I.iN;refine⟨I.ok,I.os,I.bare,⟨λb o e n hb hx=>?_,λb o e n hb hx=>?_,I.base.free,λb o e hx=>?_,I.base.dY,I.base.dG,I.base.eI⟩,⟨_,mP,λj y v' e1 e2 e3=>?_⟩,λy c e=>?_,I.free,I.dH,λp hp=>?_,λb ob e=>?_,by simpa using I.len⟩
 .exact(hs.2 b (N? (F? (r? e) I.ok.above))).trans (I.base.keep b o e n hb hx)
 .obtain⟨sl,e1⟩:=I.base.slot b o e n hb hx;exact⟨sl,(hs.2 b (N? (F? (r? e) I.ok.above))).trans e1⟩
 .obtain⟨o',e1⟩:=I.base.there b o e hx;exact⟨o',(hs.2 b (N? (F? (r? e) I.ok.above))).trans e1⟩
 .by_cases hj:j=i
  .subst hj;rw[Y_ rB]at e2;cases e2
  .rw[ø (M_ hj)]at e2;obtain⟨u',r',q⟩:=hl j y v' e1 e2 e3;refine⟨u',r',?_⟩;rcases q with⟨k,e⟩|⟨k,c,e,z⟩
   .refine .inl ⟨k,?_⟩;have:y≠n:=λe=>hj (C8 hN e1 (e ▸ hi));simp[this,e]
   .exact .inr ⟨k,c,e,z.sameBut hs (iN y c e)⟩
 .obtain⟨w',z⟩:=I.cell y c e;exact⟨w',z.sameBut hs (iN y c e)⟩
 .obtain⟨e,n,ne,nf,d⟩:=I.pin p hp;exact⟨(hs.2 p.1 ne).trans e,n,ne,nf,d⟩
 .refine(I.ag b ob e).cG (λc w' hc q=>(hs.2 c ?_).trans q) (λ_ q=>q) λ_ _ q=>q;have fr:=I.free
  rintro rfl
  rcases hc with rfl|hc
  .rw[fr]at e;cases e
  .rw[fr]at hc;cases hc
end
structure iD (K:e?)(C:c_):Prop where
 ga:J_ K (.ref C) "__getattribute__"=some (some (.builtin "BaseException.__getattribute__"))
 gn:J_ K (.ref C) "__getattr__"=some none
 cl:J_ K (.ref C) "__class__"=some (some (.builtin "object.__class__"))
 be:Č K C (.type "BaseException")=some true
 ob:Č K C (.type "object")=some true
 is:(aaT K C).isSome=true
section
variable {prog:D'}{w:I?}{A:C_}{E:b_->d?->Prop}{K:e?}{h:k?}{g:E? abY}{d:Drawn}{t:i_}{os:OsState}{a C:c_}{o:L?}
theorem Wq {M:aak}(hx:h.get? a=some o)(hc:o.cls= .ref C):V? M h (ady (.ref a)) (.ref C):=hc ▸ (V?.ld hx).andThen .now
theorem Wr {R:š->d?->Prop}{tp:b_}(X:K.In h)(I:iD K C)(hx:h.get? a=some o)(hc:o.cls= .ref C)(hq:R (.ok (.ret (.ref C))) ⟨h,g,d,t,os⟩):Ú (n_ prog w) A (.call (.builtin "getset_descriptor.__get__") ⟨[.builtin "object.__class__",.ref a,tp],[]⟩) R ⟨h,g,d,t,os⟩:=by
 have L1:=Ů (M:=n_ prog w) X I.ob;have Ap:(⟨h,g,d,t,os⟩:d?).TypeIs (.builtin "object.__class__") "getset_descriptor":=ŷ;refine ā ab0.plain F.entry_gs_get (ab0.check _ _ _ _ _ _ _ _ Ap (F.args_gs_get _ _ _) ?_);have ow:=F.owner_object_class;repeat(any_goals (first|assumption|(with_reducible refine P? hx ?_;rw[hc])|(rw[ow];with_reducible refine L1.at ?_)|(with_reducible refine L1.at ?_)|wp_step))
 refine⟨ķ _ (by decide+kernel),ż F.entry_object_class ?_⟩;repeat(any_goals (first|assumption|(with_reducible refine P? hx ?_;rw[hc])|wp_step))
theorem Ws {tk:Tok}{Q:Fin->d?->Prop}(X:K.In h)(I:iD K C)(hx:h.get? a=some o)(hc:o.cls= .ref C)(hq:Q (.done (.ret (.ref C))) ⟨h,g,d,t,os⟩):l_ (n_ prog w) A (Builtin.«object.__getattribute__» ⟨[.ref a,.str "__class__" tk],[]⟩) Q E ⟨h,g,d,t,os⟩:=by
 have Ap:(⟨h,g,d,t,os⟩:d?).TypeIs (.builtin "object.__class__") "getset_descriptor":=ŷ;have f5:=ŷ;have f6:=ab0.lookup;have f7:=F.slot_gs_set.lookup;have L1:=À (M:=n_ prog w) X I.cl;repeat(any_goals (first|assumption|(with_reducible refine P? hx ?_;rw[hc])|(with_reducible refine L1.at ?_)|wp_step))
 refine Wr X I hx hc ?_;repeat(any_goals (first|assumption|wp_step))
theorem Wt {M:aak}{eT:b_}{Q:acB->d?->Prop}(X:K.In h)(I:iD K C)(hx:h.get? a=some o)(hc:o.cls= .ref C)(hq:Q () ⟨h,g,d,t,os⟩):l_ M A (ū "BaseException.__getattribute__" ⟨[.ref a,eT],[]⟩) Q E ⟨h,g,d,t,os⟩:=by
 have hk:builtinKind "BaseException.__getattribute__"=some .slot:=by decide+kernel
 have pK:splitId "BaseException.__getattribute__"=some ("BaseException","__getattribute__"):=by decide+kernel
 have L1:=Ů (M:=M) X I.be;have ha:=F.args_bexc_ga (.ref a) eT;simp only[ū,hk,pK];refine d_ ?_
 .unfold abQ;repeat(first|(with_reducible refine P? hx ?_;rw[hc])|(with_reducible refine L1.at ?_)|wp_step)
  exact hq
theorem Wu {tk:Tok}{R:š->d?->Prop}(X:K.In h)(I:iD K C)(hx:h.get? a=some o)(hc:o.cls= .ref C)(hq:R (.ok (.ret (.ref C))) ⟨h,g,d,t,os⟩):Ú (n_ prog w) A (.call (.builtin "BaseException.__getattribute__") ⟨[.ref a,.str "__class__" tk],[]⟩) R ⟨h,g,d,t,os⟩:=
 ā ado.ga.plain F.entry_bexc_ga (Wt X I hx hc (Ws X I hx hc hq))
theorem Wv {tk:Tok}{Q:b_->d?->Prop}(X:K.In h)(I:iD K C)(hx:h.get? a=some o)(hc:o.cls= .ref C)(hq:Q (.ref C) ⟨h,g,d,t,os⟩):l_ (n_ prog w) A (getAttrBy (.ref a) (.str "__class__" tk) false) Q E ⟨h,g,d,t,os⟩:=by
 have f3:=ado.ga.bind (.ref a);have L1:=À (M:=n_ prog w) X I.ga;have L2:=À (M:=n_ prog w) X I.gn;have Ww:(abn "BaseException.__getattribute__"==abn "object.__getattribute__")=false:=by decide+kernel
 have uW:(onTheHeap (t_ C)&&abn "BaseException.__getattribute__"==abn "object.__getattribute__")=false:=by rw[Ww];rfl
 repeat(any_goals (first|assumption|(with_reducible refine P? hx ?_;rw[hc])|(with_reducible refine L1.at ?_)|(with_reducible refine L2.at ?_)|wp_step))
 refine Wu X I hx hc ?_;repeat(any_goals (first|assumption|wp_step))
theorem Wx {Q:g? b_->d?->Prop}(X:K.In h)(I:iD K C)(hx:h.get? a=some o)(hc:o.cls= .ref C)(hq:Q (some (.ref C)) ⟨h,g,d,t+1,os⟩):l_ (n_ prog w) A (getAttr? (.ref a) "__class__") Q E ⟨h,g,d,t,os⟩:=by unfold getAttr? getAttrBy?;repeat(any_goals (first|assumption|with_reducible apply Wv X I hx hc|wp_step))
end
theorem Wy {K:e?}{ea C:c_}(I:iD K C):PySem.W.KitX K (.ref ea) (.ref C) (λh=>∃o vs,h.get? ea=some o/\o.cls= .ref C/\o.data= .fields vs) where
 ty:=λ_ _ _ ⟨o,_,h1,h2,_⟩=>Wq h1 h2
 it:=λ_ _ X _=>by
  have iT:=I.is;unfold aaT at iT;split at iT
  .rename_i c' d' Wz oR ho;intro A' Q' E' s' k q;unfold isType loadHead;exact d_ (aeU (k _ _ (X _ _ ho)) (j_ q))
  .cases iT
 ne:=λh tp dd its n sl X WB=>by
  refine adK.mpr λq=>?_;have e:C=tp:=t_.inj (Ô.mp q);subst e;have iT:=I.is;unfold aaT at iT;split at iT
  .rename_i c' d' Wz oR ho;have z:=(X _ _ ho).symm.trans WB;cases z
  .cases iT
 ca:=λ{_ _ _ _ _ s} X ⟨o,_,h1,h2,_⟩ k=>by obtain⟨hh,g,d,t,os⟩:=s;exact Wx X I h1 h2 k
section
variable {X:Cx}
theorem xi:ef X (.builtin "isinstance") (λxs H Q=>∃ea C y c b,xs=[.ref ea,y]/\H ea=some (nU ea (.ref C))/\iD X.K C/\RelV y c/\S? X.K (.ref C) c=some b/\Q (.bl b) H):=by
 intro pins s U H xs us Q I r h;obtain⟨ea,C,y,c,b,rfl,hH,hX,ry,hk,q⟩:=h;obtain⟨u,w,rfl,r1,r2⟩:=vals2 r;obtain rfl:u=t_ ea:=r1;have hw:w=c:=by
  cases y with
  |ref z=>exact(show w=t_ z from r2).trans (show c=t_ z from ry).symm
  |ty z=>exact(show w=Ĩ z from r2).trans (show c=Ĩ z from ry).symm
  |aj=>exact(show w=ė from r2).trans (show c=ė from ry).symm
  |bl z=>exact(show w=Å z from r2).trans (show c=Å z from ry).symm
  |int z=>exfalso;obtain⟨_,rfl⟩:=ry;unfold S? Ò at hk;simp at hk
  |str z=>exfalso;obtain⟨_,rfl⟩:=ry;unfold S? Ò at hk;simp at hk
  |fF z=>exfalso;obtain⟨_,rfl⟩:=ry;unfold S? Ò at hk;simp at hk
  |mL z=>exfalso;obtain⟨_,rfl⟩:=ry;unfold S? Ò at hk;simp at hk
 subst hw;obtain⟨p,_,_⟩:=(show wg X.prog X.w H s.heap ea (nU ea (.ref C))from I.ag ea _ hH);exact T_ (Wy hX) I.aS p hk (λz=>nomatch z) λtk=>(xa0 (.bl b) H ⟨I.tok tk,a_,q⟩)
end
theorem Nc {A:C_}{s:d?}(k:o?)(bs:b? o?):∀y,y∈(bs.map Å).toArray->m? A s y (.bool k) (adg k y):=λy hy=>by
 have Aq:y∈bs.map Å:=by simpa using hy
 obtain⟨b,_,rfl⟩:=H?.mp Aq;exact aca b k
theorem Nd (k:o?):∀bs:b? o?,(bs.map Å).countP (adg k)=bs.count k
 |[]=>a_
 |b::bs=>by rw[A_,b?.countP_cons,b?.count_cons,Nd k bs];rfl
noncomputable def WC (K:e?):V->b? V->Hp->VK->Prop:=λx vs H Q=>∃(l:c_)(bs:b? o?)(k:o?),x= .ref l/\vs=[.bl k]/\af K H l (bs.map V.bl)/\Q (.int (bs.count k)) H
noncomputable def WD (K:e?):V->b? V->Hp->VK->Prop:=λx vs H Q=>∃(l:c_)(bs:b? o?)(k:o?),x= .ref l/\vs=[.bl k]/\af K H l (bs.map V.bl)/\k∈bs/\Q (.int (bs.idxOf k)) H
section
variable {X:Cx}
theorem WE:tU X "list.count" (WC X.K):=by intro pins s U H x vs v us Q I rx rv h;obtain⟨l,bs,k,rfl,rfl,hH,q⟩:=h;cases rx;obtain⟨u,rfl,ru⟩:=rv.one;obtain rfl:u=Å k:=ru;obtain⟨its,r,pl,hz⟩:=I.list hH;have e:=Aj r;subst e;obtain⟨⟨cls,dd,data,sl⟩,ho,hc,n,hd⟩:=pl.isList;simp only at hc hd;subst hc hd;refine ň aa2 ⟨_,ho,a_⟩ PySem.F.entry_list_count (PySem.F.args_list_count_2 _ _) (SeqAt.list_countAt l _ n dd sl (.bool k) (adg k)) ⟨ho,λy hy=>Nc k bs y hy,?_⟩;rw[show(bs.map Å).toArray.toList=bs.map Å from a_,Nd k bs];exact(xa0 (.int (bs.count k)) H ⟨I.tok _,⟨_,a_⟩,q⟩)
theorem WH:tU X "list.index" (WD X.K):=by
 intro pins s U H x vs v us Q I rx rv h;obtain⟨l,bs,k,rfl,rfl,hH,hk,q⟩:=h;cases rx;obtain⟨u,rfl,ru⟩:=rv.one;obtain rfl:u=Å k:=ru;obtain⟨its,r,pl,hz⟩:=I.list hH;have e:=Aj r;subst e;obtain⟨⟨cls,dd,data,sl⟩,ho,hc,n,hd⟩:=pl.isList;simp only at hc hd;subst hc hd;have hj:bs.idxOf k<bs.length:=acf.mpr hk;have Eo:bs.length<=k_:=by rw[g_]at hz;exact hz
 have hs:(k_:f?)<2^63-1:=by decide
 refine ň aa1 ⟨_,ho,a_⟩ PySem.F.entry_list_index (PySem.F.args_list_index_2 _ _) (SeqAt.list_indexAt l _ n dd sl (.bool k) (adg k) (bs.idxOf k) (by simpa using hj) (by lia) ?_ ?_) ⟨ho,λy hy=>Nc k bs y hy,?_⟩
 .have e:(bs.map Å).toArray[bs.idxOf k]'(by simpa using hj)=Å (bs[bs.idxOf k]):=by simp
  rw[e];show(bs[bs.idxOf k]==k)=true;simpa using List.getElem_idxOf hj
 .intro j bJ aw;have hjl:j<bs.length:=by simpa using bJ
  have e:(bs.map Å).toArray[j]'bJ=Å (bs[j]):=by simp
  rw[e];show(bs[j]==k)=false;exact adK.mpr λz=>by simpa[z]using acy (p:=(·==k)) (xs:=bs) (i:=j) aw
 .exact(xa0 (.int (bs.idxOf k)) H ⟨I.tok _,⟨_,a_⟩,q⟩)
end
end L2
namespace L2
open PySem
noncomputable def kinds (K:e?)(C:b_)(Ds:b? b_):b? (g? o?):=Ds.map (S? K C)
end L2
namespace L2
open PySem PySem.Spec PyProof.Rows
noncomputable def isStar:G?->o?
 | .Starred _ _=>true
 |_=>false
theorem WI {e:G?}{es:b? G?}{env:Ţ}(h:isStar e=false):x? (e::es) env=(false,U? e env)::x? es env:=by cases e<;>first|rfl|cases h
section
variable {X:Cx}{e:G?}{es:b? G?}{te:TE}{t:TA}
theorem jc (ha:PE X e te)(hr:PA X es t)(h:e_ (isStar e=false) aP1):PA X (e::es) (vu te t):=Uo ha hr (WI h)
end
noncomputable def se {α:Type}:b? α->b? α->b? α
 |[u0],[w0,w1]=>[u0,w0,w1]
 |_,_=>[]
theorem WJ {vs:b? V}{us:b? b_}{zs:b? V}{ws:b? b_}(r1:Vals vs us)(r2:Vals zs ws):Vals (se vs zs) (se us ws):=by rcases r1 with _|⟨a,_|⟨_,_⟩⟩<;>rcases r2 with _|⟨b,_|⟨c,_|⟨_,_⟩⟩⟩;all_goals first|exact .nil|exact .cons a (.cons b (.cons c .nil))
section
variable {X:Cx}{pins:b? (c_×L?)}{U:St}{H:Hp}{s:d?}{a:c_}{o:L?}{u:HO}
theorem Inv.freeze (I:Inv X pins U H s)(hm:iz (some u))(ha:H a=some u)(ho:s.heap.get? a=some o):Inv X pins U (upd H a (.aB o u)) s:=by
 have new:wg X.prog X.w (upd H a (.aB o u)) s.heap a (.aB o u):=by
  refine⟨ho,(I.ag a u ha).cG (λ_ _ _ q=>q) (λc q=>?_) λc xs q=>?_⟩
  .have hc:c≠a:=λz=>by
    subst z;rw[ha]at q;cases q;exact hm
   rw[jd hc];exact q
  .have hc:c≠a:=λz=>by
    subst z;rw[ha]at q;cases q;exact hm
   rw[jd hc];exact q
 exact I.write (t':=s.toks) (x:=a) (e:=a) (o:=.aB o u) (h':=s.heap) (by rw[ha];exact hm) (.inl a_) (λb v _ q=>q) ⟨o,ho⟩ new
theorem Inv.Ep (I:Inv X pins U H s)(ha:H a=some (.aB o u))(h0:∀o' u',X.bh a≠some (.aB o' u'))(hm:iz (some u)):Inv X pins U (upd H a u) s:=by
 have ne:∀{b:c_}{v:HO},H b=some v->(∀o' u',v≠.aB o' u')->b≠a:=λ{b v} e h z=>by subst z;rw[ha]at e;exact h _ _ (s_ e).symm
 have Ar:∀{b:c_},H b=none->b≠a:=λ{b} e z=>by subst z;rw[ha]at e;cases e
 refine⟨I.ok,I.os,I.bare,⟨I.base.keep,I.base.slot,λb ob e n hx=>?_,I.base.there,λb xs q=>?_,λb ob v q=>?_,λb ps q=>?_⟩,I.loc,I.cell,?_,λx c e=>?_,λp hp=>?_,λb v e=>?_,I.len⟩
 .have q:=I.base.free b ob e n hx;rw[jd (Ar q)];exact q
 .have q':=I.base.dY b xs q;rw[jd (ne q' λ_ _ z=>nomatch z)];exact q'
 .have hb:b≠a:=λz=>by
   subst z;exact h0 _ _ q
  rw[jd hb];exact I.base.dG b ob v q
 .obtain⟨more,z⟩:=I.base.eI b ps q;exact⟨more,by rw[jd (ne z λ_ _ z=>nomatch z)];exact z⟩
 .rw[jd (Ar I.free)];exact I.free
 .rw[jd (Ar (I.dH x c e))];exact I.dH x c e
 .obtain⟨q1,q2,q3⟩:=I.pin p hp;exact⟨q1,by rw[jd (Ar q2)];exact q2,q3⟩
 .have own:∀(c y:c_),H c=some (.own y)->upd H a u c=some (.own y):=λc y q=>by
   rw[jd (ne q λ_ _ z=>nomatch z)];exact q
  have tup:∀(c:c_)(xs:b? V),H c=some (.tup xs)->upd H a u c=some (.tup xs):=λc xs q=>by rw[jd (ne q λ_ _ z=>nomatch z)];exact q
  by_cases hb:b=a
  .subst hb;rw[ja]at e;cases e;obtain⟨_,q⟩:=I.ag _ _ ha;exact q.cG (λ_ _ _ q=>q) (λc q=>own c _ q) tup
  .rw[jd hb]at e;exact(I.ag b v e).cG (λ_ _ _ q=>q) (λc q=>own c _ q) tup
noncomputable def WK (H0:Hp)(t:TS):TS:=λD U H=>
 let un:(Hp->Prop)->Hp->Prop:=λQ H'=>∃a o u,H' a=some (.aB o u)/\(∀o' u',H0 a≠some (.aB o' u'))/\iz (some u)/\Q (upd H' a u)
 t {nx:=λ U' H'=>un (D.nx U') H',rt:=λv H'=>un (D.rt v) H',bk:=D.bk,ct:=D.ct} U H
theorem WL {st:K?}{t:TS}(h:PS X st t):PS X st (WK X.bh t):=by
 intro pins s U H D I q;refine ah (h pins s U H _ I q) λf s1 q1=>?_;cases f with
 |next=>obtain⟨U1,H1,I1,a,o,u,ha,h0,hm,q⟩:=q1;exact(xa0 U1 _ ⟨I1.Ep ha h0 hm,q⟩)
 |ret v=>obtain⟨x,U1,H1,I1,r,a,o,u,ha,h0,hm,q⟩:=q1;exact(xa1 x U1 _ ⟨I1.Ep ha h0 hm,r,q⟩)
 |brk=>exact q1
 |cont=>exact q1
noncomputable def WM (H0:Hp)(t:TE):TE:=λ U H Q=>t U H λv H'=>∃a o u,H' a=some (.aB o u)/\(∀o' u',H0 a≠some (.aB o' u'))/\iz (some u)/\Q v (upd H' a u)
theorem Er {e:G?}{t:TE}(h:PE X e t):PE X e (WM X.bh t):=by intro pins s U H Q I q;refine ah (h pins s U H _ I q) λv s1 zQ=>?_;obtain⟨x,H1,I1,r,a,o,u,ha,h0,hm,q⟩:=zQ;exact(xa0 x _ ⟨I1.Ep ha h0 hm,r,q⟩)
end
theorem Nf {k:Key}{v:b_}(h:oK k v=true):RelV (kV k) v:=by
 rcases ye h with⟨i,t,rfl,rfl⟩|⟨x,t,rfl,rfl⟩
 .exact⟨t,a_⟩
 .exact⟨t,a_⟩
noncomputable def uX (a:c_)(o:L?)(kvs:b? (Key×V)):It where
 go:=λi H=>i<kvs.length/\H a=some (.aB o (.dK kvs))
 dJ:=λi H x H'=>H'=H/\∃kv,kvs[i]?=some kv/\x=kV kv.1
 stop:=λi H=>kvs.length<=i/\H a=some (.aB o (.dK kvs))
theorem Es {kvs:b? (Key×V)}{vs:b? (Key×b_)}:∀{i:i_}{kv:Key×V},KV kvs vs->kvs[i]?=some kv->∃v,vs[i]?=some (kv.1,v)/\RelV kv.2 v:=by
 intro i kv r;unfold KV at r;induction r generalizing i with
 |nil=>intro e;simp at e
 |@cons p q ps qs h t ih=>
  intro e;cases i with
  |zero=>have e':=s_ e;subst e';exact⟨q.2,by rw[h.1];rfl,h.2⟩
  |succ i=>exact ih e
theorem WN {P:D'}{w:I?}{K:e?}{tg:G?}(a it:c_)(o:L?)(kvs:b? (Key×V))(es:E? Ĉ)(ep:i_)(hd:o.data= .dict es ep):Turn P w K tg (uX a o kvs) [it] it (λi h=>h.IsKeyIter it a i kvs.length ep) where
 mem:=by simp
 obj:=λi h st b hb=>by
  have e:b=it:=by simpa using hb
  subst e;obtain⟨o,e,c,d⟩:=st;exact⟨o,e,λv z=>by rw[d]at z;cases z⟩
 keep:=λi h h' st k=>st.at λo e=>k it (by simp) o e
 item:=by
  intro X hP hw hK hc i pins s U H E I hf st hg;subst hP hw hK;obtain⟨hi,hq⟩:=hg;obtain⟨ho,hz,hs,vs,r,o',gQ,eK,aV,eU,bu,r1,r2,r3⟩:=I.ag a _ hq;have eo:o'=o:=s_ (aV.symm.trans ho);subst eo;have ee:eK=ep:=by rw[hd]at bu;cases bu;rfl
  subst ee;have hlen:kvs.length=vs.length:=q? r;have hm:s.heap.DictAt (qy X.prog X.w) a vs eK:=(xa0 o' gQ ⟨ho,eU,bu,r1,r2,r3⟩);obtain⟨kv,kP⟩:∃kv,kvs[i]?=some kv:=⟨kvs[i],by simp[hi]⟩;obtain⟨v,ev,rv⟩:=Es r kP;obtain⟨f0,f1,f2,f3,f4,f5⟩:=hf it (by simp);rw[hlen]at st;refine wpAny_pyNext_dict_item st hm ev λkey h' hk bL sb=>?_;have I1:Inv X pins U H {s with heap:=h'}:=I.turned (t':=s.toks) (λb o hb e=>(sb.2 b hb).trans e) f0 f1 f3 f4 f5;rw[<-hlen]at bL;obtain⟨oi,ei,ci,di⟩:=id bL;exact⟨key,a_,rE (s:={s with heap:=h'}) ei ci di (by decide) (xa0 (kV kv.1) H ⟨I1,Nf hk,⟨a_,kv,kP,a_⟩,bL,λb hb=>(hf b hb).1⟩)⟩
 done:=by
  intro X hP hw hK hc i pins s U H E I hf st hg;subst hP hw hK;obtain⟨hi,hq⟩:=hg;obtain⟨ho,hz,hs,vs,r,o',gQ,eK,aV,eU,bu,r1,r2,r3⟩:=I.ag a _ hq;have eo:o'=o:=s_ (aV.symm.trans ho);subst eo;have ee:eK=ep:=by rw[hd]at bu;cases bu;rfl
  subst ee;have hlen:kvs.length=vs.length:=q? r;have hm:s.heap.DictAt (qy X.prog X.w) a vs eK:=(xa0 o' gQ ⟨ho,eU,bu,r1,r2,r3⟩);obtain⟨f0,f1,f2,f3,f4,f5⟩:=hf it (by simp);rw[hlen]at st;exact wpAny_pyNext_dict_end (I.ok.hd hc) st hm (ř.mpr (by lia)) λh' eb=>⟨a_,I.turned (t':=s.toks) (λb o hb e=>eb b o hb e) f0 f1 f3 f4 f5⟩
 self:=λ_ _ _ _ _ st h=>ac5 st h
noncomputable def WO (tl:TE):TI:=λ U H R=>tl U H λx H1=>∃a kvs,x= .ref a/\H1 a=some (.dK kvs)/\∀o,R (uX a o kvs) (upd H1 a (.aB o (.dK kvs)))
theorem WQ {X:Cx}{tg l:G?}{tl:TE}(hl:PE X l tl):PI X tg l (WO tl):=by
 intro pins s U H R I h;refine ah (hl pins s U H _ I h) λv s1 zQ=>?_;obtain⟨x,H1,I1,r1,q1⟩:=zQ;obtain⟨a,kvs,e,hq,q⟩:=q1;subst e;cases r1;obtain⟨hz,hs,vs,r,o,es,ep,ho,hx,hd,r1,r2,r3⟩:=I1.ag a _ hq;have hlen:kvs.length=vs.length:=q? r;have hm:s1.heap.DictAt (qy X.prog X.w) a vs ep:=(xa0 o es ⟨ho,hx,hd,r1,r2,r3⟩);refine wpAny_pyIter_dict hs hm ?_;have I2:=I1.freeze (show iz (some (HO.dK kvs))from xv) hq ho;have hn:upd H1 a (.aB o (.dK kvs)) s1.heap.objs.size=none:=I2.ag.fresh (r_ _);refine(xa3 s1.heap.objs.size [s1.heap.objs.size] _ _ _ ⟨a_,I2.kept (t':=s1.toks) λb o e=>f_ _ e,WN a _ o kvs es ep hd,?_,λb hb=>?_,q o⟩)
 .rw[hlen];exact⟨_,v? _ a_,a_,a_⟩
 .have e:b=s1.heap.objs.size:=by simpa using hb
  subst e;exact I2.oS (r_ _) hn
noncomputable def kQ (v d:c_):HO:=.ext λh=>h.IsValuesView v d
noncomputable def uY (a:c_)(o:L?)(kvs:b? (Key×V)):It where
 go:=λi H=>i<kvs.length/\H a=some (.aB o (.dK kvs))
 dJ:=λi H x H'=>H'=H/\∃kv,kvs[i]?=some kv/\x=kv.2
 stop:=λi H=>kvs.length<=i/\H a=some (.aB o (.dK kvs))
section
variable {X:Cx}
theorem WR:tU X "dict.values" (λx xs H Q=>∃d kvs,x= .ref d/\xs=[]/\H d=some (.dK kvs)/\∀p,H p=none->Q (.ref p) (upd H p (kQ p d))):=by intro pins s U H x xs v us Q I rx rs h;obtain⟨d,kvs,rfl,rfl,hq,q⟩:=h;cases rx;cases rs;obtain⟨hz,hs,vs,r,hd⟩:=I.ag d _ hq;refine ł aaU hd.typeIs PySem.F.entry_dict_values (PySem.F.args_dict_values_1 _) (meets_dict_values (qy X.prog X.w) d hs) ⟨⟨vs,hd⟩,?_⟩;refine(xa0 (.ref s.heap.objs.size) _ ⟨I.laid (t':=s.toks) (o:=kQ s.heap.objs.size d) (λb ob q=>f_ _ q) (r_ _) ?_,a_,q _ I.fresh⟩);refine⟨⟨_,v? _ a_,a_,a_⟩,⟨_,v? _ a_⟩,λh1 h2 p k=>?_⟩;obtain⟨o,e,c,d⟩:=p;exact⟨o,k o e,c,d⟩
end
theorem WS {P:D'}{w:I?}{K:e?}{tg:G?}(a it:c_)(o:L?)(kvs:b? (Key×V))(es:E? Ĉ)(ep:i_)(hd:o.data= .dict es ep):Turn P w K tg (uY a o kvs) [it] it (λi h=>h.IsValIter it a i kvs.length ep) where
 mem:=by simp
 obj:=λi h st b hb=>by
  have e:b=it:=by simpa using hb
  subst e;obtain⟨o,e,c,d⟩:=st;exact⟨o,e,λv z=>by rw[d]at z;cases z⟩
 keep:=λi h h' st k=>st.at λo e=>k it (by simp) o e
 item:=by
  intro X hP hw hK hc i pins s U H E I hf st hg;subst hP hw hK;obtain⟨hi,hq⟩:=hg;obtain⟨ho,hz,hs,vs,r,o',gQ,eK,aV,eU,bu,r1,r2,r3⟩:=I.ag a _ hq;have eo:o'=o:=s_ (aV.symm.trans ho);subst eo;have ee:eK=ep:=by rw[hd]at bu;cases bu;rfl
  subst ee;have hlen:kvs.length=vs.length:=q? r;have hm:s.heap.DictAt (qy X.prog X.w) a vs eK:=(xa0 o' gQ ⟨ho,eU,bu,r1,r2,r3⟩);obtain⟨kv,kP⟩:∃kv,kvs[i]?=some kv:=⟨kvs[i],by simp[hi]⟩;obtain⟨v,ev,rv⟩:=Es r kP;obtain⟨f0,f1,f2,f3,f4,f5⟩:=hf it (by simp);rw[hlen]at st;refine wpAny_pyNext_values_item st hm ev λh' bL sb=>?_;have I1:Inv X pins U H {s with heap:=h'}:=I.turned (t':=s.toks) (λb o hb e=>(sb.2 b hb).trans e) f0 f1 f3 f4 f5;rw[<-hlen]at bL;obtain⟨oi,ei,ci,di⟩:=id bL;exact⟨v,a_,rE (s:={s with heap:=h'}) ei ci di (by decide) (xa0 kv.2 H ⟨I1,rv,⟨a_,kv,kP,a_⟩,bL,λb hb=>(hf b hb).1⟩)⟩
 done:=by
  intro X hP hw hK hc i pins s U H E I hf st hg;subst hP hw hK;obtain⟨hi,hq⟩:=hg;obtain⟨ho,hz,hs,vs,r,o',gQ,eK,aV,eU,bu,r1,r2,r3⟩:=I.ag a _ hq;have eo:o'=o:=s_ (aV.symm.trans ho);subst eo;have ee:eK=ep:=by rw[hd]at bu;cases bu;rfl
  subst ee;have hlen:kvs.length=vs.length:=q? r;have hm:s.heap.DictAt (qy X.prog X.w) a vs eK:=(xa0 o' gQ ⟨ho,eU,bu,r1,r2,r3⟩);obtain⟨f0,f1,f2,f3,f4,f5⟩:=hf it (by simp);rw[hlen]at st;exact wpAny_pyNext_values_end (I.ok.hd hc) st hm (ř.mpr (by lia)) λh' eb=>⟨a_,I.turned (t':=s.toks) (λb o hb e=>eb b o hb e) f0 f1 f3 f4 f5⟩
 self:=λ_ _ _ _ _ st h=>wpAny_pyIter_valiter st h
noncomputable def WT (tl:TE):TI:=λ U H R=>tl U H λx H1=>∃v a kvs,x= .ref v/\H1 v=some (kQ v a)/\H1 a=some (.dK kvs)/\∀o,R (uY a o kvs) (upd H1 a (.aB o (.dK kvs)))
theorem WU {X:Cx}{tg l:G?}{tl:TE}(hl:PE X l tl):PI X tg l (WT tl):=by
 intro pins s U H R I h;refine ah (hl pins s U H _ I h) λv s1 zQ=>?_;obtain⟨x,H1,I1,r1,q1⟩:=zQ;obtain⟨v,a,kvs,e,hv,hq,q⟩:=q1;subst e;cases r1;obtain⟨hz,hs,vs,r,o,es,ep,ho,hx,hd,r1,r2,r3⟩:=I1.ag a _ hq;have hlen:kvs.length=vs.length:=q? r;have hm:s1.heap.DictAt (qy X.prog X.w) a vs ep:=(xa0 o es ⟨ho,hx,hd,r1,r2,r3⟩);obtain⟨WV,_,_⟩:=(show wg X.prog X.w H1 s1.heap v (kQ v a)from I1.ag v _ hv);refine wpAny_pyIter_values WV hm ?_;have I2:=I1.freeze (show iz (some (HO.dK kvs))from xv) hq ho;have hn:upd H1 a (.aB o (.dK kvs)) s1.heap.objs.size=none:=I2.ag.fresh (r_ _);refine(xa3 s1.heap.objs.size [s1.heap.objs.size] _ _ _ ⟨a_,I2.kept (t':=s1.toks) λb o e=>f_ _ e,WS a _ o kvs es ep hd,?_,λb hb=>?_,q o⟩)
 .rw[hlen];exact⟨_,v? _ a_,a_,a_⟩
 .have e:b=s1.heap.objs.size:=by simpa using hb
  subst e;exact I2.oS (r_ _) hn
end L2
namespace bR
open PySem PyProof.Rows PySem.W
noncomputable def Wp (f:i_->i_->o?)(n:i_){α:Type}:KasT α->(α->Prop)->Prop
 | .ret a,R=>R a
 | .ask i j k,R=>i<n/\j<n/\i≠j/\Wp f n (k (f i j)) R
theorem Wp.mono {f:i_->i_->o?}{n:i_}{α:Type}{R R':α->Prop}(h:∀a,R a->R' a):∀{t:KasT α},Wp f n t R->Wp f n t R'
 | .ret a,q=>h a q
 | .ask _ _ _,⟨a,b,c,q⟩=>⟨a,b,c,Wp.mono h q⟩
theorem Wp.bind {f:i_->i_->o?}{n:i_}{α β:Type}{g:α->KasT β}{R:β->Prop}:∀{t:KasT α},Wp f n t (λa=>Wp f n (g a) R)->Wp f n (t.bind g) R
 | .ret _,q=>q
 | .ask _ _ _,⟨a,b,c,q⟩=>⟨a,b,c,Wp.bind q⟩
structure i6 (f:i_->i_->o?)(n:i_):Prop where
 bB:∀i j,i<n->j<n->i≠j->f i j=false->f j i=true
 WW:∀i j,i<n->j<n->f i j=true->f j i=false
 tr:∀i j k,i<n->j<n->k<n->f i j=true->f j k=true->f i k=true
noncomputable def P (n:i_)(p:E? i_):Prop:=p.toList.Perm (V_ n)
section
variable {n:i_}{p:E? i_}
theorem P.size (h:P n p):p.size=n:=by have:=h.length_eq;rw[ß]at this;simpa using this
theorem getD_eq {k:i_}(h:k<p.size):p.getD k 0=p[k]:=by simp[E?.getD,h]
theorem P.lt (h:P n p){k:i_}(hk:k<n):p.getD k 0<n:=by have hs:=h.size;rw[getD_eq (by lia)];exact Z?.mp (h.mem_iff.mp (by simp))
theorem P.inj (h:P n p){a b:i_}(ha:a<n)(hb:b<n)(e:p.getD a 0=p.getD b 0):a=b:=by have hs:=h.size;rw[getD_eq (by lia),getD_eq (by lia)]at e;have nd:p.toList.Nodup:=h.nodup_iff.mpr abr;exact(abt (h₀:=by simp;lia) (h₁:=by simp;lia) nd).mp (by simpa using e)
noncomputable def Up (f:i_->i_->o?)(p:E? i_)(m:i_):Prop:=∀a b,a<b->b<m->f (p.getD a 0) (p.getD b 0)=true
noncomputable def Down (f:i_->i_->o?)(p:E? i_)(m:i_):Prop:=∀a b,a<b->b<m->f (p.getD b 0) (p.getD a 0)=true
variable {f:i_->i_->o?}
theorem Up.more (T:i6 f n)(hp:P n p){m:i_}(h1:1<=m)(hm:m<n)(u:Up f p m)(h:f (p.getD (m-1) 0) (p.getD m 0)=true):Up f p (m+1):=by
 intro a b ab bm;by_cases e:b=m
 .subst e;by_cases e2:a=b-1
  .subst e2;exact h
  .exact T.tr _ _ _ (hp.lt (by lia)) (hp.lt (by lia)) (hp.lt hm) (u a (b-1) (by lia) (by lia)) h
 .exact u a b ab (by lia)
theorem Down.more (T:i6 f n)(hp:P n p){m:i_}(h1:1<=m)(hm:m<n)(u:Down f p m)(h:f (p.getD m 0) (p.getD (m-1) 0)=true):Down f p (m+1):=by
 intro a b ab bm;by_cases e:b=m
 .subst e;by_cases e2:a=b-1
  .subst e2;exact h
  .exact T.tr _ _ _ (hp.lt hm) (hp.lt (by lia)) (hp.lt (by lia)) h (u a (b-1) (by lia) (by lia))
 .exact u a b ab (by lia)
theorem asc (T:i6 f n)(hp:P n p):∀(c m:i_),1<=m->m+c<=n->Up f p m->Wp f n (kas_asc p c m) λr=>m<=r/\r<=m+c/\Up f p r/\(r<m+c->f (p.getD r 0) (p.getD (r-1) 0)=true)
 |0,m,_,_,u=>⟨r_ _,r_ _,u,λh=>w_ h (by lia)⟩
 |c+1,m,h1,hm,u=>by
  refine⟨hp.lt (by lia),hp.lt (by lia),λe=>?_,?_⟩
  .have:=hp.inj (by lia) (by lia) e;lia
  cases h:f (p.getD m 0) (p.getD (m-1) 0)with
  |true=>exact⟨r_ _,by lia,u,λ_=>h⟩
  |false=>have u':=u.more T hp h1 (by lia) (T.bB _ _ (hp.lt (by lia)) (hp.lt (by lia)) (λe=>by have:=hp.inj (by lia) (by lia) e;lia) h);show Wp f n (kas_asc p c (m+1)) _;refine(asc T hp c (m+1) (by lia) (by lia) u').mono λr q=>?_;exact⟨by lia,by lia,q.2.2.1,λz=>q.2.2.2 (by lia)⟩
theorem desc (T:i6 f n)(hp:P n p):∀(c m:i_),2<=m->m+c<=n->Down f p m->Wp f n (kas_desc c p m 0) λr=>r.1=p/\r.2.2=0/\m<=r.2.1/\r.2.1<=m+c/\Down f p r.2.1
 |0,m,_,_,u=>⟨a_,a_,r_ _,r_ _,u⟩
 | c+1,m,h1,hm,u=>by
  refine⟨hp.lt (by lia),hp.lt (by lia),λe=>?_,?_⟩
  .have:=hp.inj (by lia) (by lia) e;lia
  cases h:f (p.getD m 0) (p.getD (m-1) 0)with
  |true=>show Wp f n (kas_desc c p (m+1) 0) _;refine(desc T hp c (m+1) (by lia) (by lia) (u.more T hp (by lia) (by lia) h)).mono λr q=>?_;exact⟨q.1,q.2.1,by lia,by lia,q.2.2.2.2⟩
  |false=>
   have h':=T.bB _ _ (hp.lt (by lia)) (hp.lt (by lia)) (λe=>by have:=hp.inj (by lia) (by lia) e;lia) h;refine⟨hp.lt (by lia),hp.lt (by lia),λe=>?_,?_⟩
   .have:=hp.inj (by lia) (by lia) e;lia
   rw[h'];exact⟨a_,a_,r_ _,i_.le_add_right _ _,u⟩
theorem uZ {q:E? i_}{a b:i_}(e:q[a]?=p[b]?):q.getD a 0=p.getD b 0:=by rw[abK,abK,e]
theorem Ng (hp:P n p){m:i_}(hm:m<=n)(k:i_):(kas_rev p 0 m).getD k 0=if k<m then p.getD (m-1-k) 0 else p.getD k 0:=by
 have h:=getElem?_mirror_all (xs:=p) (i:=0) (j:=m) (by rw[hp.size];exact hm) k;by_cases hk:k<m
 .rw[m_ hk];rw[m_ ⟨T? _,hk⟩]at h;refine uZ (h.trans ?_);congr 1;lia
 .rw[j? hk];rw[j? (by lia)]at h;exact uZ h
theorem Nh (hp:P n p)(m:i_):P n (kas_rev p 0 m):=(ab6.mp (mirror_perm p 0 m _)).trans hp
theorem WX (hp:P n p){m:i_}(hm:m<=n)(d:Down f p m):Up f (kas_rev p 0 m) m:=by intro a b ab bm;rw[Ng hp hm,Ng hp hm,m_ (by lia),m_ bm];exact d _ _ (by lia) (by lia)
theorem tail3 (T:i6 f n)(hp:P n p){m:i_}(h1:1<=m)(hm:m<=n)(d:Down f p m):Wp f n (kas_tail3 m n p) λr=>1<=r.1/\r.1<=n/\P n r.2/\Up f r.2 r.1:=by refine Wp.bind ((asc T (Nh hp m) (n-m) m h1 (by lia) (WX hp hm d)).mono λr q=>?_);exact⟨by lia,by lia,Nh hp m,q.2.2.1⟩
theorem count (T:i6 f n)(hp:P n p)(h1:1<=n):Wp f n (kas_count n p) λr=>1<=r.1/\r.1<=n/\P n r.2/\Up f r.2 r.1:=by
 refine Wp.bind ((asc T hp (n-1) 1 (r_ _) (by lia) (λa b ab hb=>w_ hb (by lia))).mono λm q=>?_);obtain⟨q1,q2,q3,q4⟩:=q;by_cases e:m=n
 .rw[m_ (by simp[e])];exact⟨q1,by lia,hp,q3⟩
 .rw[j? (by simp[e])];by_cases e2:m>1
  .rw[m_ e2];refine⟨hp.lt (by lia),hp.lt (by lia),λz=>?_,?_⟩
   .have:=hp.inj (by lia) (by lia) z;lia
   rw[q3 0 (m-1) (by lia) (by lia)];exact⟨q1,by lia,hp,q3⟩
  .rw[j? e2];have e3:m=1:=by lia
   subst e3;have h:=q4 (by lia);have d2:Down f p 2:=λa b ab hb=>by
    have ea:a=0:=by lia
    have eb:b=1:=by lia
    subst ea eb;exact h
   refine Wp.bind ((desc T hp (n-2) 2 (r_ _) (by lia) d2).mono λr q=>?_);obtain⟨r1,r2,r3,r4,r5⟩:=q;rw[j? (by lia),r1];exact tail3 T hp (by lia) (by lia) r5
theorem place (T:i6 f n)(hp:P n p){k:i_}(hk:k<n)(u:Up f p k):∀(c l r:i_),l<=r->r<=k->r-l<=c->(∀i,i<l->f (p.getD i 0) (p.getD k 0)=true)->(∀i,r<=i->i<k->f (p.getD k 0) (p.getD i 0)=true)->Wp f n (aed p k c l r) λq=>q<=k/\(∀i,i<q->f (p.getD i 0) (p.getD k 0)=true)/\(∀i,q<=i->i<k->f (p.getD k 0) (p.getD i 0)=true)
 |0,l,r,h1,h2,h3,h4,h5=>⟨by lia,h4,λi a b=>h5 i (by lia) b⟩
 | c+1,l,r,h1,h2,h3,h4,h5=>by
  show Wp f n (if l>=r then .ret l else _) _;by_cases e:l>=r
  .rw[m_ e];exact⟨by lia,h4,λi a b=>h5 i (by lia) b⟩
  .rw[j? e];refine⟨hp.lt hk,hp.lt (by lia),λz=>?_,?_⟩
   .have:=hp.inj hk (by lia) z;lia
   cases h:f (p.getD k 0) (p.getD ((l+r) / 2) 0)with
   |true=>
    show Wp f n (aed p k c l ((l+r) / 2)) _;refine place T hp hk u c l _ (by lia) (by lia) (by lia) h4 λi a b=>?_;by_cases ei:i=(l+r) / 2
    .rw[ei];exact h
    .exact T.tr _ _ _ (hp.lt hk) (hp.lt (by lia)) (hp.lt (by lia)) h (u _ _ (by lia) b)
   |false=>
    have h':=T.bB _ _ (hp.lt hk) (hp.lt (by lia)) (λz=>by have:=hp.inj hk (by lia) z;lia) h;show Wp f n (aed p k c ((l+r) / 2+1) r) _;refine place T hp hk u c _ r (by lia) h2 (by lia) (λi a=>?_) h5;by_cases ei:i=(l+r) / 2
    .rw[ei];exact h'
    .exact T.tr _ _ _ (hp.lt (by lia)) (hp.lt (by lia)) (hp.lt hk) (u _ _ (by lia) (by lia)) h'
theorem Ni (hp:P n p){k l:i_}(hk:k<n)(hl:l<=k)(i:i_):(bubble p k (k-l)).getD i 0=if i=l then p.getD k 0 else if l<i/\i<=k then p.getD (i-1) 0 else p.getD i 0:=by
 have h:=getElem?_bubble (xs:=p) (src:=k) (by rw[hp.size];exact hk) (k-l) (by lia) i;rw[show k-(k-l)=l by lia]at h;by_cases e:i=l
 .rw[m_ e]at h⊢;exact uZ h
 .rw[j? e]at h⊢;by_cases e2:l<i/\i<=k
  .rw[m_ e2]at h⊢;exact uZ h
  .rw[j? e2]at h⊢;exact uZ h
theorem WY (hp:P n p){k l:i_}(hk:k<n)(hl:l<=k)(u:Up f p k)(h1:∀i,i<l->f (p.getD i 0) (p.getD k 0)=true)(h2:∀i,l<=i->i<k->f (p.getD k 0) (p.getD i 0)=true):Up f (bubble p k (k-l)) (k+1):=by
 intro a b ab bm;rw[Ni hp hk hl,Ni hp hk hl];by_cases ea:a=l
 .rw[m_ ea,j? (by lia),m_ ⟨by lia,by lia⟩];exact h2 _ (by lia) (by lia)
 .rw[j? ea];by_cases eb:b=l
  .rw[j? (by lia),m_ eb];exact h1 _ (by lia)
  .rw[j? eb];by_cases e1:l<a/\a<=k
   .rw[m_ e1,m_ ⟨by lia,by lia⟩];exact u _ _ (by lia) (by lia)
   .rw[j? e1];by_cases e2:l<b/\b<=k
    .rw[m_ e2];exact u _ _ (by lia) (by lia)
    .rw[j? e2];exact u _ _ ab (by lia)
theorem WZ (hp:P n p)(k d:i_):P n (bubble p k d):=(ab6.mp (bubble_perm p k d)).trans hp
end
theorem bin {f:i_->i_->o?}{n:i_}(T:i6 f n):∀(c:i_)(p:E? i_)(k:i_),P n p->k+c<=n->Up f p k->Wp f n (kas_bin c p k) λr=>P n r/\Up f r (k+c)
 |0,p,k,hp,_,u=>⟨hp,u⟩
 |c+1,p,k,hp,hk,u=>by refine Wp.bind ((place T hp (k:=k) (by lia) u k 0 k (T? _) (r_ _) (by lia) (λi h=>w_ h (by lia)) (λi a b=>w_ b (by lia))).mono λl q=>?_);refine(bin T c _ (k+1) (WZ hp k _) (by lia) (WY hp (by lia) q.1 u q.2.1 q.2.2)).mono λr q=>?_;rw[show k+1+c=k+(c+1)by lia]at q;exact q
theorem W0 (n:i_):P n (acZ (V_ n)):=by unfold P;rw[aaE]
theorem sort {f:i_->i_->o?}{n:i_}(T:i6 f n)(h1:1<=n):Wp f n (ae5 n) λr=>P n r/\Up f r n:=by
 refine Wp.bind ((count T (W0 n) h1).mono λr q=>?_);obtain⟨q1,q2,q3,q4⟩:=q;by_cases e:r.1<n
 .rw[m_ e];refine(bin T _ _ _ q3 (by lia) (by rw[show max r.1 1=r.1 by lia];exact q4)).mono λz q=>?_;rw[show max r.1 1+(n-max r.1 1)=n by lia]at q;exact q
 .rw[j? e];exact⟨q3,by rw[show n=r.1 by lia];exact q4⟩
end bR
namespace L2
open PySem PySem.Spec PyProof.Rows PySem.W
section
variable {prog:D'}{w:I?}{A:C_}{E:b_->d?->Prop}{s:d?}
theorem Nj {Q:o?->d?->Prop}:∀{vs us:b? b_}{ns ms:b? f?}(i:i_),Y? vs ns->Y? us ms->Q (HT.lexLt ns ms) s->KatLex prog w A true (s? (ns.length<ms.length)) Q (vs.zip us) i s
 |[],[],[],[],_,_,_,q=>kat_nil (by simpa[HT.lexLt]using q)
 |[],_::_,[],_::_,_,_,_,q=>kat_nil (by simpa[HT.lexLt]using q)
 |_::_,[],_::_,[],_,_,_,q=>kat_nil (by simpa[HT.lexLt]using q)
 | _::vs,_::us,n::ns,m::ms,i,.cons _ t hv,.cons _ t' hu,q=>by
  rw[HT.oX]at q;refine kat_cons (aea (kat_go (λe=>?_) λe=>?_))
  .have e':n=m:=by simpa using e
   rw[m_ e']at q;refine kat_yes ?_;show KatLex prog w A true _ Q (vs.zip us) (i+1) s;have h:=Nj (i+1) hv hu q;rw[show s? ((n::ns).length<(m::ms).length)=s? (ns.length<ms.length)by simp];exact h
  .have e':¬n=m:=by simpa using e
   rw[j? e']at q;refine kat_no ?_;cases i with
   |zero=>exact oneLt_int q
   |succ i=>exact kat_one _ _ (aaz q)
theorem W2 {a:c_}{vs:b? b_}{n:i_}{R:PySem.Fin->d?->Prop}{Good:E? i_->Prop}(ho:s.heap.get? a=some (è "list" vs.toArray n))(As:vs.length<64)(ask:2<=vs.length->∀s':d?,(∀b o,b≠a->s.heap.get? b=some o->s'.heap.get? b=some o)->l_ (n_ prog w) A (keyKind' vs.toArray) (λ B s1=>s1=s'/\(ae5 vs.length).kasWp (kas_ask prog w A B vs) (λp s2=>s2=s'/\Good p) s') (λ_ _=>w?) s')(one:vs.length<2->R (.done (.ret .none)) {s with heap:=ab1 s.heap a vs vs.toArray})(more:∀p:E? i_,p.size=vs.length->Good p->R (.done (.ret .none)) {s with heap:=ab1 s.heap a vs (acZ (p.toList.map λi=>vs.getD i ė))}):
  l_ (n_ prog w) A (Builtin.«list.sort» ⟨[.ref a],[]⟩) R E s:=by
 have big:(64:i_)<=k_:=by decide
 obtain⟨e1,iE⟩:∃e1,(s.heap.update a (X' λ_=>#[])).get? a=some (è "list" #[] e1):=⟨_,get?_update_seq ho (λ_=>#[])⟩;have la:a<(s.heap.update a (X' λ_=>(#[]:E? b_))).objs.size:=r? iE;have Au:=f_ (è "list" #[] 0) (f_ (è "tuple" vs.toArray 0) iE);have old:∀b o,b≠a->s.heap.get? b=some o->(((s.heap.update a (X' λ_=>#[])).push (è "tuple" vs.toArray 0)).push (è "list" #[] 0)).get? b=some o:=λb o hb e=>f_ _ (f_ _ ((Ŋ _ _ _ _ hb).trans e));rw[list_sort_plain];refine d_ (listItems_at ho a_ (d_ (acm ho a_ (d_ (ade iE a_ (d_ (wpAny_newTuple (d_ (aaA (M? ?_) (T? _))) (by show vs.length<=_;lia))))) (by show vs.toArray.size<=_;simp;lia) (T? _))));by_cases h2:vs.length<2
 .have nP:vs.toArray.size<2:=by simpa using h2
  have e:((vs.toArray.zip vs.toArray).map λx:b_×b_=>x.2)=vs.toArray:=by apply aes.mp;simp;exact b?.map_snd_zip (r_ _)
  dsimp only;rw[m_ nP,m_ nP];refine d_ (j_ ?_);rw[StateT.run_pure];refine d_ (j_ (d_ (ade Au a_ (d_ (acm Au a_ ?_ (T? _) ?_)))))
  .simp only[adM,Ā,aaN];have q:=one h2;rw[<-e]at q;exact j_ q
  .show((vs.toArray.zip vs.toArray).map λx:b_×b_=>x.2).size<=_;rw[e];simp;lia
 .have nP:¬vs.toArray.size<2:=by simpa using h2
  dsimp only;rw[j? nP,j? nP];refine d_ (G_ (ask (by lia) _ old) (λ B s1 hk=>?_) λ_ _ z=>z.elim);obtain⟨rfl,hk⟩:=hk;refine d_ (G_ (kat_run (ks:=vs) (vs:=vs) (Q:=λbL s2=>∃p:E? i_,p.size=vs.length/\arrOf bL=p.map (kas_item (vs.toArray.zip vs.toArray))/\failedOf bL=none/\s2=_/\Good p) a_ (by lia) As (λp bL s2 a1 a2 a3 a4=>⟨p,a1,a2,a3,a4⟩) hk) ?_ λ_ _ z=>z)
  rintro⟨⟨⟩,st⟩ s2 ⟨p,hp,W3,hf,rfl,good⟩
  have e:=kat_snds (ks:=vs) (vs:=vs) a_ W3;dsimp only;rw[e];refine d_ (ade Au a_ (d_ (acm Au a_ ?_ (T? _) ?_)))
  .rw[hf];simp only[adM,Ā,aaN];exact j_ (more p hp good)
  .rw[G',g_,Ï,hp];lia
theorem W4 {l:c_}{vs:b? b_}{Q:b_->d?->Prop}{Good:E? i_->Prop}(hl:s.heap.IsList l vs.toArray)(As:vs.length<64)(ask:2<=vs.length->∀s':d?,(∀b o,s.heap.get? b=some o->s'.heap.get? b=some o)->l_ (n_ prog w) A.in1.in1 (keyKind' vs.toArray) (λ B s1=>s1=s'/\(ae5 vs.length).kasWp (kas_ask prog w A.in1.in1 B vs) (λp s2=>s2=s'/\Good p) s') (λ_ _=>w?) s')(one:vs.length<2->Q (.ref (s.heap.objs.size+1)) {s with heap:=aen s.heap vs vs.toArray})(more:∀p:E? i_,p.size=vs.length->Good p->Q (.ref (s.heap.objs.size+1)) {s with heap:=aen s.heap vs (acZ (p.toList.map λi=>vs.getD i ė))}):
  l_ (n_ prog w) A (ħ (.builtin "sorted") [.ref l]) Q E s:=by
 have big:(64:i_)<=k_:=by decide
 have sz:((s.heap.push (è "list" #[] 0)).update s.heap.objs.size (X' (·++vs.toArray))).objs.size=s.heap.objs.size+1:=(k?.size_update ..).trans (size_push' ..);have kR:(((s.heap.push (è "list" #[] 0)).update s.heap.objs.size (X' (·++vs.toArray))).push (è "list" vs.toArray 0)).get? (s.heap.objs.size+1)=some (è "list" vs.toArray 0):=sz ▸ v? _ a_;have old:∀b o,s.heap.get? b=some o->(((s.heap.push (è "list" #[] 0)).update s.heap.objs.size (X' (·++vs.toArray))).push (è "list" vs.toArray 0)).get? b=some o:=λb o e=>f_ _ ((Ŋ _ _ _ _ (N? (r? e))).trans (f_ _ e));have body:=W2 (prog:=prog) (w:=w) (A:=A.in1.in1) (E:=E) (a:=s.heap.objs.size+1) (Good:=Good) (R:=λf s'=>f= .done (.ret .none)/\Q (.ref (s.heap.objs.size+1)) s') (s:={s with heap:=((s.heap.push (è "list" #[] 0)).update s.heap.objs.size (X' (·++vs.toArray))).push (è "list" vs.toArray 0)}) kR As (λh2 s' k=>ask h2 s' λb o e=>k b o (N? (aaL (r? e))) (old b o e)) (λh=>⟨a_,one h⟩) (λp hp g=>⟨a_,more p hp g⟩);refine ļ adf acJ acK (acL _) ?_;show l_ (n_ prog w) A.in1 (do ŵ "sorted" 1 1 _;_) _ _ s;refine d_ (m:=ŵ "sorted" 1 1 _) (j_ (d_ (collect_list hl (d_ (aaA ?_ (by lia))) (by lia))));show l_ (n_ prog w) A.in1 _ _ E {s with heap:=((s.heap.push (è "list" #[] 0)).update s.heap.objs.size (X' (·++vs.toArray))).push (è "list" vs.toArray 0)};rw[sz];exact d_ (M? (Æ ab2 ⟨_,kR,a_⟩ aby (G_ body (λf s' z=>⟨_,z.1,j_ ⟨_,a_,z.2⟩⟩) λ_ _ z=>z) (ab3 _)))
end
theorem Av:∀{a b:b? f?},HT.lexLt a b=true->HT.lexLt b a=false
 |[],[],h=>by cases h
 |[],_::_,_=>a_
 |_::_,[],h=>by cases h
 |x::a,y::b,h=>by
  rw[HT.oX]at h⊢;by_cases e:x=y
  .rw[m_ e]at h;rw[m_ e.symm];exact Av h
  .rw[j? e]at h;rw[j? (λz=>e z.symm)];have:=n? h;exact z? (by lia)
theorem Nk:∀{a b:b? f?},a≠b->HT.lexLt a b=false->HT.lexLt b a=true
 |[],[],h,_=>w_ a_ h
 |[],_::_,_,h=>by cases h
 |_::_,[],_,_=>a_
 |x::a,y::b,h,h'=>by
  rw[HT.oX]at h'⊢;by_cases e:x=y
  .subst e;rw[m_ a_]at h'⊢;exact Nk (λz=>h (by rw[z])) h'
  .rw[j? e]at h';rw[j? (λz=>e z.symm)];have:=of_decide_eq_false h';exact i? (by lia)
theorem Nl:∀{a b c:b? f?},HT.lexLt a b=true->HT.lexLt b c=true->HT.lexLt a c=true
 |[],[],_,h,_=>by cases h
 |[],_::_,[],_,h=>by cases h
 |[],_::_,_::_,_,_=>a_
 |_::_,[],_,h,_=>by cases h
 |_::_,_::_,[],_,h=>by cases h
 | x::a,y::b,z::c,h,h'=>by
  rw[HT.oX]at h h'⊢;by_cases e:x=y
  .subst e;rw[m_ a_]at h;by_cases e2:x=z
   .rw[m_ e2]at h'⊢;exact Nl h h'
   .rw[j? e2]at h'⊢;exact h'
  .rw[j? e]at h;have h1:=n? h;by_cases e2:y=z
   .subst e2;rw[j? e];exact h
   .rw[j? e2]at h';have h2:=n? h';rw[j? (by lia)];exact i? (by lia)
theorem wp_ask {f:i_->i_->o?}{n:i_}{s:d?}{cmp:i_->i_->(o?->d?->Prop)->d?->Prop}{α:Type}{R:α->Prop}(hc:∀i j C,i<n->j<n->C (f i j) s->cmp i j C s):∀{t:KasT α},bR.Wp f n t R->t.kasWp cmp (λp s2=>s2=s/\R p) s
 | .ret _,h=>⟨a_,h⟩
 | .ask i j _,⟨a,b,_,h⟩=>hc i j _ a b (wp_ask hc h)
theorem range_getD {α:Type}(d:α)(l:b? α):(V_ l.length).map (λi=>l.getD i d)=l:=by
 apply ad6
 .simp
 .intro i h1 h2;simp[h2]
section
variable {X:Cx}{pins:b? (c_×L?)}{U:St}{H:Hp}{s:d?}
theorem sf {α β:Type}{F:α->β->Prop}{d:α}{e:β}:∀{xs:b? α}{ys:b? β}{i:i_},h_ F xs ys->i<xs.length->F (xs.getD i d) (ys.getD i e)
 |_,_,_,.nil,h=>w_ h (ad2 _)
 |_,_,0,.cons h _,_=>h
 |_,_,i+1,.cons _ r,h=>sf (i:=i) r (by simpa using h)
theorem Et {α β:Type}{F:α->β->Prop}{d:α}{e:β}{xs:b? α}{ys:b? β}(h:h_ F xs ys):∀{l:b? i_},(∀i∈l,i<xs.length)->h_ F (l.map λi=>xs.getD i d) (l.map λi=>ys.getD i e)
 |[],_=>.nil
 |i::l,q=>.cons (sf h (q i (by simp))) (Et h λj hj=>q j (by simp[hj]))
noncomputable def i7 (K:e?)(H:Hp)(vs:b? V)(ts:b? (b? f?)):Prop:=h_ (λv t=>∃a,v= .ref a/\az K H a (t.map V.int)) vs ts
theorem W5:∀{h:k?}{its:b? b_}{ts:b? (b? f?)},h_ (λu t=>∃a xs,u=t_ a/\adh h a xs/\Y? xs.toList t) its ts->(∀t∈ts,t≠[])->∃fs,KatTups h its fs/\fs.length=its.length/\∀v∈fs,∃i k,v=ą i k:=λ{h its ts} q ne=>by
 induction q with
 |nil=>exact⟨[],KatTups.nil,a_,λ_ z=>by cases z⟩
 | @cons _ t _ ts a r ih=>
  obtain⟨a,xs,e,⟨o,ho,hc,n,hd⟩,hi⟩:=a;subst e;obtain⟨fs,k,l,q⟩:=ih λz hz=>ne z (by simp[hz]);obtain⟨x,hx⟩:∃x r,xs.toList=x::r:=by
   cases vA:xs.toList with
   |nil=>rw[vA]at hi;cases hi;exact w_ a_ (ne [] (by simp))
   |cons x r=>exact(xa0 x r a_)
  obtain⟨rr,hx⟩:=hx;have h0:xs[0]?=some x:=by rw[<-đ,hx];rfl
  rw[hx]at hi;refine⟨x::fs,KatTups.cons ho hc hd h0 k,by simp[l],λv hv=>?_⟩;rcases D?.mp hv with rfl|hv
  .cases hi with|cons i k _=>exact(xa0 i k a_)
  .exact q v hv
theorem Nm {α β γ:Type}{F:α->β->Prop}{G:α->γ->Prop}{L:β->γ->Prop}(h:∀v u t,F v u->G v t->L u t):∀{vs:b? α}{us:b? β}{ts:b? γ},h_ F vs us->h_ G vs ts->h_ L us ts:=λ{vs us ts} p q=>by
 induction p generalizing ts with
 |nil=>cases q;exact .nil
 |cons a r ih=>
  cases q with
  |cons b s=>exact .cons (h _ _ _ a b) (ih s)
theorem W6 {ts:b? (b? f?)}(nd:ts.Nodup):bR.i6 (λi j=>HT.lexLt (ts.getD i []) (ts.getD j [])) ts.length where
 bB:=λi j hi hj ne h=>Nk (λe=>ne (by rw[J',J',u? hi,u? hj]at e;exact(abt nd).mp e)) h
 WW:=λ_ _ _ _ h=>Av h
 tr:=λ_ _ _ _ _ _ h1 h2=>Nl h1 h2
theorem Eu:∀{vs:b? b_}{ns:b? f?},Y? vs ns->vs.length=ns.length
 |_,_,.nil=>a_
 |_,_,.cons _ _ r=>by rw[C?,C?,Eu r]
theorem W7 {τ:Type}(d:τ){lt:τ->τ->o?}{G:Hp->V->τ->Prop}{L:k?->b_->τ->Prop}(ok:b? τ->Prop)(T:b_)(raw:∀{pins s U H},Inv X pins U H s->∀v u t,RelV v u->G H v t->L s.heap u t)(up:∀{h h':k?},(∀b o,h.get? b=some o->h'.get? b=some o)->∀u t,L h u t->L h' u t)(bB:∀{ts:b? τ},ts.Nodup->bR.i6 (λi j=>lt (ts.getD i d) (ts.getD j d)) ts.length)(hT:(T==T)=true)(fst:∀{h its ts},h_ (L h) its ts->ok ts->∃fs,KatTups h its fs/\fs.length=its.length/\∀v∈fs,V? (n_ X.prog X.w) h (ady v) T)(ask:∀{s:d?}{u v t t'}{C:o?->d?->Prop}{E},L s.heap u t->L s.heap v t'->C (lt t t') s->l_ (n_ X.prog X.w) X.A.in1.in1 (keyLt' (tuples' (T != Ĩ "tuple")) u v) C E s):
  ef X (.builtin "sorted") (λxs H Q=>∃(p:c_)(vs:b? V)(ts:b? τ),xs=[.ref p]/\af X.K H p vs/\h_ (G H) vs ts/\vs.length<64/\ts.Nodup/\ok ts/\∀(q:c_)(aZ:b? V)(bo:b? τ)(ix:b? i_),H q=none->ix.Perm (V_ vs.length)->aZ=ix.map (λi=>vs.getD i .aj)->bo=ix.map (λi=>ts.getD i d)->aZ.Perm vs->bo.Perm ts->h_ (G H) aZ bo->bo.Pairwise (λa b=>lt a b=true)->Q (.ref q) (upd H q (.lst aZ))):=by
 intro pins s U H xs us Q I r h;obtain⟨p,vs,ts,rfl,hq,ht,As,nd,ne,q⟩:=h;obtain⟨u,rfl,rx⟩:=vals1 r;cases rx;obtain⟨its,r',pl,hz⟩:=I.list hq;have l1:vs.length=its.length:=r'.length;have l2:vs.length=ts.length:=q? ht;have hn:H (s.heap.objs.size+1)=none:=I.ag.fresh (Ÿ _);have end_:∀(out:b? b_)(ix:b? i_),ix.Perm (V_ vs.length)->Vals (ix.map λi=>vs.getD i .aj) out->h_ (G H) (ix.map λi=>vs.getD i .aj) (ix.map λi=>ts.getD i d)->(ix.map λi=>ts.getD i d).Pairwise (λa b=>lt a b=true)->EP X pins U Q (.ref (s.heap.objs.size+1)) {s with heap:=aen s.heap its out.toArray}:=λout ix b1 a1 a4 a5=>by
  have a2:=b1.map λi=>vs.getD i .aj;have a3:=b1.map λi=>ts.getD i d;rw[range_getD]at a2;rw[l2,range_getD]at a3;obtain⟨e,he⟩:=sortedAll_at s.heap its out.toArray;refine(xa0 (.ref (s.heap.objs.size+1)) _ ⟨I.laid (a:=s.heap.objs.size+1) (o:=.lst _) (t':=s.toks) (λb o z=>sortedAll_old z) (Ÿ _) ⟨?_,xa0 out e ⟨a1,he⟩⟩,a_,q _ _ _ ix hn b1 a_ a_ a2 a3 a4 a5⟩);rw[a2.length_eq];exact hz
 have tt:h_ (L s.heap) its ts:=Nm (raw I) r' ht;refine W4 pl.isList (by lia) (Good:=λp=>bR.P its.length p/\bR.Up (λi j=>lt (ts.getD i d) (ts.getD j d)) p its.length) (λh2 s' k=>?_) (λh=>?_) (λp hp g=>?_)
 .have Ew:h_ (L s'.heap) its ts:=Paired.gy tt (up k);obtain⟨fs,kt,lf,hf⟩:=fst Ew ne;refine kat_kind (T:=T) kt (by lia) hf hT ⟨a_,?_⟩;have hs:=bR.sort (bB nd) (by lia);rw[<-l2,l1]at hs;refine wp_ask (λi j C hi hj c=>?_) hs;unfold kas_ask;exact ask (sf (d:=ė) (e:=d) Ew hi) (sf (d:=ė) (e:=d) Ew hj) c
 .have e1:(V_ vs.length).map (λi=>vs.getD i .aj)=vs:=range_getD ..;have e2:(V_ vs.length).map (λi=>ts.getD i d)=ts:=by rw[l2];exact range_getD ..
  refine end_ its (V_ vs.length) (adk _) (by rw[e1];exact r') (by rw[e1,e2];exact ht) ?_;rw[e2]
  match ts,l2 with
  |[],_=>exact .nil
  |[_],_=>exact ĕ _ _
  |_::_::_,e=>exact w_ e (by simp;lia)
 .obtain⟨g1,g2⟩:=g;have hm:∀i∈p.toList,i<vs.length:=λi hi=>by
   rw[l1];exact Z?.mp (g1.mem_iff.mp hi)
  refine end_ _ p.toList (by rw[l1];exact g1) (Et r' hm) (Et ht hm) ?_;rw[aaX,ĵ];intro i j hi hj ij;have W8:j<its.length:=by rw[Ï,hp]at hj;exact hj
  have:=g2 i j ij W8;rw[bR.getD_eq (by rw[hp];lia),bR.getD_eq (by rw[hp];lia)]at this;simpa using this
theorem vB:ef X (.builtin "sorted") (λxs H Q=>∃(p:c_)(vs:b? V)(ts:b? (b? f?)),xs=[.ref p]/\af X.K H p vs/\i7 X.K H vs ts/\vs.length<64/\ts.Nodup/\(∀t∈ts,t≠[])/\∀(q:c_)(aZ:b? V)(bo:b? (b? f?))(ix:b? i_),H q=none->ix.Perm (V_ vs.length)->aZ=ix.map (λi=>vs.getD i .aj)->bo=ix.map (λi=>ts.getD i [])->aZ.Perm vs->bo.Perm ts->i7 X.K H aZ bo->bo.Pairwise (λa b=>HT.lexLt a b=true)->Q (.ref q) (upd H q (.lst aZ))):=
 W7 (L:=λh u t=>∃a xs,u=t_ a/\adh h a xs/\Y? xs.toList t) [] (λts=>∀t∈ts,t≠[]) (.type "int") (λI v u t hv hu=>by
  obtain⟨a,rfl,ha⟩:=hu;cases hv;obtain⟨ys,ry,hy,_⟩:=I.tuple ha;exact(xa0 a ys.toArray ⟨a_,hy,intsAre_of ry⟩)) (λk u t ⟨a,xs,e,⟨o,ho,hr⟩,hi⟩=>(xa0 a xs ⟨e,⟨o,k a o ho,hr⟩,hi⟩)) W6 a_ (λh ne=>by
  obtain⟨fs,kt,lf,hf⟩:=W5 h ne;refine⟨fs,kt,lf,λv hv=>?_⟩;obtain⟨i,t,rfl⟩:=hf v hv;exact .now) λ⟨a,xs,ea,⟨o,ho,hc,n,hd⟩,ia⟩ ⟨b,ys,eb,⟨o',aV,kA,n',bu⟩,ib⟩ c=>by
  rw[ea,eb];have q:=Nj (prog:=X.prog) (w:=X.w) (A:=X.A.in1.in1) 0 ia ib c;rw[<-Eu ia,<-Eu ib]at q;refine kat_lt ho hd aV bu ?_;rw[show(Ĩ "int" != Ĩ "tuple")=true from a_];simpa using q
theorem W9:ef X (.builtin "sorted") (λxs H Q=>∃(p:c_)(vs:b? V)(ts:b? (b? f?)),xs=[.ref p]/\af X.K H p vs/\i7 X.K H vs ts/\vs.length<64/\ts.Nodup/\(∀t∈ts,t≠[])/\∀(q:c_)(aZ:b? V)(bo:b? (b? f?)),H q=none->aZ.Perm vs->bo.Perm ts->i7 X.K H aZ bo->bo.Pairwise (λa b=>HT.lexLt a b=true)->Q (.ref q) (upd H q (.lst aZ))):=by
 intro pins s U H xs us Q I r h;obtain⟨p,vs,ts,e,h1,h2,h3,h4,h5,q⟩:=h;exact vB pins s U H xs us Q I r (xa1 p vs ts ⟨e,h1,h2,h3,h4,h5,λq' aZ bo ix a _ _ _ b c d f=>q q' aZ bo a b c d f⟩)
end
end L2
namespace L2
open PySem PySem.Spec PyProof.Rows
noncomputable def kS (K:e?)(H:Hp)(x:V)(ns:b? f?):Prop:=∃a,x= .ref a/\az K H a (ns.map V.int)
noncomputable def hJ (K:e?)(H:Hp)(n:b? f?)(u:b_):o?:=@s? (∃a,u= .ref a/\az K H a (n.map V.int)) (ľ _)
theorem Xa {ns ms:b? f?}(h:ns.map V.int=ms.map V.int):ns=ms:=by
 induction ns generalizing ms with
 |nil=>cases ms with
  |nil=>rfl
  |cons _ _=>cases h
 |cons n ns ih=>cases ms with
  |nil=>cases h
  |cons m ms=>rw[A_,A_]at h;injection h with h1 h2;injection h1 with h1;rw[h1,ih h2]
section
variable {X:Cx}{pins:b? (c_×L?)}{U:St}{H:Hp}{s:d?}
theorem Ex (I:Inv X pins U H s){x:V}{u:b_}{ns n:b? f?}(h:kS X.K H x ns)(r:RelV x u):hJ X.K H n u=s? (ns=n):=by
 obtain⟨a,rfl,ha⟩:=h;cases r;unfold hJ;by_cases e:ns=n
 .subst e;rw[i? a_];exact@i? _ (ľ _) ⟨a,a_,ha⟩
 .rw[z? e];refine@z? _ (ľ _) λzQ=>?_;obtain⟨b,z,hb⟩:=zQ;cases z;exact e (Xa (I.Dg ha hb))
theorem Ey (I:Inv X pins U H s){A:C_}(hu:A.units+60<Â){x:V}{v:b_}{n:b? f?}(hx:kS X.K H x n)(rx:RelV x v):∀{xs:b? V}{us:b? b_}{bV:b? (b? f?)},Vals xs us->h_ (kS X.K H) xs bV->∀u∈us,m? A s u v (hJ X.K H n u):=λ{xs us bV} p q=>by
 induction p generalizing bV with
 |nil=>exact λu hu=>by cases hu
 | @cons y w xs us r t ih=>
  cases q with
  |@cons _ m _ bV h hs=>
   intro u hm;rcases D?.mp hm with rfl|hm
   .rw[Ex I h r];obtain⟨a,rfl,ha⟩:=h;obtain⟨b,rfl,hb⟩:=hx;have q:=uO I 60 (.tup (m.map Dt.int)) (.tup (n.map Dt.int)) (.ref a) (.ref b) u v A (V6 _) hu (M4 ha) (M4 hb) r rx;rw[V5]at q;exact q
   .exact ih hs u hm
theorem Nn (I:Inv X pins U H s){n:b? f?}:∀{xs:b? V}{us:b? b_}{bV:b? (b? f?)},Vals xs us->h_ (kS X.K H) xs bV->us.any (hJ X.K H n)=s? (n∈bV):=λ{xs us bV} p q=>by
 induction p generalizing bV with
 |nil=>cases q;simp
 | @cons y w xs us r t ih=>
  cases q with
  |@cons _ m _ bV h hs=>
   rw[ű,Ex I h r,ih hs];by_cases e:m=n
   .subst e;simp
   .have e':¬n=m:=λz=>e z.symm;simp[e,e']
noncomputable def Np (K:e?)(neg:o?):R2:=λx y H Q=>∃p xs n bV,y= .ref p/\af K H p xs/\kS K H x n/\h_ (kS K H) xs bV/\Q (.bl (if neg then !s? (n∈bV)else s? (n∈bV))) H
end
section
variable {X:Cx}
theorem Xb (hu:X.A.units+64<Â):bz X (Q_ .In) (Np X.K false):=by
 intro pins s U H x y v u Q I rx ry h;obtain⟨p,xs,n,bV,rfl,hq,hx,hs,q⟩:=h;cases ry;obtain⟨its,r,pl,hz⟩:=I.list hq;refine acT (hJ X.K H n) pl.isList (λw hw=>Ey I ?_ hx rx r hs w (by simpa using hw)) (xa0 (.bl _) H ⟨I,a_,?_⟩)
 .first|(have e:X.A.in1.units=X.A.units+1:=a_;lia)|(have e:X.A.in1.units=X.A.units:=rfl;lia)|(have e:=Around.units_in1 X.A;lia)
 .rw[show its.toArray.any (hJ X.K H n)=its.any (hJ X.K H n)by simp,Nn I r hs];exact q
theorem Xc (hu:X.A.units+64<Â):bz X (Q_ .NotIn) (Np X.K true):=by
 intro pins s U H x y v u Q I rx ry h;obtain⟨p,xs,n,bV,rfl,hq,hx,hs,q⟩:=h;cases ry;obtain⟨its,r,pl,hz⟩:=I.list hq;refine ack (hJ X.K H n) pl.isList (λw hw=>Ey I ?_ hx rx r hs w (by simpa using hw)) (xa0 (.bl _) H ⟨I,a_,?_⟩)
 .first|(have e:X.A.in1.units=X.A.units+1:=a_;lia)|(have e:X.A.in1.units=X.A.units:=rfl;lia)|(have e:=Around.units_in1 X.A;lia)
 .rw[show its.toArray.any (hJ X.K H n)=its.any (hJ X.K H n)by simp,Nn I r hs];exact q
end
section
variable {X:Cx}{scope:Ã}{N':b? y?}{ix:b? (g? i_)}{C:c_}{fp:b? c_}{aa:d?}{ae:Hp}{pins:b? (c_×L?)}{U:St}
theorem Xd (I:Inv X pins U ae aa)(hf:∀b∈fp,dM X pins ae b){ps:b? (c_×L?)}{U':St}{H':Hp}{s':d?}(I':Inv (bM X scope N' C fp aa ae) ps U' H' s'):Inv X pins U H' s':=I.De (ch:=fp) I'.os I'.base I'.ag I'.bare λb hb=>by obtain⟨_,f1,_,f3,f4,f5⟩:=hf b hb;exact⟨f3,f1,f4,f5⟩
end
section
variable {X:Cx}{pins:b? (c_×L?)}{U:St}{H:Hp}{s:d?}{a:c_}{y v:V}{u r:b_}{A:C_}{E:b_->d?->Prop}
theorem Xe {H':Hp}{Q:acB->d?->Prop}(hu:A.units<Â)(I:Inv X pins U H s)(g:ft H a y v H')(ry:RelV y u)(rv:RelV v r)(h:∀s',Inv X pins U H' s'->Q () s'):l_ (n_ X.prog X.w) A (dictSet a u r) Q E s:=by
 rcases g with⟨kvs,k,e,ey,l,eH⟩|⟨kvs,k,b,e,ey,eb,l,eH⟩
 .subst ey eH;obtain⟨z,hd,vs,rel,dd⟩:=MC I.ag e;have hz:vs.length<=k_:=by rw[<-rel.length];exact z
  have hl:(putK kvs k v).length<=k_:=by have:=uD kvs k v;lia
  refine wpAny_dictSet_pairs (hsz:=hz) (nj ry) dd λh' iY hs=>h _ ?_;have he:∃q,h'.get? a=some q:=let⟨q,_,_,hq,_⟩:=iY;⟨q,hq⟩;exact uH I (by rw[e];exact xv) hs he (MD hl hd (rel.put k rv) iY)
 .subst ey eH;cases(show u=t_ b from ry);obtain⟨z,hd,xs,rel,dd⟩:=DY I.ag e;have hz:xs.length<=k_:=by rw[<-q? rel];exact z
  have hl:(putK kvs k v).length<=k_:=by have:=uD kvs k v;lia
  refine wpAny_dictSet_heap (hsz:=hz) (knd:=Į (qy X.prog X.w)) hu (lX I.ag eb) dd λh' iY hs=>h _ ?_;obtain⟨q,es,ep,hq,h2,h3,h4,_,h5⟩:=iY;refine uH I (by rw[e];exact xv) hs ⟨q,hq⟩ ⟨hl,hd,_,(rel.put k eb rv).keeps λc ys ec=>?_,xa1 q es ep ⟨hq,h2,h3,h4,h5⟩⟩;rw[jd (cT ec e (λz=>nomatch z))];exact ec
end
section
variable {prog:D'}{w:I?}{A:C_}{R:š->d?->Prop}{s:d?}
theorem Xf {kx vx target iter:G?}{ifs:b? G?}{scope:Ã}{pos:ğ}{it:b_}{D:c_}{env:Ţ}(I:i_->d?->Prop)(turn:∀n s,I n s->l_ (n_ prog w) A (ĺ it) (λr ai=>match r with
   |none=>R (.ok .next) ai
   |some v=>l_ (n_ prog w) A (Ļ target it v) (λ_ ai=>l_ (n_ prog w) A (aaj target env v) (λ_ aa=>l_ (n_ prog w) A (forIn ifs true λc r=>if r=true then do let ok<-abP c env (U? c env);ó (Ĝ ok)else ó (Ĝ r)) (λok aJ=>if ok=true then l_ (n_ prog w) A (U? kx env) (λkv cL=>l_ (n_ prog w) A (U? vx env) (λvv i4=>l_ (n_ prog w) A (dictSet D kv vv) (λ_ vC=>∃m,m<n/\I m vC) eB i4) eB cL) eB aJ
      else ∃m,m<n/\I m aJ) eB aa) eB ai) eB ai) eB s)(n:i_)(h:I n s):Ú (n_ prog w) A (.compLoop (.DictComp kx vx [⟨target,iter,ifs,0⟩] scope pos) 0 it (.ref D) env) R s:=by
 refine aaR a_ I (λn s hI=>?_) n h;have no:∀{α:Type}{t:Ī α}{Q:α->d?->Prop}{E:b_->d?->Prop}{s:d?},l_ (n_ prog w) A t Q eB s->l_ (n_ prog w) A t Q E s:=λh=>G_ h (λ_ _ q=>q) λ_ _ z=>z.elim;show l_ _ A ((compTurn (.DictComp kx vx [⟨target,iter,ifs,0⟩] scope pos) 0 it (.ref D) env).onRaise (λx=>do acr x env;aev x)) _ _ s;rw[compTurn_dict];refine wpAny_noted (d_ (á (d_ (no (ah (turn n s hI) λr ai h₁=>?_)))));cases r with
 |none=>exact j_ h₁
 |some v=>
  refine d_ (no (ah h₁ λ_ ai h₁=>d_ (no (ah h₁ λ_ aa bX=>d_ (no (ah bX λok aJ fN=>?_))))));cases ok with
  |false=>exact j_ ⟨a_,fN⟩
  |true=>refine d_ (d_ (no (ah fN λkv cL cM=>d_ (M? (no (ah cM λvv i4 bb=>?_))))));exact d_ (á (M? (no (ah bb λ_ vC cP=>j_ ⟨a_,cP⟩))))
end
section
variable {X:Cx}{scope:Ã}{N':b? y?}{ix:b? (g? i_)}{C:c_}{fp:b? c_}{aa:d?}{ae:Hp}{pins:b? (c_×L?)}{U:St}
theorem Xg (I:Inv X pins U ae aa)(co:i3 X.N X.env.scope scope N' ix){h₁:k?}{t':i_}(hC:@Eq i_ C aa.heap.objs.size)(hf:∀b∈fp,dM X pins ae b)(aw:∀b∈fp,b<aa.heap.objs.size)(old:∀b o,aa.heap.get? b=some o->h₁.get? b=some o){m:y?->g? b_}(rM:h₁.Ns C m):
  Inv (bM X scope N' C fp aa ae) [] (gZ ix U) ae {aa with heap:=h₁,toks:=t'} where
 ok:=VI I co (by lia) hf aw
 os:=a_
 bare:=I.bare
 base:=Un.kept old
 loc :=by
  refine⟨m,rM,λi x v e1 e2 e3=>?_⟩;unfold gZ at e2;rw[y_]at e2;cases q:ix[i]? with
  |none=>rw[q]at e2;cases e2
  | some o=>
   rw[q]at e2;cases o with
   |none=>cases e2
   | some k=>
    have gG:(U[k]?).join=some v:=s_ e2;have pB:U[k]?=some (some v):=by
     cases z:U[k]? with
     |none=>rw[z]at gG;cases gG
     |some o=>rw[z]at gG;exact X? some gG
    obtain⟨o1,o2,o3⟩:=co.out i x k e1 q;have hk:X.env.kindOf x=some .cell\/X.env.kindOf x=some .free:=co.frees _ o2 a_;obtain⟨m0,_,hl⟩:=I.loc;obtain⟨u,r,l⟩:=hl k x v o1 pB (.inr hk);refine⟨u,r,?_⟩;rcases l with⟨l,_⟩|⟨_,c,ec,dz⟩
    .rcases hk with z|z
     .rw[z]at l;cases l
     .rw[z]at l;cases l
    .refine .inr ⟨?_,c,D4 o2 ec,?_⟩
     .rcases e3 with z|z|z
      .obtain⟨k',hm,q⟩:=gq z;rcases q with q|⟨_,q⟩
       .have:=o3 _ hm a_;rw[show k'=F0.local from q]at this;cases this
       .cases q
      .exact .inl z
      .exact .inr z
     .obtain⟨o,ho,hd⟩:=dz;exact⟨o,old _ _ ho,hd⟩
 cell:=λx c e=>by obtain⟨v,o,ho,hd⟩:=I.cell x c (iZ e);exact(xa0 v o ⟨old _ _ ho,hd⟩)
 free:=I.ag.fresh (by show@ž i_ _ aa.heap.objs.size C;lia)
 dH:=λx c e=>I.dH x c (iZ e)
 pin:=λp hp=>by
  have lZ:p∈([]:b? (c_×L?)):=by simpa[bM]using hp
  cases lZ
 ag:=I.ag.kept old
 len:=by unfold gZ;rw[g_];exact co.len
end
noncomputable def vD (J:It)(g:TG)(ti:TT)(tk tv:TE)(D:c_)(QF:Hp->Prop)(W:i_->i_->St->Hp->Prop):Prop:=∀i m U H,W i m U H->(J.stop i H/\QF H)\/(J.go i H/\∃N:St->Hp->Prop,(∀U' H',N U' H'->∃m',m'<m/\W (i+1) m' U' H')/\∀x H',J.dJ i H x H'->g x U H' λ U2 H2=>ti U2 H2 λb H3=>if b=true then tk U2 H3 λy H4=>tv U2 H4 λz H5=>∃H6,ft H5 D y z H6/\N U2 H6 else N U2 H3)
noncomputable def Xh (new:HO)(ix:b? (g? i_))(wi:TI)(g:TG)(ti:TT)(tk tv:TE):TE:=λ U H Q=>wi U H λJ H1=>∀D,H1 D=none->∃W:i_->i_->St->Hp->Prop,(∃m,W 0 m (gZ ix U) (upd H1 D new))/\vD J g ti tk tv D (λH=>Q (.ref D) H) W
section
variable {X:Cx}
theorem Xi {scope:Ã}{N':b? y?}{ix:b? (g? i_)}{pins:b? (c_×L?)}{U:St}{tg iter kx vx:G?}{ifs:b? G?}{pos:ğ}{g:TG}{ti:TT}{tk tv:TE}{E:b_->d?->Prop}{D:c_}(co:i3 X.N X.env.scope scope N' ix)(hc:X.calm=true)(hu:X.A.units<Â)(hg:∀C fp aa ae,PG (bM X scope N' C fp aa ae) tg g)(hi:∀C fp aa ae,nJ (bM X scope N' C fp aa ae) ifs ti)(hk:∀C fp aa ae,PE (bM X scope N' C fp aa ae) kx tk)(hv:∀C fp aa ae,PE (bM X scope N' C fp aa ae) vx tv){ae:Hp}{aa:d?}{J:It}{fp:b? c_}{it:c_}{tn:i_->k?->Prop}{QF:Hp->Prop}{W:i_->i_->St->Hp->Prop}(I:Inv X pins U ae aa)(T:Turn X.prog X.w X.K tg J fp it tn)(st:tn 0 aa.heap)(hf:∀b∈fp,dM X pins ae b)(w0:∃m,W 0 m (gZ ix U) ae)(hW:vD J g ti tk tv D QF W){RR:c_->š->d?->Prop}(uK:∀C H' s',Inv X pins U H' s'->QF H'->nK X pins H' s' C->RR C (.ok .next) s'):
  l_ (n_ X.prog X.w) X.A (Ň scope X.env.globals (cA scope X.env) [] X.env.qual none .none (some X.env)) (λeQ cL=>Ú (n_ X.prog X.w) X.A (.compStart (.DictComp kx vx [⟨tg,iter,ifs,0⟩] scope pos) 0 (.ref it) (.ref D) {eQ with scope:=adT scope X.env}) (RR eQ.locals) cL) E aa:=by
 have aw:∀b∈fp,@ś i_ _ b aa.heap.objs.size:=λb hb=>by obtain⟨o,e,_⟩:=T.obj _ _ st b hb;exact r? e
 refine wpAny_newFunctionEnv co.ML (by intro y hy;simp at hy) (λh₁ bI i8=>?_) co.kind;have below:∀b:i_,b<aa.heap.objs.size->¬@Eq i_ b aa.heap.objs.size:=λb hb=>by lia
 have old:∀b o,aa.heap.get? b=some o->h₁.get? b=some o:=λb o e=>i8.extBut b o (below b (r? e)) (f_ _ e);have eR:tn 0 h₁:=T.keep _ _ _ st λb _ o e=>old b o e;generalize D7:aa.heap.objs.size=C at bI i8 below⊢;have loop:∀aJ:d?,aJ={aa with heap:=h₁,toks:=aa.toks+([]:b? (y?×b_)).length}->Ú (n_ X.prog X.w) X.A (.compLoop (.DictComp kx vx [⟨tg,iter,ifs,0⟩] scope pos) 0 (.ref it) (.ref D) (ac9 scope (cA scope X.env) C X.env)) (RR C) aJ:=by
  rintro aJ rfl
  obtain⟨m0,w0⟩:=w0;have I3:Inv (bM X scope N' C fp aa ae) [] (gZ ix U) ae {aa with heap:=h₁,toks:=aa.toks+([]:b? (y?×b_)).length}:=Xg I co D7.symm hf aw old bI;refine Xf (λk s'=>∃i U' H',Inv (bM X scope N' C fp aa ae) [] U' H' s'/\tn i s'.heap/\(∀b∈fp,H' b=none)/\W i k U' H') ?_ m0 (xa1 0 _ _ ⟨I3,eR,λb hb=>(hf b hb).1,w0⟩)
  rintro k s' ⟨i,U',H',I',bL,pD,w'⟩
  have fO:∀{H':Hp},(∀b∈fp,H' b=none)->∀b∈fp,dM (bM X scope N' C fp aa ae) [] H' b:=λ{H'} hn b hb=>by
   refine⟨hn b hb,below b (D7 ▸ aw b hb),λz=>?_,.inl hb,λx c e=>(hf b hb).2.2.2.2.1 x c (iZ e),λp hp=>?_⟩
   .rcases D?.mp (I.oP b z)with e|e
    .exact(hf b hb).2.1 e
    .exact(hf b hb).2.2.1 e
   .have lZ:p∈([]:b? (c_×L?)):=by simpa[bM]using hp
    cases lZ
  rcases hW i k U' H' w' with⟨stop,q⟩|⟨go,N,hN,step⟩
  .refine ah (T.done (bM X scope N' C fp aa ae) a_ a_ a_ hc i _ s' U' H' eB I' (fO pD) bL stop) λr s4 ⟨hr,I4⟩=>?_;subst hr;have cf:H' C=none:=I4.free;refine uK C H' s4 (Xd I hf I4) q ⟨?_,cf,?_,?_,λx c e=>?_,λp hp=>?_⟩
   .obtain⟨m,hn,_⟩:=I4.loc;exact⟨m,hn⟩
   .have z:@ś i_ _ X.env.locals aa.heap.objs.size:=I.lt;show¬@Eq i_ C X.env.locals;lia
   .have z:@ž i_ _ X.ar.heap.objs.size aa.heap.objs.size:=I.sz;show@ž i_ _ X.ar.heap.objs.size C;lia
   .obtain⟨v,z⟩:=I.cell x c e;have z2:@ś i_ _ c aa.heap.objs.size:=z.lt;show¬@Eq i_ c C;lia
   .have z2:@ś i_ _ p.1 aa.heap.objs.size:=r? (I.pin p hp).1;show¬@Eq i_ p.1 C;lia
  .refine ah (T.item (bM X scope N' C fp aa ae) a_ a_ a_ hc i _ s' U' H' eB I' (fO pD) bL go) λr s4 zQ=>?_;obtain⟨u,hr,h4⟩:=zQ;subst hr;refine ah h4 λ_ s5 zQ=>?_;obtain⟨x,H5,I5,r5,y5,gT,tJ⟩:=zQ;have tK:=I5.pinned (fO tJ) (T.obj _ _ gT);refine ah (hg C fp aa ae _ s5 U' H5 x u _ tK r5 (step x H5 y5)) λ_ s6 zQ=>?_;obtain⟨U6,H6,I6,q6⟩:=zQ;refine ah (hi C fp aa ae _ s6 U6 H6 _ I6 q6) λok s7 zQ=>?_;obtain⟨H7,I7,q7⟩:=zQ;have back:∀{U8:St}{H8:Hp}{s8:d?},Inv (bM X scope N' C fp aa ae) ([]++lP fp s5.heap) U8 H8 s8->N U8 H8->∃m',m'<k/\∃i U' H',Inv (bM X scope N' C fp aa ae) [] U' H' s8/\tn i s8.heap/\(∀b∈fp,H' b=none)/\W i m' U' H':=λ{U8 H8 s8} I8 n8=>by
    obtain⟨m',hm,w8⟩:=hN _ _ n8;have fP:∀b∈fp,∀o,s5.heap.get? b=some o->s8.heap.get? b=some o/\H8 b=none:=λb hb o e=>by have z:=I8.pin (b,o) (z_ _ (z_ _ (zR hb e)));exact⟨z.1,z.2.1⟩
    refine⟨m',hm,xa1 (i+1) U8 H8 ⟨I8.tI,T.keep _ _ _ gT λb hb o e=>(fP b hb o e).1,λb hb=>?_,w8⟩⟩;obtain⟨o,e,_⟩:=T.obj _ _ gT b hb;exact(fP b hb o e).2
   cases ok with
   |false=>have fQ:=q7;rw[j? t?]at fQ;exact back I7 fQ
   |true=>have fQ:=q7;rw[m_ a_]at fQ;show l_ _ _ _ _ _ _;refine ah (hk C fp aa ae _ s7 U6 H7 _ I7 fQ) λkv s8 zQ=>?_;obtain⟨y,H8,I8,r8,q8⟩:=zQ;refine ah (hv C fp aa ae _ s8 U6 H8 _ I8 q8) λvv s9 zQ=>?_;obtain⟨z,H9,I9,r9,Nq,dp,q9⟩:=zQ;exact Xe (X:=bM X scope N' C fp aa ae) (A:=X.A) hu I9 dp r8 r9 λdQ gH=>back gH q9
 exact codeAny_compStart_dict (loop _ a_) (T.self _ 0 _ _ _ eR (loop _ a_))
variable {scope:Ã}{N':b? y?}{ix:b? (g? i_)}{tg iter kx vx:G?}{ifs:b? G?}{pos:ğ}{wi:TI}{g:TG}{ti:TT}{tk tv:TE}
theorem Ez (new:HO)(oZ:new= .dK []\/new= .dT [])(hu:X.A.units+1<Â)(co:i3 X.N X.env.scope scope N' ix)(hc:X.calm=true)(hit:PI X tg iter wi)(hg:∀C fp aa ae,PG (bM X scope N' C fp aa ae) tg g)(hi:∀C fp aa ae,nJ (bM X scope N' C fp aa ae) ifs ti)(hk:∀C fp aa ae,PE (bM X scope N' C fp aa ae) kx tk)(hv:∀C fp aa ae,PE (bM X scope N' C fp aa ae) vx tv)(hs:e_ (∀x,Ŕ iter X.env x=ó x) aP3):
  PE X (.DictComp kx vx [⟨tg,iter,ifs,0⟩] scope pos) (Xh new ix wi g ti tk tv):=by
 intro pins s U H Q I h;show l_ _ _ (afr (.DictComp kx vx [⟨tg,iter,ifs,0⟩] scope pos) scope X.env _ newDict false (U? iter X.env)) _ _ s;refine Ŝ (use:=none) a_ hs (D9 co I) co.kind co.names (ah (hit pins s U H _ I h) λxv ai h₁=>ah h₁ λtG aa bX=>?_);obtain⟨it,fp,tn,J,ae,e,eS,T,st,hf,hq⟩:=bX;subst e;refine ù ?_;have hn:ae aa.heap.objs.size=none:=eS.ag.fresh (r_ _);have Xj:wg X.prog X.w (upd ae aa.heap.objs.size new) (aa.heap.push {cls:=.type "dict",dict:=none,data:=.dict #[]}) aa.heap.objs.size new:=by
  rcases oZ with z|z
  .rw[z];exact Vu aa.heap eS.big
  .rw[z];exact MH aa.heap eS.big
 have EA:Inv X pins U (upd ae aa.heap.objs.size new) {aa with heap:=aa.heap.push {cls:=.type "dict",dict:=none,data:=.dict #[]}}:=eS.laid (a:=aa.heap.objs.size) (o:=new) (t':=aa.toks) (λ_ _ q=>f_ _ q) (r_ _) Xj;obtain⟨W,w0,hW⟩:=hq aa.heap.objs.size hn;have dB:∀b∈fp,dM X pins (upd ae aa.heap.objs.size new) b:=λb hb=>by obtain⟨f0,f⟩:=hf b hb;obtain⟨o,e,_⟩:=T.obj _ _ st b hb;exact⟨by rw[jd (N? (r? e))];exact f0,f⟩
 refine Xi co hc (i_.lt_of_succ_lt hu) hg hi hk hv EA T (T.keep _ _ _ st λb _ o e=>f_ _ e) dB w0 hW (RR:=λC=>ae3 (n_ X.prog X.w) X.A X.xe none (EP X pins U Q) (.ref aa.heap.objs.size) C) λC H' s' I' q G=>?_;obtain⟨m,hn⟩:=G.ns;exact⟨m,hn,λh' pE=>(xa0 (.ref aa.heap.objs.size) _ ⟨G.go I' pE,a_,q⟩)⟩
end
theorem Xk {K:e?}{a D:c_}{xs:b? V}{g:TG}{ti:TT}{tk tv:TE}{U0:St}{H0:Hp}{QF:Hp->Prop}(Pv:i_->St->Hp->Prop)(h0:Pv 0 U0 H0)(hl:∀i U H,i<=xs.length->Pv i U H->af K H a xs)(hs:∀i x U H,xs[i]?=some x->Pv i U H->g x U H λ U2 H2=>ti U2 H2 λb H3=>if b=true then tk U2 H3 λy H4=>tv U2 H4 λz H5=>∃H6,ft H5 D y z H6/\Pv (i+1) U2 H6 else Pv (i+1) U2 H3)(hd:∀U H,Pv xs.length U H->QF H):∃W:i_->i_->St->Hp->Prop,(∃m,W 0 m U0 H0)/\vD (lO K a) g ti tk tv D QF W:=by
 refine⟨λi m U H=>m=xs.length-i/\i<=xs.length/\Pv i U H,⟨xs.length,by simp,T? _,h0⟩,?_⟩
 rintro i m U H ⟨rfl,hi,p⟩
 have q:=hl i U H hi p;by_cases aw:i<xs.length
 .refine .inr ⟨(xa0 xs (xs[i]) ⟨q,by simp[aw]⟩),Pv (i+1),λ U' H' p'=>⟨xs.length-(i+1),by lia,a_,aw,p'⟩,λx H' y=>?_⟩;obtain⟨e,y⟩:=y;subst e;exact hs i x U _ (y xs q) p
 .have e:i=xs.length:=by lia
  subst e;exact .inl ⟨⟨xs,q,r_ _⟩,hd U H p⟩
theorem Xl:N_ "enumerate"=some (.type "enumerate"):=by decide+kernel
section
variable {X:Cx}{pins:b? (c_×L?)}{U:St}{H:Hp}{s:d?}{h':k?}
theorem Inv.Xm {t':i_}{ch:b? c_}{p:c_}{o':HO}(I:Inv X pins U H s)(gC:∀b∈ch,dM X pins H b)(k:∀b o,b∉ch->s.heap.get? b=some o->h'.get? b=some o)(hp:s.heap.objs.size<=p)(new:wg X.prog X.w (upd H p o') h' p o'):Inv X pins U (upd H p o') {s with heap:=h',toks:=t'}:=by
 have neT:∀{b:c_}{u:HO},H b=some u->b≠p:=λ{b u} e=>N? (F? (I.ag.lt e) hp);have oQ:∀{b:c_}{u:HO},H b=some u->b∉ch:=λ{b u} e z=>by rw[(gC b z).1]at e;cases e
 refine I.step (g':=s.gens) (d':=s.drawn) (ch:=ch) (λb hb=>?_) (λb o _ _ hc e _=>k b o hc e) (λb o _ _ hc e _=>⟨o.slots,k b o hc e⟩) (λb o _ e n=>?_) (λb o hc e=>⟨o,k b o hc e⟩) (λb xs e=>by rw[jd (neT e)];exact e) (λb o u e=>by rw[jd (neT e)];exact e) (λb ps e=>⟨#[],by rw[jd (neT e),e];simp⟩) (λm hm=>?_) (λb u e=>?_) I.bare
 .obtain⟨_,f1,_,f3,f4,f5⟩:=gC b hb;exact⟨f3,f1,f4,f5⟩
 .rw[jd (N? (F? (r? e) hp))];exact n
 .obtain⟨o,es,ep,ho,r⟩:=hm;exact(xa1 o es ep ⟨k _ o (λz=>(gC _ z).2.1 a_) ho,r⟩)
 .by_cases hb:b=p
  .subst hb;rw[ja]at e;cases e;exact new
  .rw[jd hb]at e;refine(I.ag b u e).cG (λc v hc q=>k c v ?_ q) (λc q=>by rw[jd (neT q)];exact q) λc xs q=>by rw[jd (neT q)];exact q
   rcases hc with z|z
   .rw[z];exact oQ e
   .exact oQ z
end
noncomputable def vE (K:e?)(a:c_):It where
 go:=λi H=>∃xs x,af K H a xs/\xs[i]?=some x
 dJ:=λi H x H'=>∃p v,H p=none/\x= .ref p/\(∀xs,af K H a xs->xs[i]?=some v)/\H'=upd H p (.tup [.int (i:f?),v])
 stop:=λi H=>∃xs,af K H a xs/\xs.length<=i
theorem Xn {P:D'}{w:I?}{K:e?}{elts:b? G?}{k:i_}{fG:ğ}(a e it:c_)(nX:e≠it):Turn P w K (.Tuple elts k fG) (vE K a) [e,it] e (λi h=>(∃old,IsEnum h e it i old)/\h.IsListIter it a i) where
 mem:=by simp
 obj:=λi h st b hb=>by
  obtain⟨⟨old,he⟩,oi,ei,ci,di⟩:=st;have fJ:b=e\/b=it:=by simpa using hb
  rcases fJ with z|z
  .subst z;exact⟨_,he,λv z=>by have z':acd _=abx v:=z;cases z'⟩
  .subst z;exact⟨oi,ei,λv z=>by rw[di]at z;cases z⟩
 keep:=λi h h' st k=>⟨st.1.imp λold he=>k e (by simp) _ he,st.2.at λo q=>k it (by simp) o q⟩
 item:=by
  intro X hP hw hK hc i pins s U H E I hf st hg;subst hP hw hK;obtain⟨xs,x,hq,hx⟩:=hg;obtain⟨its,rv,p,hz⟩:=I.list hq;obtain⟨u,hu,ru⟩:=rv.get hx;obtain⟨⟨old,he⟩,hit⟩:=st;refine wpAny_pyNext_enum_item he hit p.isList (x:=u) (by simpa using hu) nX λh' Xo md Xp Eo i9=>⟨_,a_,wpAny_letOwnedTupleGo_enum Xo λh'' EB pM=>?_⟩;have ne:s.heap.objs.size≠e:=M_ (N? (r? he));have EC:=(pM.2 s.heap.objs.size ne).trans Xp;have fin:∀c∈[e,it],c≠s.heap.objs.size:=λc hc=>by
   have kA:c=e\/c=it:=by simpa using hc
   rcases kA with z|z
   .rw[z];exact M_ ne
   .obtain⟨oi,ei,_⟩:=hit;rw[z];exact N? (r? ei)
  refine(xa0 (.ref s.heap.objs.size) (upd H s.heap.objs.size (.tup [.int (i:f?),x])) ⟨?_,a_,(xa0 _ x ⟨I.fresh,a_,λys hy=>by rw[I.Df hy hq];exact hx,a_⟩),⟨⟨u,by simpa using EB⟩,?_⟩,λb hb=>?_⟩)
  .refine I.Xm (ch:=[e,it]) (t':=s.toks+1) hf (λb o hb q=>?_) (r_ _) ⟨(by show 2<=k_;decide),[.int i s.toks,u],.cons ⟨_,a_⟩ (.cons ru .nil),_,EC,a_,_,a_⟩;have Nr:b≠e:=λz=>hb (by simp[z]);have Xq:b≠it:=λz=>hb (by simp[z]);exact(pM.2 b Nr).trans (i9 b o Nr Xq q)
  .exact md.at λo q=>(pM.2 it (M_ nX)).trans q
  .rw[jd (fin b hb)];exact(hf b hb).1
 done:=by intro X hP hw hK hc i pins s U H E I hf st hg;subst hP hw hK;obtain⟨xs,hq,hx⟩:=hg;obtain⟨its,rv,p,hz⟩:=I.list hq;have hl:=rv.length;obtain⟨⟨old,he⟩,hit⟩:=st;obtain⟨f0,f1,f2,f3,f4,f5⟩:=hf it (by simp);exact wpAny_pyNext_enum_end (I.ok.hd hc) he hit p.isList (by simp;lia) λh' eb=>⟨a_,I.turned (t':=s.toks) (λb o hb q=>eb b o hb q) f0 f1 f3 f4 f5⟩
 self:=λ_ _ _ _ _ st h=>by obtain⟨⟨old,he⟩,_⟩:=st;exact adP he h
noncomputable def Xr (K:e?)(ta:TA):TI:=λ U H R=>ta U H λvs H1=>∃a,vs=[.ref a]/\(∃xs,af K H1 a xs)/\R (vE K a) H1
theorem Xs {X:Cx}{elts:b? G?}{k:i_}{fG:ğ}{a:G?}{ta:TA}{p pos:ğ}(hg:Gl X "enumerate")(hm:X.mg "enumerate"=none)(ha:PA X [a] ta)(hs:e_ (x? [a] X.env=[(false,U? a X.env)]) aP1):PI X (.Tuple elts k fG) (.Call (.Name "enumerate" p) [a] [] pos) (Xr X.K ta):=by
 intro pins s U H R I h;refine Call_ (tm I hg hm Xl (ę (ah (ha pos pins s U H _ I h) λus s1 zQ=>?_) hs a_));obtain⟨vs,H1,I1,r1,q1⟩:=zQ;obtain⟨l,e,⟨xs,hq⟩,q⟩:=q1;subst e;obtain⟨u,rfl,rx⟩:=vals1 r1;cases rx;obtain⟨its,rv,pl,hz⟩:=I1.list hq;refine call_enumerate_list pl.isList λh' he hit hsz hk=>adP he ?_;have I2:Inv X pins U H1 {s1 with heap:=h'}:=I1.kept (t':=s1.toks) hk;refine(xa3 (s1.heap.objs.size+1) [s1.heap.objs.size+1,s1.heap.objs.size] _ _ H1 ⟨a_,I2,Xn l _ _ (λz=>w_ z (i_.succ_ne_self _)),⟨⟨_,he⟩,hit⟩,λb hb=>?_,q⟩);have fJ:b=s1.heap.objs.size+1\/b=s1.heap.objs.size:=by simpa using hb
 have hle:s1.heap.objs.size<=b:=by
  rcases fJ with z|z
  .rw[z];exact Ÿ _
  .rw[z];exact r_ _
 exact I1.oS hle (I1.ag.fresh hle)
theorem Xt {K:e?}{a:c_}{xs:b? V}{g:TG}{ti:TT}{te:TE}{U0:St}{H0:Hp}{Q:VK}(Pv:i_->b? V->St->Hp->Prop)(h0:Pv 0 [] U0 H0)(hl:∀i ys U H,i<=xs.length->Pv i ys U H->af K H a xs/\ys.length<=k_)(hs:∀i x ys U H p,xs[i]?=some x->Pv i ys U H->H p=none->g (.ref p) U (upd H p (.tup [.int (i:f?),x])) λ U2 H2=>ti U2 H2 λb H3=>if b=true then te U2 H3 λy H4=>Pv (i+1) (ys++[y]) U2 H4 else Pv (i+1) ys U2 H3)(hd:∀ys U H,Pv xs.length ys U H->∀p,H p=none->Q (.ref p) (upd H p (.lst ys))):∃W:i_->i_->b? V->St->Hp->Prop,(∃m,W 0 m [] U0 H0)/\∀i m ys U H,W i m ys U H->ys.length<=k_/\(((vE K a).stop i H/\rP Q ys H)\/((vE K a).go i H/\∃N:b? V->St->Hp->Prop,(∀br U' H',N br U' H'->∃m',m'<m/\W (i+1) m' br U' H')/\∀x H',(vE K a).dJ i H x H'->g x U H' λ U2 H2=>ti U2 H2 λb H3=>if b=true then te U2 H3 λy H4=>N (ys++[y]) U2 H4 else N ys U2 H3)):=by
 refine⟨λi m ys U H=>m=xs.length-i/\i<=xs.length/\Pv i ys U H,⟨xs.length,by simp,T? _,h0⟩,?_⟩
 rintro i m ys U H ⟨rfl,hi,p⟩
 obtain⟨q,hz⟩:=hl i ys U H hi p;refine⟨hz,?_⟩;by_cases aw:i<xs.length
 .refine .inr ⟨(xa0 xs (xs[i]) ⟨q,by simp[aw]⟩),Pv (i+1),λbr U' H' p'=>⟨xs.length-(i+1),by lia,a_,aw,p'⟩,λx H' y=>?_⟩;obtain⟨c,v,hc,rfl,y,rfl⟩:=y;exact hs i v ys U H c (y xs q) p hc
 .have e:i=xs.length:=by lia
  subst e;exact .inl ⟨⟨xs,q,r_ _⟩,hd ys U H p⟩
noncomputable abbrev pN (its:E? b_)(c:i_):L?:={cls:=.type "list",dict:=none,data:=.seq its c,slots:=#[]}
structure Nt (s:d?)(l it S:c_)(vs:b? b_)(bt:i_->i_->o?)(j:i_)(s':d?):Prop where
 same:s'={s with heap:=s'.heap,toks:=s'.toks}
 it:s'.heap.IsListIter it l j
 old:∀b o,s.heap.get? b=some o->s'.heap.get? b=some o
 le:j<=vs.length
 best:(j=0/\∃c,s'.heap.get? S=some (pN #[] c))\/∃k v c,j=k+1/\vs[Þ bt k]?=some v/\s'.heap.get? S=some (pN #[v,v] c)
theorem ED (bt:i_->i_->o?):∀k,Þ bt k<=k
 |0=>r_ _
 |k+1=>by have:=ED bt k;unfold Þ;split<;>lia
section
variable {prog:D'}{w:I?}{A:C_}{s:d?}{l it S:c_}{vs:b? b_}{bt:i_->i_->o?}{R:š->d?->Prop}
theorem Nu {id:ë}{args:Args}{b:Ü}(hb:abS table id=some b):(n_ prog w).den (.builtin id args)=b args:=by show(match abS table id with|some b=>b args|none=>unsupported ((withoutEnding? id "#data").getD id))=_;rw[hb]
theorem EE {M:aak}{A:C_}{E:b_->d?->Prop}{its:E? b_}{c:i_}{f:E? b_->E? b_}{Q:acB->d?->Prop}(hS:s.heap.get? S=some (pN its c))(h0:its.size<=2)(h1:(f its).size<=2)(h:Q () {s with heap:=s.heap.update S (X' f)}):l_ M A (acn S f) Q E s:=wpAny_updateSeq (o:=pN its c) (n:=c) hS a_ h (P_ h0 (by decide)) (P_ h1 (by decide))
set_option maxHeartbeats 2000000 in
theorem Xu (hh:A.handled = none) (hl:s.heap.IsList l vs.toArray) (hit : ∀ o,s.heap.get? it ≠ some o) (hS : ∀ o,s.heap.get? S ≠ some o) (me:it ≠ S) (nX : 0 < vs.length)
  (pO : ∀ i j vi vj (s':d?) (Q:b_ -> d? -> Prop) (E:b_ -> d? -> Prop),j < i -> vs[i]? = some vi -> vs[j]? = some vj -> (∀ b o,s.heap.get? b = some o -> s'.heap.get? b = some o) -> Q (.bool (bt i j)) s' -> l_ (n_ prog w) A.in1 (abm .Lt vi vj) Q E s')
  (hR : ∀ v h' tk,vs[Þ bt (vs.length - 1)]? = some v -> (∀ b o,s.heap.get? b = some o -> h'.get? b = some o) -> R (.ok (.ret v)) { s with heap:=h',toks:=tk }) {s1:d?} (h1:Nt s l it S vs bt 0 s1) :
  Ú (n_ prog w) A (.builtin "min.loop" ⟨[.ref it,.none,.ref S],[]⟩) R s1:=by
 have eV:(toString "min" ++ toString ".loop" : ë) = "min.loop" := by decide
 refine aaR (Ş aaV _) (λn s'=>∃ j,n = vs.length - j /\ Nt s l it S vs bt j s') (λn s' ⟨j,en,M⟩=>?_) vs.length ⟨0,by simp,h1⟩
 rw [ŕ aaV,Nu F.entry_min_loop]
 have nM:s'.heap.IsList l vs.toArray:=by
  obtain ⟨o,ho,r⟩:=hl
  exact ⟨o,M.old l o ho,r⟩
 have pP : ∀ {h2:k?} {f:L? -> L?},(∀ b o,s.heap.get? b = some o -> h2.get? b = some o) -> ∀ b o,s.heap.get? b = some o -> (h2.update S f).get? b = some o:=λk b o e=>(Û _ _ (λz=>hS o (by rw [z]; exact e))).trans (k b o e)
 by_cases hj:j < vs.length
 .obtain ⟨x,hx⟩ : ∃ x,vs[j]? = some x:=⟨vs[j],by simp [hj]⟩
  have Aw:vs.toArray[j]? = some x:=by simpa using hx
  have step : ∀ {h2:k?},H_ it s'.heap h2 -> (∀ b o,s.heap.get? b = some o -> h2.get? b = some o):=λsb b o e=>(sb.2 b (λz=>hit o (by rw [<- z]; exact e))).trans (M.old b o e)
  rcases M.best with ⟨ej,c,hc⟩ | ⟨k,v,c,ej,hv,hc⟩
  .subst ej
   show l_ _ A.in1 (aco (.ref S) >>= _) _ _ s'
   refine d_ (abM hc a_ ?_)
   show l_ _ A.in1 (tryCatch (ĺ (.ref it)) _ >>= _) _ _ s'
   refine d_ (aag (Ġ M.it nM Aw λh2 i2 sb=>?_))
   have eN:h2.get? S = some (pN #[] c):=(sb.2 S (M_ me)).trans hc
   show l_ _ A.in1 (acn S (λ_=>#[x,x]) >>= _) _ _ _
   refine d_ (EE eN (T? _) (r_ _) ?_)
   rw [eV]
   refine j_ ⟨a_,vs.length - 1,by lia,1,a_,?_,i2.at λo q=>(Û _ _ (M_ me)).trans q,pP (step sb),hj,.inr (xa1 0 x _ ⟨a_,hx,R? _ eN a_⟩)⟩
   rw [M.same]
  .show l_ _ A.in1 (aco (.ref S) >>= _) _ _ s'
   refine d_ (abM hc a_ ?_)
   show l_ _ A.in1 (tryCatch (ĺ (.ref it)) _ >>= _) _ _ s'
   refine d_ (aag (Ġ M.it nM Aw λh2 i2 sb=>?_))
   have eN:h2.get? S = some (pN #[v,v] c):=(sb.2 S (M_ me)).trans hc
   have hb:=ED bt k
   show l_ _ A.in1 (tryCatch (ģ [x,x] (abm .Lt x v >>= _)) _ >>= _) _ _ _
   refine d_ (aag (M? (d_ (pO j (Þ bt k) x v _ _ _ (by lia) hx hv (step sb) (d_ (M? (X_ (d_ (abk (j_ ?_))))))))))
   have next : ∀ {b:o?},bt j (Þ bt k) = b -> Þ bt j = if b = true then j else Þ bt k:=λ{b} e=>by
    subst ej
    show (if bt (k + 1) (Þ bt k) = true then k + 1 else Þ bt k) = _
    rw [e]
   cases vF:bt j (Þ bt k) with
   | true=>
    simp only [abz]
    show l_ _ A.in1 (acn S (λ_=>#[x,x]) >>= _) _ _ _
    refine d_ (EE eN (r_ _) (r_ _) (d_ (abk ?_)))
    rw [eV]
    refine j_ ⟨a_,vs.length - (j + 1),by lia,j + 1,a_,?_,i2.at λo q=>(Û _ _ (M_ me)).trans q,pP (step sb),hj,.inr (xa1 j x _ ⟨a_,by rw [next vF]; exact hx,R? _ eN a_⟩)⟩
    rw [M.same]
   | false=>
    simp only [Ā,aaN]
    refine d_ (abk ?_)
    rw [eV]
    refine j_ ⟨a_,vs.length - (j + 1),by lia,j + 1,a_,?_,i2,step sb,hj,.inr (xa1 j v c ⟨a_,by rw [next vF]; exact hv,eN⟩)⟩
    rw [M.same]
 .have ej:j = vs.length:=by have:=M.le; lia
  have Aw:vs.toArray[j]? = none:=by simp; lia
  rcases M.best with ⟨z,_⟩ | ⟨k,v,c,ek,hv,hc⟩
  .omega
  .show l_ _ A.in1 (aco (.ref S) >>= _) _ _ s'
   refine d_ (abM hc a_ ?_)
   show l_ _ A.in1 (tryCatch (ĺ (.ref it)) _ >>= _) _ _ s'
   refine d_ (aag (ſ hh M.it nM Aw λh2 eb=>?_))
   have eN:h2.get? S = some (pN #[v,v] c):=eb S _ (M_ me) hc
   show l_ _ A.in1 (acn S (λ_=>#[]) >>= _) _ _ _
   refine d_ (EE eN (r_ _) (T? _) (d_ (abk (j_ ?_))))
   have Xv:k = vs.length - 1:=by lia
   have:=hR v (h2.update S (X' λ_=>#[])) s'.toks (Xv ▸ hv) (pP λb o e=>eb b o (λz=>hit o (by rw [<- z]; exact e)) (M.old b o e))
   rw [M.same]
   exact this
end
section
variable {prog:D'}{w:I?}{A:C_}{s:d?}{l:c_}{vs:b? b_}{bt:i_->i_->o?}{E:b_->d?->Prop}
theorem Xw {Q:b_->d?->Prop}(hh:A.handled=none)(hl:s.heap.IsList l vs.toArray)(nX:0<vs.length)(pO:∀i j vi vj (s':d?)(Q:b_->d?->Prop)(E:b_->d?->Prop),j<i->vs[i]?=some vi->vs[j]?=some vj->(∀b o,s.heap.get? b=some o->s'.heap.get? b=some o)->Q (.bool (bt i j)) s'->l_ (n_ prog w) A.in1 (abm .Lt vi vj) Q E s')(h:∀v h' tk,vs[Þ bt (vs.length-1)]?=some v->(∀b o,s.heap.get? b=some o->h'.get? b=some o)->Q v {s with heap:=h',toks:=tk}):
  l_ (n_ prog w) A (ħ (.builtin "min") [.ref l]) Q E s:=by
 have eV:(toString "min"++toString ".loop":ë)="min.loop":=by decide
 refine call_function_tree F.kind_min F.plain_min F.entry_min (F.args_min1 _) ?_;show l_ _ A.in1 (Ü.Builtins.bindParams "min" ["key","default"] 0 ⟨[],[]⟩ >>= _) _ _ s;refine d_ (ac6 (a:=[none,none]) a_ (d_ (j_ (d_ (ġ hl (d_ (ù ?_)))))));rw[eV];have ns:∀{b:c_},s.heap.objs.size<=b->∀o,s.heap.get? b≠some o:=λ{b} z o e=>w_ (r? e) (i_.not_lt.mpr z);generalize hS:(s.heap.push {cls:=.type "list_iterator",data:=.fields #[.ref l,.int 0 0]}).objs.size=S;have nY:S=s.heap.objs.size+1:=by rw[<-hS,Ę]
 refine j_ ⟨Ş aaV _,Xu (s:=s) (S:=S) hh hl (ns (r_ _)) (ns (by rw[nY];exact Ÿ _)) (by rw[nY];exact N? (Ĥ _)) nX pO (λv h' tk hv k=>h v h' tk hv k) ⟨a_,⟨_,f_ _ (v? _ a_),a_,a_⟩,λb o e=>f_ _ (f_ _ e),T? _,.inl ⟨a_,0,?_⟩⟩⟩;rw[<-hS];exact v? _ a_
end
theorem EF:∀{vs:b? b_}{ns:b? f?},Y? vs ns->Vals (ns.map V.int) vs
 |_,_,.nil=>.nil
 |_,_,.cons n t r=>.cons ⟨t,a_⟩ (EF r)
section
variable {X:Cx}
theorem Xx (d:c_)(hd:(d==Yd)=false):Meets (Builtin.«dict.__len__» ⟨[.ref d],[]⟩) (λ_ R s=>∃o es ep,s.heap.get? d=some o/\o.data= .dict es ep/\R (.ok (.ret (.int es.size s.toks))) {s with toks:=s.toks+1}):=
 .of_wp λprog w A R s ⟨o,es,ep,ho,pQ,h⟩=>by show l_ _ _ (dictSize d >>= _) _ _ s;unfold dictSize;exact d_ (d_ (Ģ ho pQ (j_ (d_ (wpAny_pendingCount_other hd (wpAny_ret_mkInt (by rw[i_.add_zero];exact h)))))))
theorem Xy:ef X (.builtin "len") (λxs H Q=>∃a kvs,xs=[V.ref a]/\H a=some (.dT kvs)/\Q (.int kvs.length) H):=by
 intro pins s U H xs us Q I r h;obtain⟨a,kvs,rfl,ha,q⟩:=h;obtain⟨u,rfl,ru⟩:=vals1 r;cases ru;obtain⟨z,hd,ys,rel,o,es,ep,ho,hx,pQ,Xz,hn⟩:=I.ag a _ ha;have hsz:es.size=kvs.length:=by
  have e1:es.toList.length=ys.length:=by rw[Xz,g_]
  have e2:=q? rel;have e3:es.toList.length=es.size:=by simp
  lia
 have hz:(kvs.length:f?)<2^63:=by have:=lR;lia
 refine call_len_meets (n:=(es.size:f?)) ⟨o,ho,hx.1⟩ PySem.F.slot_dict_len PySem.F.entry_dict_len (PySem.F.args_dict_len_1 _) (Xx a hd) (by lia) (by rw[hsz];lia) (λQ' q'=>(xa1 o es ep ⟨ho,pQ,q'⟩)) ?_;rw[hsz];exact(xa0 (.int kvs.length) H ⟨I.tok _,⟨_,a_⟩,q⟩)
end
section
variable {X:Cx}{K:e?}
theorem Nv {es:b? G?}{k:i_}{pos:ğ}{t:mU}(hK:X.K=K)(hc:X.calm=true)(n:i_)(h:tw X es t)(hn:(į es X.env).length=n)(iA:(į es X.env).findIdx? (·.1)=none):PG X (.Tuple es k pos) (LA K n t):=by subst hK;exact kD hc h hn iA
theorem XA {e:G?}{f:y?}{pos:ğ}{ta:TE}(hK:X.K=K)(he:PE X e ta)(hb:Ē e f X.env (U? e X.env)=U? e X.env):PE X (.Attribute e f pos) (L8 K ta f):=by subst hK;exact j3 he hb
theorem XB (hK:X.K=K):tT X (Mn K):=by subst hK;exact yr
theorem Nw (hK:X.K=K):tT X (Mp K):=by subst hK;exact gY
end
end L2
namespace PySem
section
variable {prog:D'}{w:I?}{K:Type}[ĝ K]{knd:HeapKind prog w K}{A:C_}{E:b_->d?->Prop}{s:d?}
theorem XC {h:k?}{d a:c_}{xs:b? (K×c_×b_)}{k:K}{v:b_}{o:L?}{es:E? Ĉ}{ep:i_}(ho:h.get? d=some o)(hc:o.ExactDict)(hd:o.data= .dict es ep)(he:es.toList=xs.map (adB knd))(Ax:∀x∈xs,knd.is h x.1 x.2.1)(hn:(xs.map (·.1)).Nodup)(cH:knd.is h k a)(EG:k∉xs.map (·.1)):(h.update d (L?.mapDictKeys (·.push ⟨knd.hash k,.ref a,v⟩))).DictOfH knd d (xs++[(k,a,v)]):=by
 refine(xa1 _ _ (ep+1) ⟨R? _ ho (L?.isFreed_of_dict (acF hd _)),hc.mapDictKeys _,acF hd _,by simp[he,adB],λx hx=>?_,?_⟩)
 .have old:knd.is h x.1 x.2.1:=(v_.mp hx).elim (Ax x) λz=>by
   rw[j'.mp z];exact cH
  exact knd.keeps old ho hd (ē ..)
 .have p:((xs++[(k,a,v)]).map (·.1)).Perm (k::xs.map (·.1)):=by
   rw[K_];exact b?.perm_append_comm
  exact p.nodup_iff.mpr (W'.mpr ⟨EG,hn⟩)
theorem XD {d a:c_}{xs:b? (K×c_×b_)}{k:K}{dflt:b_}{Q:b_->d?->Prop}(hu:knd.room A)(cH:knd.is s.heap k a)(hm:s.heap.DictOfH knd d xs)(hsz:xs.length<=k_)(h1:∀p,aai xs k=some p->Q p.2 {s with toks:=s.toks+knd.draws k})(h2:aai xs k=none->∀h',h'.DictOfH knd d (xs++[(k,a,dflt)])->H_ d s.heap h'->Q dflt {s with heap:=h',toks:=s.toks+knd.draws k}):
  l_ (n_ prog w) A (abT d (.ref a) dflt) Q E s:=by
 obtain⟨o,es,ep,ho,hc,hd,he,Ax,hn⟩:=hm;have sz:es.size=xs.length:=by have:=X? Ĕ he;simpa using this
 unfold abT;refine M? (d_ (knd.pyHash hu cH (d_ (wpAny_dictFind_heap (s:={s with toks:=s.toks+knd.draws k}) hu cH ho hd he Ax hn (λpR=>?_) (λj p hj=>?_)))))
 .refine d_ (adw (d_ (wpAny_updateDictKeys (hz:=by lia) (s:={s with toks:=s.toks+knd.draws k}) ho hd (j_ (h2 (atKey_none_of_get pR) _ (XC ho hc hd he Ax hn cH (not_mem_keys_of_get pR)) (ē ..))))))
 .refine d_ (Ģ (s:={s with toks:=s.toks+knd.draws k}) ho hd ?_);rw[entry_at he j,hj];exact d_ (adw (j_ (h1 _ (atKey_of_get hn hj))))
theorem XE (knd:HeapKind prog w K)(d a:c_)(hd:(d==Yd)=false)(dflt:b_):MeetsIn prog w (Builtin.«dict.setdefault» ⟨[.ref d,.ref a,dflt],[]⟩) (λA R s=>knd.room A.in1/\∃k xs,knd.is s.heap k a/\s.heap.DictOfH knd d xs/\xs.length<=k_/\(∀p,aai xs k=some p->R (.ok (.ret p.2)) {s with toks:=s.toks+knd.draws k})/\(aai xs k=none->∀h',h'.DictOfH knd d (xs++[(k,a,dflt)])->H_ d s.heap h'->R (.ok (.ret dflt)) {s with heap:=h',toks:=s.toks+knd.draws k})):=
 .of_wp λA R s ⟨hu,k,xs,cH,hm,hz,h1,h2⟩=>by have run:=XD (prog:=prog) (w:=w) (E:=λe s'=>R (.error e) s') (Q:=λv s'=>R (.ok (.ret v)) s') hu cH hm hz h1 h2;unfold Builtin.«dict.setdefault» Ü.Dict.keyAndDefault;refine d_ (d_ (acP hm.typeIs ?_));show l_ _ _ (ó (d,t_ a,some dflt)) _ _ s;refine j_ ?_;show l_ _ _ (if(d==Yd)=true then _ else(abT d (.ref a) dflt >>= _)) _ _ s;rw[j? (by rw[hd];exact t?)];exact d_ (G_ run (λv s' q=>j_ ⟨v,a_,q⟩) λ_ _ z=>z)
end
end PySem
namespace L2
open PySem PySem.Spec PyProof.Rows
noncomputable def XF (td ty tx:TE):TE:=λ U H Q=>td U H λx H1=>∃a,x= .ref a/\uI H1 a/\ty U H1 λy H2=>tx U H2 λz H3=>∃kvs k b,H3 a=some (.dT kvs)/\y= .ref b/\H3 b=some (.tup (k.map kV))/\kvs.length<k_/\(∀v,aY kvs k=some v->Q v H3)/\(aY kvs k=none->Q z (upd H3 a (.dT (putK kvs k z))))
section
variable {X:Cx}{o e f:G?}{apos av:ğ}{td ty tx:TE}
theorem XG (hu:X.A.units+1<Â)(ho:PE X o td)(he:PE X e ty)(hf:PE X f tx)(m:M2 X o "setdefault" apos e f av):PE X (.Call (.Attribute o "setdefault" apos) [e,f] [] av) (XF td ty tx):=by
 intro pins s U H Q I h;refine aaP m.base m.few m.line Ć aay PySem.F.type_dict_setdefault (ah (ho pins s U H _ I h) λu s1 zQ=>?_);obtain⟨x,H1,I1,rx,a,ex,d,q1⟩:=zQ;subst ex;obtain rfl:u=t_ a:=rx;obtain⟨t1,t2,_⟩:=D2 I1 d;refine⟨t1,t2,?_⟩;rw[m.trees];refine å a_ (Ø (ä (ah (he pins s1 U H1 _ I1 q1) λiv s2 ⟨y,H2,I2,ry,q2⟩=>ä (ah (hf pins s2 U H2 _ I2 q2) λfv s3 ⟨z,H3,I3,rz,kvs,k,b,ea,ey,eb,hl,g1,g2⟩=>ŀ ?_))));subst ey;cases(show iv=t_ b from ry);obtain⟨hz,hd,xs,rel,dd⟩:=DY I3.ag ea;have Eo:xs.length<=k_:=by rw[<-q? rel];exact hz
 refine ł aay dd.typeIs PySem.F.entry_dict_setdefault (PySem.F.args_dict_setdefault_3 _ _ _) (XE (Į (qy X.prog X.w)) a b hd fv) ⟨Õ hu,xa0 k xs ⟨lX I3.ag eb,dd,Eo,λp hp=>?_,λhn h' iY hs=>?_⟩⟩
 .have rv:=rel.val k;rw[hp]at rv;cases hv:aY kvs k with
  |none=>rw[hv]at rv;cases rv
  |some v=>rw[hv]at rv;exact(xa0 v H3 ⟨I3.tok _,rv,g1 v hv⟩)
 .have rv:=rel.val k;rw[hn]at rv;have hv:aY kvs k=none:=by
   cases hv:aY kvs k with
   |none=>rfl
   |some v=>rw[hv]at rv;cases rv
  have Mv:(putK kvs k z).length<=k_:=by have:=uD kvs k z;lia
  have vG:=rel.put k eb rz;rw[storedH_new hn]at vG;obtain⟨q,es,ep,hq,h2,h3,h4,_,h5⟩:=iY;refine(xa0 z _ ⟨uH (ob:=.dT (putK kvs k z)) I3 (by rw[ea];exact xv) hs ⟨q,hq⟩ ⟨Mv,hd,_,vG.keeps λc ys ec=>?_,xa1 q es ep ⟨hq,h2,h3,h4,h5⟩⟩,rz,g2 hv⟩);rw[jd (cT ec ea (λz=>nomatch z))];exact ec
end
end L2
namespace PySem
section
variable {prog:D'}{w:I?}{A:C_}{E:b_->d?->Prop}{s:d?}
theorem XH {it d:c_}{i ep:i_}{es:E? Ĉ}{od:L?}{Q:g? b_->d?->Prop}(hit:s.heap.IsKeyIter it d i es.size ep)(mf:s.heap.get? d=some od)(dA:od.data= .dict es ep)(aw:i<es.size)(hQ:∀h',h'.IsKeyIter it d (i+1) es.size ep->H_ it s.heap h'->Q (some es[i].key) {s with heap:=h'}):l_ (n_ prog w) A (ĺ (.ref it)) Q E s:=by
 obtain⟨o,ho,hc,hd⟩:=id hit;have hT:=hit.typeIs;unfold ĺ;refine d_ (ach ?_);refine Ũ hT Ë ?_;refine Æ Ë hT aa3 ?_ (aaW _);unfold Builtin.«dict_keyiterator.__next__»;wp_walk using í hT,abN ho hd,Ģ mf dA,abw mf dA,aaa hT;rw[j? (show¬(i:f?)<0 by lia),R_,E?.getElem?_eq_getElem aw];have XI:Ü.Dict_items.ownsTuple "dict_keyiterator"=false:=by decide
 have md:(s.heap.update it (þ (·.setIfInBounds 1 (ŝ ((i:f?)+1))))).IsKeyIter it d (i+1) es.size ep:=⟨_,R? _ ho (Ž (ö hd _)),(aaK ..).trans hc,by rw[ö hd];simp[ŝ]⟩;refine d_ ?_;wp_walk using í hT;rw[hd];show l_ _ _ (update it (þ (·.setIfInBounds 1 (ŝ ((i:f?)+1))))) _ _ s;refine wpAny_update ho (d_ (M? ?_));wp_walk using aaa (s:={s with heap:=s.heap.update it (þ (·.setIfInBounds 1 (ŝ ((i:f?)+1))))}) md.typeIs;exact⟨_,a_,j_ (hQ _ md (ē ..))⟩
theorem XJ {it d:c_}{i ep:i_}{es:E? Ĉ}{od:L?}{Q:g? b_->d?->Prop}(hh:A.handled=none)(hit:s.heap.IsKeyIter it d i es.size ep)(mf:s.heap.get? d=some od)(dA:od.data= .dict es ep)(XM:es.size<=i)(hQ:∀h',k?.ExtBut it s.heap h'->Q none {s with heap:=h'}):l_ (n_ prog w) A (ĺ (.ref it)) Q E s:=by
  obtain⟨o,ho,hc,hd⟩:=id hit;have hT:=hit.typeIs;unfold ĺ;refine d_ (ach ?_);refine Ũ hT Ë ?_;refine Æ Ë hT aa3 ?_ (aaW _);unfold Builtin.«dict_keyiterator.__next__»;wp_walk using í hT,abN ho hd,Ģ mf dA,abw mf dA,aaa hT;rw[j? (show¬(i:f?)<0 by lia),R_,acO XM];wp_walk using í hT;rw[hd];show l_ _ _ (update it (þ (·.setIfInBounds 0 .none))) _ _ s;refine wpAny_update ho ?_;unfold newExc raiseNew newTuple ae1;wp_walk using ù;all_goals first
    | (show l_ _ _ (isSubtype (.type "StopIteration") (.type "StopIteration")) _ _ _
       rw[aeZ];exact j_ (j_ (hQ _ (((ē ..).extBut.push _).push _))))
    |(unfold e_;size_fits)
    |size_fits
theorem XN {d:c_}{es:E? Ĉ}{ep:i_}{od:L?}{Q:b_->d?->Prop}(hd:(d==Yd)=false)(mf:s.heap.get? d=some od)(hx:od.ExactDict)(dA:od.data= .dict es ep)(hQ:Q (.ref s.heap.objs.size) {s with heap:=s.heap.push {cls:=.type "dict_keyiterator",data:=.fields #[.ref d,.int 0 0,.int es.size 0,.int ep 0]}}):l_ (n_ prog w) A (abO (.ref d)) Q E s:=by
 have hT:s.TypeIs (.ref d) "dict":=⟨od,mf,hx.1⟩;have run:l_ (n_ prog w) A.in1 (Builtin.«dict.__iter__» ⟨[.ref d],[]⟩) (λfin s'=>fin= .done (.ret (.ref s.heap.objs.size))/\s'={s with heap:=s.heap.push {cls:=.type "dict_keyiterator",data:=.fields #[.ref d,.int 0 0,.int es.size 0,.int ep 0]}}) E s:=by unfold Builtin.«dict.__iter__» Ü.Dict.dictSlotNone Ü.Dict.showsAll;wp_walk using acP hT,Ģ mf dA,abw mf dA;exact⟨a_,a_⟩
 refine aaO hT adF (Æ adF hT F.entry_dict_iter (G_ run (λf s' z=>?_) λ_ _ z=>z) (F.args_dict_iter_1 _));obtain⟨rfl,rfl⟩:=z;exact⟨_,a_,xa0 ("dict_keyiterator") _ ⟨⟨_,v? _ a_,a_⟩,Ë.lookup,hQ⟩⟩
end
end PySem
namespace L2
open PySem PySem.Spec PyProof.Rows
noncomputable def si (a:c_)(o:L?)(kvs:b? (b? Key×V)):It where
 go:=λi H=>i<kvs.length/\H a=some (.aB o (.dT kvs))
 dJ:=λi H x H'=>H'=H/\∃kv b,kvs[i]?=some kv/\x= .ref b/\H b=some (.tup (kv.1.map kV))
 stop:=λi H=>kvs.length<=i/\H a=some (.aB o (.dT kvs))
theorem qo {α β:Type}{F:α->β->Prop}:∀{xs:b? α}{ys:b? β}{i:i_}{x:α},h_ F xs ys->xs[i]?=some x->∃y,ys[i]?=some y/\F x y:=λ{xs ys i x} q e=>by
 induction q generalizing i with
 |nil=>simp at e
 |cons h _ ih=>
  cases i with
  |zero=>cases s_ e;exact⟨_,a_,h⟩
  |succ i=>exact ih (i:=i) e
theorem XO {P:D'}{w:I?}{K:e?}{tg:G?}(a it:c_)(o:L?)(kvs:b? (b? Key×V))(es:E? Ĉ)(ep:i_)(hd:o.data= .dict es ep):Turn P w K tg (si a o kvs) [it] it (λi h=>h.IsKeyIter it a i kvs.length ep) where
 mem:=by simp
 obj:=λi h st b hb=>by
  have e:b=it:=by simpa using hb
  subst e;obtain⟨o,e,c,d⟩:=st;exact⟨o,e,λv z=>by rw[d]at z;cases z⟩
 keep:=λi h h' st k=>st.at λo e=>k it (by simp) o e
 item:=by
  intro X hP hw hK hc i pins s U H E I hf st hg;subst hP hw hK;obtain⟨hi,hq⟩:=hg;obtain⟨ho,hz,hs,xs,r,o',gQ,eK,aV,eU,bu,he,nd⟩:=I.ag a _ hq;cases s_ (aV.symm.trans ho);rw[hd]at bu;cases bu;have hsz:es.size=kvs.length:=by have e1:=X? Ĕ he;rw[g_,<-q? r]at e1;simpa using e1
  obtain⟨kv,kP⟩:∃kv,kvs[i]?=some kv:=⟨kvs[i],by simp[hi]⟩;obtain⟨x,ex,e1,e2,e3⟩:=qo r kP;have aw:i<es.size:=by lia
  have cH:es[i].key= .ref x.2.1:=by
   have h1:es.toList[i]?=some es[i]:=by simp[aw]
   rw[he,y_,ex]at h1;rw[<-s_ h1];rfl
  obtain⟨f0,f1,f2,f3,f4,f5⟩:=hf it (by simp);rw[<-hsz]at st;refine XH st ho hd aw λh' bL sb=>?_;have I1:Inv X pins U H {s with heap:=h'}:=I.turned (t':=s.toks) (λb o hb e=>(sb.2 b hb).trans e) f0 f1 f3 f4 f5;rw[hsz]at bL;rw[cH];obtain⟨oi,ei,ci,di⟩:=id bL;exact⟨_,a_,rE (s:={s with heap:=h'}) ei ci di (by decide) (xa0 (.ref x.2.1) H ⟨I1,a_,⟨a_,xa0 kv x.2.1 ⟨kP,a_,by rw[e1];rw[e1]at e2;exact e2⟩⟩,bL,λb hb=>(hf b hb).1⟩)⟩
 done:=by
  intro X hP hw hK hc i pins s U H E I hf st hg;subst hP hw hK;obtain⟨hi,hq⟩:=hg;obtain⟨ho,hz,hs,xs,r,o',gQ,eK,aV,eU,bu,he,nd⟩:=I.ag a _ hq;cases s_ (aV.symm.trans ho);rw[hd]at bu;cases bu;have hsz:es.size=kvs.length:=by have e1:=X? Ĕ he;rw[g_,<-q? r]at e1;simpa using e1
  obtain⟨f0,f1,f2,f3,f4,f5⟩:=hf it (by simp);rw[<-hsz]at st;exact XJ (I.ok.hd hc) st ho hd (by lia) λh' eb=>⟨a_,I.turned (t':=s.toks) (λb o hb e=>eb b o hb e) f0 f1 f3 f4 f5⟩
 self:=λ_ _ _ _ _ st h=>ac5 st h
noncomputable def XQ (tl:TE):TI:=λ U H R=>tl U H λx H1=>∃a kvs,x= .ref a/\H1 a=some (.dT kvs)/\∀o,R (si a o kvs) (upd H1 a (.aB o (.dT kvs)))
theorem Ny {X:Cx}{tg l:G?}{tl:TE}(hl:PE X l tl):PI X tg l (XQ tl):=by
 intro pins s U H R I h;refine ah (hl pins s U H _ I h) λv s1 zQ=>?_;obtain⟨x,H1,I1,r1,q1⟩:=zQ;obtain⟨a,kvs,e,hq,q⟩:=q1;subst e;cases r1;obtain⟨hz,hs,xs,r,o,es,ep,ho,hx,hd,he,nd⟩:=I1.ag a _ hq;have hsz:es.size=kvs.length:=by have e1:=X? Ĕ he;rw[g_,<-q? r]at e1;simpa using e1
 refine XN hs ho hx hd ?_;have I2:=I1.freeze (show iz (some (HO.dT kvs))from xv) hq ho;have hn:upd H1 a (.aB o (.dT kvs)) s1.heap.objs.size=none:=I2.ag.fresh (r_ _);refine(xa3 s1.heap.objs.size [s1.heap.objs.size] _ _ _ ⟨a_,I2.kept (t':=s1.toks) λb o e=>f_ _ e,XO a _ o kvs es ep hd,?_,λb hb=>?_,q o⟩)
 .rw[<-hsz];exact⟨_,v? _ a_,a_,a_⟩
 .have e:b=s1.heap.objs.size:=by simpa using hb
  subst e;exact I2.oS (r_ _) hn
theorem XR {n c:i_}(h:n+64<c):n+2<c:=by lia
section
variable {X:Cx}
theorem Nz:∀k:i_,Þ (λ_ _=>false) k=0
 |0=>a_
 |k+1=>by unfold Þ;rw[Nz k];rfl
theorem XS (hc:X.calm=true)(hu:X.A.units+2<Â):ef X (.builtin "min") (λxs H Q=>∃(p:c_)(vs:b? V)(x:V)(ts:b? (b? f?)),xs=[.ref p]/\af X.K H p (x::vs)/\i7 X.K H (x::vs) ts/\ts.Pairwise (λa b=>HT.lexLt b a=false)/\Q x H):=by
 intro pins s U H xs us Q I r h;obtain⟨p,vs,x,ts,rfl,hq,ht,up,q⟩:=h;obtain⟨u,rfl,rx⟩:=vals1 r;cases rx;obtain⟨its,r',pl,hz⟩:=I.list hq;have tt:h_ (λu t=>∃a xs,u=t_ a/\adh s.heap a xs/\Y? xs.toList t) its ts:=Nm (λv u t hv hu=>by obtain⟨a,rfl,ha⟩:=hu;cases hv;obtain⟨ys,ry,hy,_⟩:=I.tuple ha;exact(xa0 a ys.toArray ⟨a_,hy,intsAre_of ry⟩)) r' ht;have hl:=r'.length;refine Xw (bt:=λ_ _=>false) (I.ok.hd hc) pl.isList (by rw[<-hl];simp) (λi j vi vj s' Q' E' XT hi hj k cY=>?_) λv h' tk hv k=>?_
 .have li:i<its.length:=(l?.mp hi).1;obtain⟨a,xs,ea,⟨o,ho,hr⟩,ia⟩:=sf (d:=ė) (e:=[]) tt li;obtain⟨b,ys,eb,⟨o',aV,cw⟩,ib⟩:=sf (d:=ė) (e:=[]) tt (show j<its.length by lia);rw[J',hi]at ea;rw[J',hj]at eb;have XU:vi=t_ a:=ea;have XW:vj=t_ b:=eb;subst XU XW;have lt:=q? tt;have EH:HT.lexLt (ts.getD i []) (ts.getD j [])=false:=by
   have h1:i<ts.length:=by lia
   have h2:j<ts.length:=by lia
   have:=ĵ.mp up j i h2 h1 XT;simpa[J',h1,h2]using this
  refine HT.UJ ⟨o,k a o ho,hr⟩ ⟨o',k b o' aV,cw⟩ ia ib (by rw[C_.in1_units];lia) ?_;rw[EH];exact cY
 .rw[Nz]at hv;cases r' with
  |cons r1 r2=>cases hv;exact(xa0 x H ⟨I.kept (t':=tk) k,r1,q⟩)
end
theorem XX {a D:c_}{o:L?}{kvs:b? (b? Key×V)}{g:TG}{ti:TT}{tk tv:TE}{U0:St}{H0:Hp}{QF:Hp->Prop}(Pv:i_->St->Hp->Prop)(h0:Pv 0 U0 H0)(hl:∀i U H,i<=kvs.length->Pv i U H->H a=some (.aB o (.dT kvs)))(hs:∀i kv b U H,kvs[i]?=some kv->H b=some (.tup (kv.1.map kV))->Pv i U H->g (.ref b) U H λ U2 H2=>ti U2 H2 λc H3=>if c=true then tk U2 H3 λy H4=>tv U2 H4 λz H5=>∃H6,ft H5 D y z H6/\Pv (i+1) U2 H6 else Pv (i+1) U2 H3)(hd:∀U H,Pv kvs.length U H->QF H):∃W:i_->i_->St->Hp->Prop,(∃m,W 0 m U0 H0)/\vD (si a o kvs) g ti tk tv D QF W:=by
 refine⟨λi m U H=>m=kvs.length-i/\i<=kvs.length/\Pv i U H,⟨kvs.length,by simp,T? _,h0⟩,?_⟩
 rintro i m U H ⟨rfl,hi,p⟩
 have q:=hl i U H hi p;by_cases aw:i<kvs.length
 .refine .inr ⟨⟨aw,q⟩,Pv (i+1),λ U' H' p'=>⟨kvs.length-(i+1),by lia,a_,aw,p'⟩,λx H' y=>?_⟩;obtain⟨e,kv,b,ek,ex,eb⟩:=y;subst e ex;exact hs i kv b U _ ek eb p
 .have e:i=kvs.length:=by lia
  subst e;exact .inl ⟨⟨r_ _,q⟩,hd U H p⟩
section
variable {X:Cx}
theorem XY:ef X (.builtin "isinstance") (λxs H Q=>∃x q,xs=[.ref x,.ref q]/\H q=some (.tup [.ty "list",.ty "tuple"])/\((∃ys,af X.K H x ys)\/∃ys,az X.K H x ys)/\Q (.bl true) H):=by
 intro pins s U H xs us Q I r h;obtain⟨x,q,rfl,hq,hx,k⟩:=h;obtain⟨u,w,rfl,r1,r2⟩:=vals2 r;cases r1;cases r2;obtain⟨ts,rt,ht,_⟩:=I.tuple (az.of hq);obtain⟨a,b,rfl,ra,rb⟩:=vals2 rt;obtain rfl:a=Ĩ "list":=ra;obtain rfl:b=Ĩ "tuple":=rb;obtain⟨⟨c,dd,dt,sl⟩,ho,hc,n,hd⟩:=ht;simp only at hc hd;subst hc hd;have fin:∀tk,EP X pins U Q (.bool true) {s with toks:=tk}:=λtk=>(xa0 (.bl true) H ⟨I.tok tk,a_,k⟩);rcases hx with⟨ys,hy⟩|⟨ys,hy⟩
 .obtain⟨its,_,pl,_⟩:=I.list hy;obtain⟨o,iW,eN,_⟩:=pl.isList;exact acw (its:=[.type "list",.type "tuple"]) aac I.aS ⟨o,iW,eN⟩ ho a_ (λz=>nomatch z) fin
 .obtain⟨its,_,⟨o,iW,eN,_⟩,_⟩:=I.tuple hy;exact acw (its:=[.type "list",.type "tuple"]) abX I.aS ⟨o,iW,eN⟩ ho a_ (λz=>nomatch z) fin
noncomputable def NA (a b:TI):TI:=λ U H R=>a U H R\/b U H R
theorem XZ {tg l:G?}{a b:TI}(h1:PI X tg l a)(h2:PI X tg l b):PI X tg l (NA a b):=by
 intro pins s U H R I h;rcases h with h|h
 .exact h1 pins s U H R I h
 .exact h2 pins s U H R I h
theorem X0 {tg l:G?}{tl:TE}(hl:PE X l tl):PI X tg l (NA (LJ X.K tl) (LK X.K tl)):=XZ (pz hl) (TH hl)
end
section
variable {X:Cx}{CX:fj}{k:i_}{C f:c_}{fd:l'}{ps ks:b? y?}{sp:Sp}{E:XK}{g:b? b_->b? b_->b? b_}{gV:b? V->b? V->b? V}{x:y?}{p pos:ğ}{e:G?}{es:b? G?}{fk:b? Ŷ}{t tk:TA}
theorem X1 {pins:b? (c_×L?)}{U:St}{H:Hp}{s:d?}{Q:VK}{us ws:b? b_}{vs zs:b? V}(M:Mk X.K C f)(F:zv X.prog X.w X.K X.mg X.base CX k f fd ps sp)(hr:aT (k+1) X.A)(hb:dN X.K fd ps ks g gV)(hx:Passes CX X E)(I:Inv X pins U H s)(r:Vals vs us)(rz:Vals zs ws)(h:∀x dx,H x=none->H dx=none->dx≠x->sp (gV (.ref x::vs) zs) (upd (upd H dx (.own x)) x (.ins C dx [])) (λv H2=>v= .aj/\Q (.ref x) H2) E):
  l_ (n_ X.prog X.w) X.A (ħ (.ref C) us (ks.zip ws)) (EP X pins U Q) X.xe s:=by
 have hq:=h (s.heap.objs.size+1) s.heap.objs.size (I.ag.fresh (Ÿ _)) (I.ag.fresh (r_ _)) (N? (Ĥ _));have I2:=Inv.made (C:=C) I;have r2:=hb.rel (h_.cons (show RelV (V.ref (s.heap.objs.size+1)) (t_ (s.heap.objs.size+1))from a_) r) rz;have hl:(g (t_ (s.heap.objs.size+1)::us) ws).length=ps.length:=by rw[<-q? r2];exact F.len _ _ _ _ hq
 refine Ĭ (L6 (f:=f) I.aS M.makes M.init (Ô.mp M.fn) (ć (F.run _ X.stack _ _ ⟨t_ (s.heap.objs.size+1)::us,ks.zip ws⟩ _ _ _ E (hr.make C us (ks.zip ws)) (I2.rH.make C us (ks.zip ws)) (hb.to _ _ _ I2.aS hl) r2 hq) λr s' cY=>?_));cases r with
 |error e=>exact hx pins U _ _ e s' I2 cY
 |ok fl=>
  cases fl with
  |ret u=>obtain⟨v,H',I3,rv,ev,q3⟩:=I2.after cY;subst ev;exact⟨rv,(xa0 (V.ref (s.heap.objs.size+1)) H' ⟨I3,a_,q3⟩)⟩
  |next=>exact J? cY
  |brk=>exact J? cY
  |cont=>exact J? cY
noncomputable def X2 (C:c_)(sp:Sp)(gV:b? V->b? V->b? V)(E:XK)(t tk:TA):TE:=λ U H Q=>t U H λvs H1=>tk U H1 λzs H2=>∀x dx,H2 x=none->H2 dx=none->dx≠x->sp (gV (.ref x::vs) zs) (upd (upd H2 dx (.own x)) x (.ins C dx [])) (λv H3=>v= .aj/\Q (.ref x) H3) E
theorem X3 (M:Mk X.K C f)(F:zv X.prog X.w X.K X.mg X.base CX k f fd ps sp)(hr:aT (k+1) X.A)(hg:Gl X x)(hm:X.mg x=some (.ref C))(hb:dN X.K fd ps ks g gV)(hx:Passes CX X E)(ha:PA X (e::es) t)(tO:PK X fk tk)(iV:e_ ((Ö pos (U_ fk X.env)).all (·.1.isSome)=true) aP1)(DC:e_ ((Ö pos (U_ fk X.env)).filterMap (·.1)=ks) aP1)(cI:e_ ((x==("__debug__":y?))=false) aP2)(he:e_ (x? (e::es) X.env=(false,U? e X.env)::x? es X.env) aP1)(cg:e_ (((W_ pos (x? (e::es) X.env)).any (·.1)||(Ö pos (U_ fk X.env)).any (·.1.isNone))=false) aP1):
  PE X (.Call (.Name x p) (e::es) fk pos) (X2 C sp gV E t tk):=by
 intro pins s U H Q I h;refine ò (mQ I hg hm ?_ cI);refine abD (h₀:=X.base) I.ok.mod.eJ M.kp iV (ah (ha pos pins s U H _ I h) λus s1 zQ=>?_) cg he;obtain⟨vs,H1,I1,r,q⟩:=zQ;refine ah (tO pos pins s1 U H1 _ I1 q) λws s2 ⟨zs,H2,I2,rz,q2⟩=>⟨I2.aS,?_⟩;rw[DC];exact X1 M F hr hb hx I2 r rz q2
end
section
variable {X:Cx}{K:e?}
theorem NB (hK:X.K=K):bz X (Q_ .NotIn) (DH K true):=by subst hK;exact Ae
end
noncomputable def DK {α:Type}:Ī α->Prop
 | .pure _=>O?
 | .raise _=>O?
 | .unsupported _=>O?
 | .finish _=>O?
 | .rule _ k=>DK (k ())
 | .at _ k=>DK (k ())
 | .load _ _ k=>∀o,DK (k o)
 | .update _ _ f k=>(∀o:L?,(f o).dict=o.dict/\(o.isFreed=false->(f o).isFreed=false))/\DK (k ())
 | .loadIfAlive _ k=>∀o,DK (k o)
 | .point _ k=>DK (k ())
 | .register _ _=>O?
 | .alloc _ k=>∀a,DK (k a)
 | .fresh k=>∀t,DK (k t)
 | .ask k=>∀x,DK (k x)
 | .handled _ k=>∀x,DK (k x)
 | .stack k=>∀x,DK (k x)
 |_=>w?
theorem X4 {α β:Type}{f:α->Ī β}(hf:∀a,DK (f a))(m:Ī α)(h:DK m):DK (m.bind f):=by
 induction m with
 |pure a=>exact hf a
 |raise _=>exact xv
 |unsupported _=>exact xv
 |finish _=>exact xv
 |rule _ k ih=>exact ih () h
 |«at» _ k ih=>exact ih () h
 |load _ _ k ih=>exact λo=>ih o (h o)
 |update _ _ _ k ih=>exact⟨h.1,ih () h.2⟩
 |loadIfAlive _ k ih=>exact λo=>ih o (h o)
 |point _ k ih=>exact ih () h
 |register _ _ _=>exact xv
 |alloc _ k ih=>exact λa=>ih a (h a)
 |fresh k ih=>exact λa=>ih a (h a)
 |ask k ih=>exact λa=>ih a (h a)
 |handled _ k ih=>exact λa=>ih a (h a)
 |stack k ih=>exact λa=>ih a (h a)
 |choose _ _ _ _=>exact J? h
 |os _ _ _ _=>exact J? h
 |call _ _ _ _ _ _=>exact J? h
 |newGen _ _ _=>exact J? h
 |genState _ _ _=>exact J? h
 |resume _ _ _ _ _=>exact J? h
 |yield _ _ _ _ _=>exact J? h
 |fork _ _ _=>exact J? h
 |thread _ _=>exact J? h
 |await _ _ _ _ _ _=>exact J? h
theorem zx {α β:Type}{m:Ī α}{f:α->Ī β}(hm:DK m)(hf:∀a,DK (f a)):DK (m >>= f):=X4 hf m hm
theorem EI {a:c_}:DK (load a):=λ_=>xv
theorem X5 {o:L?}:DK (alloc o):=λ_=>xv
theorem EJ:DK stack:=λ_=>xv
theorem NC {a:c_}{f:L?->L?}(h:∀o:L?,(f o).dict=o.dict/\(o.isFreed=false->(f o).isFreed=false)):DK (update a f):=⟨h,xv⟩
noncomputable def KD (h h':k?):Prop:=∀b o,h.get? b=some o->∃o',h'.get? b=some o'/\o'.dict=o.dict
theorem KD.refl (h:k?):KD h h:=λ_ o e=>⟨o,e,a_⟩
theorem KD.trans {a b c:k?}(x:KD a b)(y:KD b c):KD a c:=λi o e=>by obtain⟨o1,e1,d1⟩:=x i o e;obtain⟨o2,e2,d2⟩:=y i o1 e1;exact⟨o2,e2,d2.trans d1⟩
theorem KD.push (h:k?)(o:L?):KD h (h.push o):=λ_ o' e=>⟨o',f_ o e,a_⟩
theorem KD.update {h:k?}{a:c_}{f:L?->L?}(hf:∀o:L?,(f o).dict=o.dict/\(o.isFreed=false->(f o).isFreed=false)):KD h (h.update a f):=λb o e=>by
 by_cases z:a=b
 .subst z;exact⟨f o,R? f e ((hf o).2 (adn.mp e).2),(hf o).1⟩
 .exact⟨o,by rw[Û h f z];exact e,a_⟩
theorem X6 {α:Type}{M:aak}{Γ:PySem.Ctx}{Q:α->ğ->d?->Prop}{E:b_->ğ->d?->Prop}(t:Ī α)(p:ğ)(s:d?)(d:DK t)(h:ĳ M Γ t Q E p s):ĳ M Γ t (λa p' s'=>Q a p' s'/\KD s.heap s'.heap) (λe p' s'=>E e p' s'/\KD s.heap s'.heap) p s:=by
 induction t generalizing p s with
 |pure a=>rw[ĳ]at h⊢;exact⟨h,KD.refl _⟩
 |raise _=>rw[ĳ]at h⊢;exact⟨h,KD.refl _⟩
 |unsupported _=>rw[ĳ]at h;exact h.elim
 |finish _=>rw[ĳ]at h;exact h.elim
 |rule _ k ih=>rw[ĳ]at h⊢;exact ih () p s d h
 |«at» p' k ih=>rw[ĳ]at h⊢;exact ih () p' s d h
 |load a x k ih=>rw[ĳ]at h⊢;obtain⟨o,e,h⟩:=h;exact⟨o,e,ih o p s (d o) h⟩
 |update a x f k ih=>rw[ĳ]at h⊢;obtain⟨e,h⟩:=h;exact⟨e,afv M Γ (k ()) (λ_ _ s' q=>⟨q.1,(KD.update d.1).trans q.2⟩) (λ_ _ s' q=>⟨q.1,(KD.update d.1).trans q.2⟩) p _ (ih () p _ d.2 h)⟩
 |loadIfAlive a k ih=>rw[ĳ]at h⊢;exact ih _ p s (d _) h
 |point _ k ih=>rw[ĳ]at h⊢;exact ih () p s d h
 |register _ _ _=>rw[ĳ]at h;exact h.elim
 |alloc o k ih=>rw[ĳ]at h⊢;exact afv M Γ (k s.heap.objs.size) (λ_ _ s' q=>⟨q.1,(KD.push _ o).trans q.2⟩) (λ_ _ s' q=>⟨q.1,(KD.push _ o).trans q.2⟩) p _ (ih _ p _ (d _) h)
 |fresh k ih=>rw[ĳ]at h⊢;exact ih _ p _ (d _) h
 |ask k ih=>rw[ĳ]at h⊢;exact ih _ p s (d _) h
 |handled own k ih=>rw[ĳ]at h⊢;exact ih _ p s (d _) h
 |stack k ih=>rw[ĳ]at h⊢;exact ih _ p s (d _) h
 |choose _ _ _ _=>exact J? d
 |os _ _ _ _=>exact J? d
 |call _ _ _ _ _ _=>exact J? d
 |newGen _ _ _=>exact J? d
 |genState _ _ _=>exact J? d
 |resume _ _ _ _ _=>exact J? d
 |yield _ _ _ _ _=>exact J? d
 |fork _ _ _=>exact J? d
 |thread _ _=>exact J? d
 |await _ _ _ _ _ _=>exact J? d
theorem vH {α:Type}{M:aak}{A:C_}{t:Ī α}{Q:α->d?->Prop}{E:b_->d?->Prop}{s:d?}(d:DK t)(h:l_ M A t Q E s):l_ M A t (λa s'=>Q a s'/\KD s.heap s'.heap) (λe s'=>E e s'/\KD s.heap s'.heap) s:=λΓ p X7=>X6 t p s d (h Γ p X7)
theorem X8 {v:b_}:DK (fieldsOf v):=by
 unfold fieldsOf;split
 .refine zx EI λo=>?_;split<;>exact xv
 .exact xv
theorem Ay {v:b_}{i:i_}:DK (field v i):=by unfold field;refine zx X8 λvs=>?_;split<;>exact xv
theorem X9 (f:E? b_->E? b_)(o:L?):(þ f o).dict=o.dict/\(o.isFreed=false->(þ f o).isFreed=false):=by obtain⟨c,d,dt,sl⟩:=o;cases dt<;>exact⟨a_,λh=>h⟩
theorem EK {v x:b_}{i:i_}:DK (aeV v i x):=by
 unfold aeV;split
 .unfold updateField;refine zx EI λo=>?_;split
  .split
   .exact NC (X9 _)
   .exact xv
  .exact xv
 .exact xv
theorem EL {e:b_}{f:g? c_}:DK (setFlight e f):=by
 unfold setFlight;refine zx Ay λtb=>?_;split
 .exact EK
 .exact xv
theorem ND:∀l:b? Ţ,DK (readyFrames l)
 |[]=>xv
 | env::outer=>by
  unfold readyFrames;split
  .refine zx EI λo=>?_;split
   .exact xv
   .refine zx ?_ λim=>zx ?_ λback=>zx (NC λo=>⟨a_,λh=>?_⟩) λ_=>ND outer
    .unfold behindIsImport;split
     .exact xv
     .split
      .exact xv
      .exact zx Ay λ_=>xv
    .unfold keptBack;split
     .split
      .exact xv
      .refine zx ?_ λ_=>xv;unfold underTheClaimsCaller;exact zx EJ λ_=>xv
     .exact xv
    .obtain⟨c,d,dt,sl⟩:=o;cases dt<;>exact h
  .exact xv
theorem Ya {env:Ţ}:DK (abc env):=by
 unfold abc;refine zx (zx EJ λ_=>xv) λes=>zx ?_ λr=>?_
 .cases es.dropWhile (·.frame != env.frame)with
  |nil=>exact xv
  |cons e r=>unfold frameObject;exact zx (ND _) λ_=>xv
 .split<;>exact xv
theorem Yb {ty:ë}{vs:b? b_}:DK (newFields ty vs):=by
 unfold newFields newObj;dsimp only;have rest:DK (newObjAsIs (Ĩ ty) (acd vs.toArray)):=by unfold newObjAsIs;exact zx X5 λ_=>xv
 split
 .exact zx xv λ_=>rest
 .exact rest
theorem Yc {f:c_}{b:o?}:DK (acE f b):=by unfold acE;refine zx EJ λYd=>?_;split<;>exact xv
theorem NF {e:b_}{env:Ţ}:DK (acr e env):=by
 unfold acr;split
 .have rest:∀{head:b_}{f:c_},DK (do aeV e 1 (<-EntryCells.newEntry head (<-abc env) .none (ŝ f) .none (<-acE f (head != .none)))):=λ{head f}=>zx Ya λa=>zx Yc λpl=>zx Yb λb=>EK;refine zx Ay λhead=>?_;split
  .refine zx Ay λx=>?_;split
   .exact xv
   .exact zx EK λ_=>rest
  .exact rest
 .exact xv
theorem NG {env:Ţ}{e:b_}:DK (adU env e):=zx NF λ_=>EL
end L2
namespace PySem
section
variable {prog:D'}{w:I?}{A:C_}{E:b_->d?->Prop}{h:k?}{g:E? abY}{d:Drawn}{t:i_}{os:OsState}
variable {nm q:y?}{C N:c_}{bs bm pG:b? b_}{hdct:o?}{sn:b? y?}{sub:b? b_}{ab:o?}{col:g? o?}{dd:g? c_}{k0 k1 k2 k3 k5:g? b_}{Bq newId jA:ë}
theorem Ye (F:ExcBaseFacts Bq newId jA pG)(T:aaq h pG bm){rest:b? b_}{fI:c_}{oI:L?}{Q:Fin->d?->Prop}(hC:h.get? C=some (Ė nm q C N bs bm hdct sn sub ab col dd k0 k1 k2 k3 k5 newId))(L:V? (n_ prog w) h (ņ (.ref C) "__init__") (some (.ref fI)))(EM:h.get? fI=some oI)(EN:oI.cls= .type "function")(cJ:rest.length<=k_)(hq:∀h' e,aaD h h' e (.ref C) rest->l_ (n_ prog w) A (ħ (.ref fI) (.ref e::rest)) (λr s'=>r= .none/\Q (.done (.ret (.ref e))) s') E ⟨h',g,d,t,os⟩):
  l_ (n_ prog w) A (Builtin.«type.__call__» ⟨.ref C::rest,[]⟩) Q E ⟨h,g,d,t,os⟩:=by
 repeat(first|with_reducible refine P? hC ?_|with_reducible refine wpAny_madeBy_exc hC ?_|wp_step)
 refine codeAny_call_builtin_code (ķ _ F.quiet) (wpAny_check_new_subT F T hC (codeAny_exc_new_subT F T hC ?_ cJ));show l_ _ _ _ _ _ _;have hk:∀b o,h.get? b=some o->((h.push {cls:=.type "tuple",data:=.seq rest.toArray}).push {cls:=.ref C,data:=.fields #[.ref h.objs.size,.none,.none,.none,.bool false,.none]}).get? b=some o:=λb o e=>f_ _ (f_ _ e);have vI:((h.push {cls:=.type "tuple",data:=.seq rest.toArray}).push {cls:=.ref C,data:=.fields #[.ref h.objs.size,.none,.none,.none,.bool false,.none]}).get? (h.objs.size+1)=some {cls:=.ref C,data:=.fields #[.ref h.objs.size,.none,.none,.none,.bool false,.none]}:=by heap_get
 have hm:aaD h ((h.push {cls:=.type "tuple",data:=.seq rest.toArray}).push {cls:=.ref C,data:=.fields #[.ref h.objs.size,.none,.none,.none,.bool false,.none]}) (h.objs.size+1) (.ref C) rest:=⟨hk,Ŀ (Ÿ _),h.objs.size,vI,Ŀ (r_ _),f_ _ (adE a_ a_)⟩;have cY:=hq _ _ hm;have EO:=hk _ _ hC;have ER:=hk _ _ EM;have Yf:(t_ C::bm).contains (.ref C)=true:=by simp
 unfold abQ;repeat(first|with_reducible refine P? vI ?_|(with_reducible refine aaw EO ?_;rw[Yf])|wp_step)
 show l_ _ _ (ņ (.ref C) _) _ _ _;refine L _ _ _ _ hk (M? (d_ ?_));unfold bindSpecial;refine d_ (acC (T:="function") ⟨_,ER,EN⟩ ?_);rw[m_ (by decide)];refine j_ (d_ (G_ cY (λr s' hr=>?_) λ_ _ x=>x));obtain⟨rfl,hQ⟩:=hr;wp_walk;exact hQ
theorem Yg (F:ExcBaseFacts Bq newId jA pG)(T:aaq h pG bm){rest:b? b_}{fI:c_}{oI:L?}{Q:b_->d?->Prop}(hC:h.get? C=some (Ė nm q C N bs bm hdct sn sub ab col dd k0 k1 k2 k3 k5 newId))(L:V? (n_ prog w) h (ņ (.ref C) "__init__") (some (.ref fI)))(EM:h.get? fI=some oI)(EN:oI.cls= .type "function")(cJ:rest.length<=k_)(hq:∀h' e,aaD h h' e (.ref C) rest->l_ (n_ prog w) (A.under (.builtin "type.__call__" ⟨.ref C::rest,[]⟩)) (ħ (.ref fI) (.ref e::rest)) (λr s'=>r= .none/\Q (.ref e) s') E ⟨h',g,d,t,os⟩):
  l_ (n_ prog w) A (ħ (.ref C) rest) Q E ⟨h,g,d,t,os⟩:=by
 have f1:=tc_lookup;have f2:=tc_bind (.ref C);have hT:(⟨h,g,d,t,os⟩:d?).TypeIs (.ref C) "type":=⟨_,hC,a_⟩;refine Ĭ (aew ?_);show l_ _ _ (callAny (.ref C) _) _ _ _;repeat(any_goals (first|assumption|with_reducible refine P? hC ?_|wp_step))
 refine⟨a_,?_⟩;exact codeAny_call_builtin_at (ķ _ (by decide+kernel)) entry_typeCall (wpAny_check_type_call_sub hC (Ye F T hC L EM EN cJ λh' e hm=>hq h' e hm))
theorem Yh {s:d?}{env:Ţ}{x:Ī b_}{Q:Flow->d?->Prop}(eO:bm.contains (.type "BaseException")=true)(hh:A.handled=none)(hx:l_ (n_ prog w) A x (λv s1=>∃e oe t,v= .ref e/\s1.heap.get? C=some (Ė nm q C N bs bm hdct sn sub ab col dd k0 k1 k2 k3 k5 newId)/\s1.heap.get? e=some oe/\oe.cls= .ref C/\oe.data= .fields #[.ref t,.none,.none,.none,.bool false,.none]/\E (.ref e) s1) E s):
  l_ (n_ prog w) A (raiseStmt env (some x) none) Q E s:=by
 have ES:(t_ C::bm).contains (.type "BaseException")=true:=by rw[adu,eO,ť]
 unfold raiseStmt;refine d_ (G_ hx (λv s1 q1=>?_) λ_ _ z=>z);obtain⟨e,oe,t,rfl,hC,he,hc,hd,hE⟩:=q1;obtain⟨hp,g,dr,tk,os⟩:=s1;obtain⟨c0,di,da,sl⟩:=oe;dsimp only at hc hd;subst hc hd;repeat(first|with_reducible refine P? he ?_|with_reducible refine P? hC ?_|(with_reducible refine aaw hC ?_;rw[ES])|wp_step)
 exact wpAny_raiseNew_none hh hE
end
end PySem
namespace PySem
open Builtin Builtin.ObjectAttr
noncomputable abbrev Az:b? b_:=[.type "ValueError",.type "Exception",.type "BaseException",.type "object"]
section
variable {prog:D'}{w:I?}{A:C_}{E:b_->d?->Prop}{h:k?}{g:E? abY}{d:Drawn}{t:i_}{os:OsState}
variable {nm q:y?}{C N x:c_}{bs bm:b? b_}{hdct:o?}{sn:b? y?}{sub:b? b_}{ab:o?}{col:g? o?}{dd:g? c_}{k0 k1 k2 k3 k5:g? b_}{newId:ë}{name:y?}{v:b_}{o:L?}
theorem NH {M:aak}{α:Type}{p:Ī α}{r:α}{Q:α->d?->Prop}(L:V? M h p r)(hq:Q r ⟨h,g,d,t,os⟩):l_ M A p Q E ⟨h,g,d,t,os⟩:=L _ _ _ _ (λ_ _ e=>e) hq
theorem Yi {self:b_}(T:aaq h Az bm):refuseLoop self "__setattr__" bm=ó ():=by
 induction T with
 |base=>exact Ä.passes self
 |own _ _ _ _ ih=>rw[aeW];exact ih
theorem Yj {tk:Tok}{Q:Fin->d?->Prop}(T:aaq h Az bm)(hC:h.get? C=some (Ė nm q C N bs bm true sn sub ab col dd k0 k1 k2 k3 k5 newId))(Ln:V? (n_ prog w) h (ņ (.ref C) name) none)(hx:h.get? x=some o)(hc:o.cls= .ref C)(ET:∀c,o.data≠.cls c)(EU:o.dict=none)(hq:∀h' fR dx,h.get? dx=none->dx≠x->h'.get? x=some {o with dict:=some dx}->h'.Ns1 dx (λy=>if y=name then some v else none)->(∀b ob,b≠x->h.get? b=some ob->h'.get? b=some ob)->Q (.done (.ret .none)) ⟨h',g,d,fR,os⟩):
  l_ (n_ prog w) A (Builtin.«object.__setattr__» ⟨[.ref x,.str name tk,v],[]⟩) Q E ⟨h,g,d,t,os⟩:=by
 have vJ:=Yi (self:=.ref x) T;unfold Builtin.«object.__setattr__»;repeat(first|rw[refuse_eq]|(rw[aeW,vJ])|(with_reducible refine P? hx ?_;rw[hc])|with_reducible refine wpAny_mroOf_exc hC ?_|with_reducible refine NH Ln ?_|wp_step)
 rw[EU,j? (by simp[typeHasDict])];split
 .rename_i eL;cases eL
 split
 .rename_i c eL;exact w_ eL (ET c)
 have uW:(h.push {cls:=.type "dict",data:=.dict #[]}).get? x=some o:=f_ _ hx;have vA:x≠h.objs.size:=N? (r? hx);refine d_ (wpAny_alloc' (d_ (wpAny_update' uW (j_ ?_))));have Yk:((h.push {cls:=.type "dict",data:=.dict #[]}).update x λo=>{cls:=o.cls,dict:=some h.objs.size,data:=o.data,slots:=o.slots}).get? h.objs.size=some {cls:=.type "dict",data:=.dict #[]}:=(Ŋ _ _ _ _ vA.symm).trans (adE a_ a_);show l_ _ _ (storeInDict h.objs.size (.str name tk) name v) _ _ _;unfold storeInDict newKeyGuard;refine d_ (j_ (d_ (wpAny_nsSet1 (k?.Ns1.of_empty (xa1 _ (#[]) _ ⟨Yk,a_,λe he=>w_ he (by simp),λ_=>a_⟩)) λh' mP hs=>?_)));obtain⟨oD,Ub,Uc,Dy,Dz,iT⟩:=mP.count (İ.cons name v İ.nil);refine d_ (ad8 Dy (by rw[Dz];exact aeb (P_ iT (by rw[C?,ź,Ĳ];lia))) ?_);wp_walk;refine hq h' _ h.objs.size (Ŀ (r_ _)) vA.symm ?_ mP λb ob Yl hb=>(hs.2 b (N? (r? hb))).trans ((Ŋ _ _ _ _ Yl).trans (f_ _ hb));refine(hs.2 x vA).trans (R? _ uW ?_);have nW:=(adn.mp hx).2;obtain⟨oc,od,Ym,kG⟩:=o;cases Ym<;>first|rfl|exact nW
theorem Yn {M:aak}{eT:b_}{Q:acB->d?->Prop}(T:aaq h Az bm)(hC:h.get? C=some (Ė nm q C N bs bm hdct sn sub ab col dd k0 k1 k2 k3 k5 newId))(hx:h.get? x=some o)(hc:o.cls= .ref C)(hq:Q () ⟨h,g,d,t,os⟩):l_ M A (ū "object.__setattr__" ⟨[.ref x,eT,v],[]⟩) Q E ⟨h,g,d,t,os⟩:=by
 have ES:(t_ C::bm).contains (.type "object")=true:=by rw[adu,T.hasType Ä.hasOwner,ť]
 have ha:=Ä.args (.ref x) eT v;simp only[ū,Ä.kind,Ä.split];refine d_ ?_;unfold abQ;repeat(first|(with_reducible refine P? hx ?_;rw[hc])|(with_reducible refine aaw hC ?_;rw[ES])|wp_step)
 exact hq
theorem Yo {Q:acB->d?->Prop}(T:aaq h Az bm)(hC:h.get? C=some (Ė nm q C N bs bm true sn sub ab col dd k0 k1 k2 k3 k5 newId))(Ls:V? (n_ prog w) h (ņ (.ref C) "__setattr__") (some (.builtin "object.__setattr__")))(Ln:V? (n_ prog w) h (ņ (.ref C) name) none)(hx:h.get? x=some o)(hc:o.cls= .ref C)(ET:∀c,o.data≠.cls c)(EU:o.dict=none)(hq:∀h' fR dx,h.get? dx=none->dx≠x->h'.get? x=some {o with dict:=some dx}->h'.Ns1 dx (λy=>if y=name then some v else none)->(∀b ob,b≠x->h.get? b=some ob->h'.get? b=some ob)->Q () ⟨h',g,d,fR,os⟩):
  l_ (n_ prog w) A (adS (.ref x) name v) Q E ⟨h,g,d,t,os⟩:=by
 have f3:=Ä.slot.bind (.ref x);unfold adS callSpecial? specialOf;repeat(any_goals (first|assumption|(with_reducible refine P? hx ?_;rw[hc])|with_reducible refine NH Ls ?_|wp_step))
 refine ā Ä.slot.plain Ä.entry (Yn T hC hx hc (Yj T hC Ln hx hc ET EU λh' fR dx a1 a2 a3 a4 a5=>?_));repeat(any_goals (first|assumption|wp_step))
 exact hq h' fR dx a1 a2 a3 a4 a5
end
end PySem
namespace L2
open PySem PySem.Spec PyProof.Rows
noncomputable def AA (K:e?)(C f:c_):o?:=(match K.lookup f with
 |some o=>o.cls== .type "function"
 |none=>false)&&match K.lookup C with
 |some ⟨.type "type",_,.cls cd,sl⟩=>(match cd.mro,sl.toList with
  | .ref C'::bm,[_,_,_,_,some (.builtin n),_]=>C'==C&&n=="ValueError.__new__"&&!cd.hasDel&&cd.hasDict&&PySem.W.tailIn K uQ bm
  |_,_=>false)
 |_=>false
theorem EV {K:e?}{h:k?}{C f:c_}(X:K.In h)(q:AA K C f=true):(∃oI,h.get? f=some oI/\oI.cls= .type "function")/\∃bm N nm qn bs sn sub ab col dd k0 k1 k2 k3 k5,h.get? C=some (Ė nm qn C N bs bm true sn sub ab col dd k0 k1 k2 k3 k5 "ValueError.__new__")/\aaq h uQ bm:=by
 unfold AA at q;rw[L_]at q;obtain⟨q0,q⟩:=q;refine⟨?_,?_⟩
 .split at q0
  .rename_i o ho;exact⟨o,X _ _ ho,Ô.mp q0⟩
  .cases q0
 split at q
 .rename_i dd cd sl ho;split at q
  .rename_i C' bm k0 k1 k2 k3 n k5 hm hs;simp only[L_,Ô,adJ]at q;obtain⟨⟨⟨⟨rfl,rfl⟩,i5⟩,NI⟩,ht⟩:=q;obtain⟨nm,bs,mro,ns,qn,hd,sn,sub,ab,col,del⟩:=cd;dsimp only at hm i5 NI;subst hm i5 NI;have pH:sl=#[k0,k1,k2,k3,some (.builtin "ValueError.__new__"),k5]:=by
    obtain⟨l⟩:=sl;simp only at hs;rw[hs]
   subst pH;exact(xa8 bm ns nm qn bs sn sub ab col dd k0 k1 k2 k3 k5 ⟨X _ _ ho,abV X ht⟩)
  .cases q
 .cases q
structure AB (K:e?)(C f:c_)(x:y?):Prop where
 cls:AA K C f=true
 Yp:J_ K (.ref C) "__init__"=some (some (.ref f))
 sa:J_ K (.ref C) "__setattr__"=some (some (.builtin "object.__setattr__"))
 ga:J_ K (.ref C) "__getattribute__"=some (some (.builtin "BaseException.__getattribute__"))
 gn:J_ K (.ref C) "__getattr__"=some none
 no:J_ K (.ref C) x=some none
noncomputable def vK (ea C:c_):HO:=.ext λh=>∃t sl,h.get? ea=some ⟨.ref C,none,.fields #[.ref t,.none,.none,.none,.bool false,.none],sl⟩
noncomputable def pS (ea C d:c_):HO:=.ext λh=>∃t sl,h.get? ea=some ⟨.ref C,some d,.fields #[.ref t,.none,.none,.none,.bool false,.none],sl⟩
section
variable {X:Cx}{pins:b? (c_×L?)}{U:St}{H:Hp}{s:d?}
theorem Inv.vL (I:Inv X pins U H s)(hex:X.ex=[]){b:c_}(e:s.heap.get? b=none):X.ar.heap.get? b=none:=by
 cases q:X.ar.heap.get? b with
 |none=>rfl
 |some o=>have base:=I.base;rw[hex]at base;obtain⟨o1,e1⟩:=base.there b o q (by simp);rw[e]at e1;cases e1
noncomputable def Yr (C:c_)(ta tv:TE)(f:y?):TS:=λD U H=>tv U H λy H1=>ta U H1 λx H2=>∃a,x= .ref a/\H2 a=some (vK a C)/\∀d,H2 d=none->D.nx U (upd (upd H2 a (pS a C d)) d (.xd [(f,y)]))
theorem Ys {C fi:c_}{o value:G?}{f:y?}{pos pos':ğ}{ta tv:TE}(hI:AB X.K C fi f)(hex:X.ex=[])(ha:PE X o ta)(hv:PE X value tv)(hs:aan value (some (.Attribute o f pos')) pos.line X.env=ó false):PS X (.Assign [.Attribute o f pos'] value pos) (Yr C ta tv f):=by
 intro pins s U H D I h;refine aa0 (ah (hv pins s U H _ I h) λu s1 ⟨y,H1,I1,ry,q⟩=>ah (ha pins s1 U H1 _ I1 q) λov s2 zQ=>?_) hs;obtain⟨x,H2,I2,rx,a,ex,ea,q2⟩:=zQ;subst ex;obtain rfl:ov=t_ a:=rx;obtain⟨⟨t,sl,hx⟩,_,_⟩:=I2.ag a _ ea;obtain⟨_,bm,N,nm,qn,bs,sn,sub,ab,col,dd,k0,k1,k2,k3,k5,hC,T⟩:=EV I2.aS hI.cls;obtain⟨hp,g,dr,tk,os⟩:=s2;refine Yo T hC (À I2.aS hI.sa) (À I2.aS hI.no) hx a_ (λc z=>by cases z) a_ λh' fR d n1 n2 e1 e2 kp=>?_;have rW:H2 d=none:=by
  cases z:H2 d with
  |none=>rfl
  |some u=>obtain⟨o',e'⟩:=(I2.ag d u z).there;rw[show hp.get? d=none from n1]at e';cases e'
 have I3:Inv X pins U (upd H2 a (pS a C d)) ⟨h',g,dr,fR,os⟩:=by refine I2.write (x:=a) (e:=a) (h':=h') (t':=fR) (by rw[ea];exact xv) (.inl a_) (λb u hb e=>kp b u hb e) ⟨_,e1⟩ ⟨(xa0 t sl e1),⟨_,e1⟩,λh1 h2 p k=>?_⟩;obtain⟨t',oR,e'⟩:=p;exact(xa0 t' oR (k _ e'))
 have nZ:hp.get? d=none:=n1;have hG:∀b o,hp.get? b=some o->b≠d:=λb o e z=>by rw[z,nZ]at e;cases e
 have I4:Inv X pins U (upd (upd H2 a (pS a C d)) d (.xd [(f,y)])) ⟨h',g,dr,fR,os⟩:=by
  refine I3.En hex (by rw[jd n2];exact rW) (I2.vL hex nZ) ?_ (λz c e=>?_) (λp lZ=>?_) ⟨_,e2,λz=>?_⟩
  .obtain⟨m,⟨o',_,_,aV,_⟩,_⟩:=I2.loc;exact(hG _ _ aV).symm
  .obtain⟨v',o',aV,_⟩:=I2.cell z c e;exact hG _ _ aV
  .exact hG _ _ (I2.pin p lZ).1
  .rw[ð];by_cases hz:z=f
   .subst hz;simp only[ŧ,abz];exact ry
   .have:(z==f)=false:=by simpa using hz
    rw[this,j? hz];exact xv
 exact(xa0 U _ ⟨I4,q2 d rW⟩)
theorem Inv.drop {a:c_}{φ:k?->Prop}(I:Inv X pins U H s)(ha:H a=some (.ext φ)):Inv X pins U (λb=>if b=a then none else H b) s:=by
 have ne:∀{b:c_}{u:HO},H b=some u->(∀ψ,u≠.ext ψ)->b≠a:=λ{b u} e h z=>by subst z;rw[ha]at e;exact h _ (s_ e).symm
 have at_:∀{b:c_},b≠a->(λb=>if b=a then none else H b) b=H b:=λh=>j? h;have nn:∀{b:c_},H b=none->(λb=>if b=a then none else H b) b=none:=λ{b} h=>by
  by_cases z:b=a
  .exact m_ z
  .exact(j? z).trans h
 refine⟨I.ok,I.os,I.bare,⟨I.base.keep,I.base.slot,λb ob e n hx=>nn (I.base.free b ob e n hx),I.base.there,λb xs q=>?_,λb ob v q=>?_,λb ps q=>?_⟩,I.loc,I.cell,nn I.free,λx c e=>nn (I.dH x c e),λp hp=>?_,λb v e=>?_,I.len⟩
 .have q':=I.base.dY b xs q;exact(at_ (ne q' λ_ z=>nomatch z)).trans q'
 .have q':=I.base.dG b ob v q;exact(at_ (ne q' λ_ z=>nomatch z)).trans q'
 .obtain⟨more,z⟩:=I.base.eI b ps q;exact⟨more,(at_ (ne z λ_ z=>nomatch z)).trans z⟩
 .obtain⟨q1,q2,q3⟩:=I.pin p hp;exact⟨q1,nn q2,q3⟩
 .by_cases z:b=a
  .have e':(if b=a then none else H b)=some v:=e;rw[m_ z]at e';cases e'
  .have e':H b=some v:=(at_ z).symm.trans e;exact(I.ag b v e').cG (λ_ _ _ q=>q) (λc q=>(at_ (ne q λ_ z=>nomatch z)).trans q) λc xs q=>(at_ (ne q λ_ z=>nomatch z)).trans q
end
noncomputable def de (P:D')(w:I?):fj:=λl H s E e s'=>∃ea cls dd H',e= .ref ea/\rY P w l H H' s s' ea cls/\(∃oe,s'.heap.get? ea=some oe/\oe.dict=dd)/\E cls dd H'
section
variable {P:D'}{w:I?}{K:e?}{mg:y?->g? b_}{base:k?}{N:b? y?}{qual:y?}{scope:Ã}{f:c_}{cd:b_}{A:C_}{outer:b? Ţ}{s:d?}{H:Hp}{E:XK}
theorem Yt:Passes (de P w) (cZ (de P w) P w K mg base N qual scope f cd A outer s H E) E:=by
 intro pins U H1 s1 e s' I h;obtain⟨ea,cls,dd,H',rfl,F,⟨oe,he,dA⟩,q⟩:=h;obtain⟨Bq,t,hf,k1,k2⟩:=F.M6;show l_ (n_ P w) (A.deeper (È qual scope s.heap.objs.size f cd)) (adU (È qual scope s.heap.objs.size f cd) (.ref ea)) _ _ s';refine G_ (vH NG (wpAny_leaves_onW (E:=λ_ _=>w?) (Q:=λ_ bU=>∃h',bU={s' with heap:=h'}/\ď Bq outer ea cls (.ref t) h'/\s'.heap.UpToSlots h') I.ok.frames (L:=s.heap.objs.size) a_ hf λh' dB hu=>⟨h',a_,dB,hu⟩)) (λ_ bU zQ=>?_) (λ_ _ c=>c.1.elim);obtain⟨⟨h',e1,dB,hu⟩,kd⟩:=zQ;subst e1;obtain⟨o2,e2,d2⟩:=kd ea oe he;exact(xa2 ea cls dd H' ⟨a_,Wc I a_ F dB hu k1 k2,⟨o2,e2,d2.trans dA⟩,q⟩)
theorem NJ {pins:b? (c_×L?)}{U:St}{H1:Hp}{s1:d?}{ea t:c_}{oe:L?}(I:Inv (cZ (de P w) P w K mg base N qual scope f cd A outer s H E) pins U H1 s1)(he:s1.heap.get? ea=some oe)(hd:oe.data= .fields #[.ref t,.none,.none,.none,.bool false,.none])(new:s.heap.get? ea=none)(hn:H1 ea=none)(q:E oe.cls oe.dict H1):(cZ (de P w) P w K mg base N qual scope f cd A outer s H E).xe (.ref ea) s1:=by
 have cv:∀b:c_,b∉([]:b? c_):=λb=>by simp
 have ib:Un (bf outer) [] H H1 s.heap s1.heap:=I.base;obtain⟨cX,mh⟩:∃cX,cX=È qual scope s.heap.objs.size f cd::outer:=⟨_,a_⟩;have AD:∀env∈cX,∀b,env.frame=some b->b∈ea::bf cX:=λenv he b hb=>q_ _ (aaF.mpr ⟨env,he,hb⟩);have jB:∀b o,s1.heap.get? b=some o->b≠ea->b∉bf cX->(ý s1.heap (ea::bf cX)).get? b=some o:=λb o e h1 h2=>abC _ e λz=>(D?.mp z).elim h1 h2;have kN:∀b o,s.heap.get? b=some o->b∉bf outer->b∉bf cX:=λb o e hb=>by rw[mh];exact I.kN e hb
 have AE:∀b o,s.heap.get? b=some o->b≠ea:=λb o e z=>by rw[z,new]at e;cases e
 have nI:∀b u,H1 b=some u->b≠ea:=λb u e z=>by rw[z,hn]at e;cases e
 have lH:∀b u,H1 b=some u->b∉bf cX:=λb u e z=>by rw[mh]at z;have:=I.zH b z;rw[e]at this;cases this
 have IS:s1.heap.FunFrames (ý s1.heap (ea::bf cX)) (È qual scope s.heap.objs.size f cd::outer):=by rw[mh];exact PySem.W.funFrames_hide I.stack (by rw[mh]at AD;exact AD)
 show l_ (n_ P w) (A.deeper (È qual scope s.heap.objs.size f cd)) (adU (È qual scope s.heap.objs.size f cd) (.ref ea)) _ _ s1;refine G_ (vH NG (wpAny_leaving_firstW (E:=λ_ _=>w?) (base:=ý s1.heap (ea::bf cX)) (a0:=.ref t) (Q:=λ_ bU=>∃h',bU={s1 with heap:=h'}/\k?.LeftW (ý s1.heap (ea::bf cX)) (È qual scope s.heap.objs.size f cd::outer) ea oe.cls (.ref t) s1.heap h') I.ok.frames IS a_ he (λb o q=>abW _ q) (Š _ (by simp)) hd a_ a_ λh' hL=>⟨h',a_,hL⟩)) (λ_ bU ⟨⟨h',e1,hL⟩,kd⟩=>?_) (λ_ _ c=>c.1.elim);subst e1;obtain⟨o2,e2,d2⟩:=kd ea oe he;obtain⟨x1,⟨_,_,x2⟩,x3,x4⟩:=hL;have cG:∀b o,s1.heap.get? b=some o->b≠ea->b∉bf cX->h'.get? b=some o:=λb o e h1 h2=>x1 _ _ (jB b o e h1 h2);have slots:∀b o,s.heap.get? b=some o->H b=none->b∈bf outer->∃sl,h'.get? b=some {o with slots:=sl}:=λb o e n hb=>by
  obtain⟨sl,e1⟩:=ib.slot b o e n hb (cv b);obtain⟨_,o3,e3,nf⟩:=I.ok.fg.mem hb;have NK:s.heap.get? b=some o3:=e3;rw[e]at NK;cases NK;obtain⟨uP,e4⟩:=x4 b _ e1 nf;exact⟨uP,e4⟩
 refine(xa2 ea oe.cls oe.dict H1 ⟨a_,⟨I.os,I.bare,⟨λb o e n hb _=>?_,λb o e n hb _=>slots b o e n hb,λb o e n _=>ib.free b o e n (cv b),λb o e _=>?_,ib.dY,ib.dG,ib.eI⟩,λb u e=>?_,(xa0 (ý s1.heap (ea::bf cX)) t ⟨⟨x1,Š _ (by simp),x2,x3⟩,λb o o' e e' hb=>?_,λb u o' q e'=>?_⟩),new⟩,⟨o2,e2,d2⟩,q⟩)
 .exact cG b o (ib.keep b o e n hb (cv b)) (AE b o e) (kN b o e hb)
 .by_cases hb:b∈bf outer
  .obtain⟨sl,q⟩:=slots b o e (I.ok.iM b hb) hb;exact⟨_,q⟩
  .obtain⟨o1,e1⟩:=ib.there b o e (cv b);exact⟨o1,cG b o1 e1 (AE b o e) (kN b o e hb)⟩
 .refine(I.ag b u e).cG (λc v hc q=>?_) (λ_ q=>q) λ_ _ q=>q;rcases hc with z|z
  .subst z;exact cG _ _ q (nI _ _ e) (lH _ _ e)
  .exact cG _ _ q (nI _ _ z) (lH _ _ z)
 .obtain⟨o1,e1⟩:=ib.there b o e (cv b);have z:=cG b o1 e1 (AE b o e) (kN b o e hb);have e2:h'.get? b=some o':=e';rw[z]at e2;cases e2;exact jB b _ e1 (AE b o e) (kN b o e hb)
 .obtain⟨o1,e1⟩:=(I.ag b u q).there;have z:=cG b o1 e1 (nI _ _ q) (lH _ _ q);have e2:h'.get? b=some o':=e';rw[z]at e2;cases e2;exact jB b _ e1 (nI _ _ q) (lH _ _ q)
end
section
variable {P:D'}{w:I?}{K:e?}{mg:y?->g? b_}{base:k?}
theorem au.NL {x qual:y?}{st:K?}{f:c_}{fd:l'}{N ps:b? y?}{k:i_}{sp:Sp}(F:au K x qual st f fd)(S:qd N ps (jt st))(len:∀vs H Q E,sp vs H Q E->vs.length=ps.length)(aX:∀(aD:b_)(A:C_)(outer:b? Ţ)(s:d?)(H:Hp)(vs:b? V)(Q:VK)(E:XK),aT k (A.deeper (È qual (jt st) s.heap.objs.size f aD))->sp vs H Q E->∃t,cU (cZ (de P w) P w K mg base N qual (jt st) f aD A outer s H E) (iC st) t/\t {nx:=λ_ H'=>Q .aj H',rt:=Q} (start N vs) H):zv P w K mg base (de P w) (k+1) f fd ps sp:=by
 obtain⟨oc,od,kV,doc,pm,an,aD,ct,kG,rfl,lk,eL⟩:=F.ex;exact Mi lk eL S len λA outer s H vs Q E hr iB=>aX aD A outer s H vs Q E hr iB
theorem au.Yu {x qual:y?}{st:K?}{f:c_}{fd:l'}{N ps:b? y?}{k:i_}{sp:Sp}(F:au K x qual st f fd)(S:qd N ps (jt st))(aX:∀(aD:b_)(A:C_)(outer:b? Ţ)(s:d?)(H:Hp)(vs:b? V)(Q:VK)(E:XK),aT k (A.deeper (È qual (jt st) s.heap.objs.size f aD))->sp vs H Q E->∃t,cU (cZ (de P w) P w K mg base N qual (jt st) f aD A outer s H E) (iC st) t/\t {nx:=λ_ H'=>Q .aj H',rt:=Q} (start N vs) H)(len:e_ (∀vs H Q E,sp vs H Q E->vs.length=ps.length) aP6):zv P w K mg base (de P w) (k+1) f fd ps sp:=F.NL S len aX
theorem au.Yv {x qual:y?}{st:K?}{f:c_}{fd:l'}{N ps:b? y?}{k:i_}{sp:Sp}(F:au K x qual st f fd)(aX:∀(aD:b_)(A:C_)(outer:b? Ţ)(s:d?)(H:Hp)(vs:b? V)(Q:VK)(E:XK),aT k (A.deeper (È qual (jt st) s.heap.objs.size f aD))->sp vs H Q E->∃t,cU (cZ (de P w) P w K mg base N qual (jt st) f aD A outer s H E) (iC st) t/\t {nx:=λ_ H'=>Q .aj H',rt:=Q} (start N vs) H)(S:e_ (qd N ps (jt st)) aP8)(len:e_ (∀vs H Q E,sp vs H Q E->vs.length=ps.length) aP6):zv P w K mg base (de P w) (k+1) f fd ps sp:=F.NL S len aX
theorem Inv.NM {X:Cx}{pins:b? (c_×L?)}{U:St}{H:Hp}{s:d?}(I:Inv X pins U H s){a:c_}(e:s.heap.get? a=none):H a=none:=by
 cases z:H a with
 |none=>rfl
 |some u=>obtain⟨o,q⟩:=(I.ag a u z).there;rw[e]at q;cases q
theorem NN {N:b? y?}{qual:y?}{scope:Ã}{f:c_}{cd:b_}{A:C_}{outer:b? Ţ}{s:d?}{H:Hp}{E:XK}{x:y?}{C:c_}{e:G?}{es:b? G?}{t:TA}{np av pos:ğ}(hg:Gl (cZ (de P w) P w K mg base N qual scope f cd A outer s H E) x)(hm:mg x=some (.ref C))(hC:Ak K C)(ha:PA (cZ (de P w) P w K mg base N qual scope f cd A outer s H E) (e::es) t)(cI:e_ ((x==("__debug__":y?))=false) aP2)(he:e_ (x? (e::es) (È qual scope s.heap.objs.size f cd)=(false,U? e (È qual scope s.heap.objs.size f cd))::x? es (È qual scope s.heap.objs.size f cd)) aP1)(cg:e_ ((W_ av (x? es (È qual scope s.heap.objs.size f cd))).any (·.1)=false) aP1):
  PS (cZ (de P w) P w K mg base N qual scope f cd A outer s H E) (.Raise (some (.Call (.Name x np) (e::es) [] av)) none pos) (M7 (E (.ref C) none) t):=
 Wg a_ hg hm hC ha (λ{pins U H1 s1 ea vs h1} I hx q=>by obtain⟨t,h2,_,_⟩:=hx.there;exact NJ (I.kept (t':=s1.toks) hx.keeps) h2 a_ (I.vL a_ hx.new) (I.NM hx.new) q) cI he cg
end
noncomputable def NO (C:c_)(sp:Sp)(W:g? c_->Hp->Prop)(t:TA):TS:=λ_ U H=>t U H λvs H1=>vs.length<=k_/\∀ea,H1 ea=none->sp (.ref ea::vs) (upd H1 ea (vK ea C)) (λv H2=>v= .aj/\∃d,H2 ea=some (pS ea C d)/\W (some d) (λb=>if b=ea then none else H2 b)) E0
section
variable {X:Cx}
theorem Yw {k:i_}{fI C:c_}{fd:l'}{ps:b? y?}{sp:Sp}{fld x:y?}{e:G?}{es:b? G?}{t:TA}{np av pos:ğ}{W:g? c_->Hp->Prop}(hc:X.calm=true)(hex:X.ex=[])(hg:Gl X x)(hm:X.mg x=some (.ref C))(hI:AB X.K C fI fld)(Fn:zv X.prog X.w X.K X.mg X.base CX0 k fI fd ps sp)(hr:aT (k+1) X.A)(hb:Binds X.K fd ps [])(ha:PA X (e::es) t)(Ek:∀{pins:b? (c_×L?)}{U:St}{H:Hp}{s:d?}{ea t:c_}{oe:L?},Inv X pins U H s->s.heap.get? ea=some oe->oe.data= .fields #[.ref t,.none,.none,.none,.bool false,.none]->X.ar.heap.get? ea=none->H ea=none->oe.cls= .ref C->W oe.dict H->X.xe (.ref ea) s)(cI:e_ ((x==("__debug__":y?))=false) aP2)(he:e_ (x? (e::es) X.env=(false,U? e X.env)::x? es X.env) aP1)(cg:e_ ((W_ av (x? es X.env)).any (·.1)=false) aP1):
  PS X (.Raise (some (.Call (.Name x np) (e::es) [] av)) none pos) (NO C sp W t):=by
 intro pins s U H D I h;have FB:=acH;obtain⟨_,bm,N,nm,qn,bs,sn,sub,ab,col,dd,k0,k1,k2,k3,k5,NP,T0⟩:=EV I.mod.eJ hI.cls;have EW:((W_ av (x? (e::es) X.env)).any λx=>x.fst)=false:=by rw[he];show(false||(W_ av (x? es X.env)).any (·.1))=false;rw[cg];rfl
 rw[arm_exec_Raise];refine d_ (á ?_);refine Yh (C:=C) (nm:=nm) (q:=qn) (N:=N) (bs:=bs) (bm:=bm) (hdct:=true) (sn:=sn) (sub:=sub) (ab:=ab) (col:=col) (dd:=dd) (k0:=k0) (k1:=k1) (k2:=k2) (k3:=k3) (k5:=k5) (newId:="ValueError.__new__") (T0.hasType FB.hasBase) (I.ok.hd hc) (d_ (G_ (wpAny_Call_ofName (mQ I hg hm ?_ cI)) (λv s3 h3=>d_ (á (j_ h3))) λ_ _ x=>x));have h1:l_ (n_ X.prog X.w) X.A (evalArgs (.ref C) true (W_ av (x? (e::es) X.env)) []) (λa s2=>∃us vs H2,a=⟨us,[]⟩/\Inv X pins U H2 s2/\Vals vs us/\vs.length<=k_/\∀ea,H2 ea=none->sp (.ref ea::vs) (upd H2 ea (vK ea C)) (λv H3=>v= .aj/\∃d,H3 ea=some (pS ea C d)/\W (some d) (λb=>if b=ea then none else H3 b)) E0) X.xe s:=by
  have hA:=ha av pins s U H _ I h;rw[he]at hA⊢;exact Ø (ah hA λus s2 ⟨vs,H2,I2,r2,hz,q2⟩=>(xa1 us vs H2 ⟨a_,I2,r2,hz,q2⟩))
 delta aah;refine d_ (M? (G_ h1 (λa s2 h2=>d_ (á ?_)) λ_ _ x=>x));obtain⟨us,vs,H2,rfl,I2,r2,hz,q2⟩:=h2;have hC:=I2.bk _ _ NP;have T:=T0.keeps I2.bk;obtain⟨⟨oI,Yx,zJ⟩,_⟩:=EV I2.aS hI.cls;obtain⟨hp,g,dr,tk,os⟩:=s2;simp only[EW];refine d_ (wpAny_keeperOf_exc hC ?_);refine d_ (Yg FB T hC (À I2.aS hI.Yp) Yx zJ (by show us.length<=k_;rw[<-r2.length];exact hz) λh' ea EX=>?_);have AF:hp.get? ea=none:=EX.new;have hG:∀b o,hp.get? b=some o->b≠ea:=λb o e z=>by rw[z,AF]at e;cases e
 obtain⟨t0,het,_,_⟩:=EX.there;have I3:Inv X pins U H2 ⟨h',g,dr,tk,os⟩:=I2.kept (t':=tk) EX.keeps;have rQ:H2 ea=none:=I2.NM AF;have I4:Inv X pins U (upd H2 ea (vK ea C)) ⟨h',g,dr,tk,os⟩:=by
  refine I3.En hex rQ (I2.vL hex AF) ?_ (λz c e=>?_) (λp lZ=>?_) ⟨(xa0 t0 _ het),⟨_,het⟩,λh1 h2 p k=>?_⟩
  .obtain⟨m,⟨o',_,_,aV,_⟩,_⟩:=I2.loc;exact(hG _ _ aV).symm
  .obtain⟨v',o',aV,_⟩:=I2.cell z c e;exact hG _ _ aV
  .exact hG _ _ (I2.pin p lZ).1
  .obtain⟨t',oR,e'⟩:=p;exact(xa0 t' oR (k _ e'))
 have hq:=q2 ea rQ;have r3:Vals (V.ref ea::vs) (t_ ea::us):=.cons a_ r2;have hl:(t_ ea::us++[]).length=ps.length:=by have e:=r3.length;rw[Fn.len _ _ _ _ hq]at e;rw[â];exact e.symm
 have vF:=hb ⟨h',g,dr,tk,os⟩ (t_ ea::us) I4.aS hl;rw[â]at vF;refine Ĭ (ć (Fn.run _ X.stack _ _ ⟨t_ ea::us,[]⟩ (t_ ea::us) _ _ E0 (hr.make C us []) (I4.rH.make C us []) vF r3 hq) λr s' cY=>?_);cases r with
 |error e'=>exact J? cY
 |ok fl=>
  cases fl with
  |ret u=>obtain⟨v,H5,I5,rv,⟨ev,d,NQ,w5⟩⟩:=I4.after cY;subst ev;refine⟨rv,d_ (M? (wpAny_point (j_ ?_)))⟩;obtain⟨⟨t5,sl5,vM⟩,_,_⟩:=I5.ag ea _ NQ;exact(xa1 ea _ t5 ⟨a_,I5.bk _ _ NP,vM,a_,a_,Ek (I5.drop NQ) vM a_ (I2.vL hex AF) (m_ a_) a_ w5⟩)
  |next=>exact J? cY
  |brk=>exact J? cY
  |cont=>exact J? cY
end
noncomputable def n5 (ea:c_)(cls:b_)(dd:g? c_):HO:=.ext λh=>∃o vs,h.get? ea=some o/\o.cls=cls/\o.data= .fields vs/\o.dict=dd
noncomputable def jC (X:Cx)(pn:b? (c_×L?))(W:St->b_->g? c_->Hp->Prop):Cx:={X with pn:=pn,xe:=λe s'=>∃(pins:b? (c_×L?))(U:St)(H:Hp)(s0:d?)(ea:c_)(cls:b_)(dd:g? c_)(H':Hp),e= .ref ea/\Inv {X with pn:=pn} pins U H s0/\rY X.prog X.w X.stack H H' s0 s' ea cls/\(∃oe,s'.heap.get? ea=some oe/\oe.dict=dd)/\W U cls dd H'}
section
variable {X:Cx}{pins pn:b? (c_×L?)}{U:St}{H H':Hp}{s s':d?}
theorem Inv.Yy {W:St->b_->g? c_->Hp->Prop}(I:Inv X pins U H s)(h:∀p∈pn,p∈X.pn++pins):Inv (jC X pn W) pins U H s:=I.kO (Yq:=jC X pn W) (I.ok.kO (Yq:=jC X pn W) ⟨a_,a_,a_⟩ a_ a_ a_ a_ a_ a_ a_ I.ok.hd I.ok.frames) a_ a_ a_ a_ a_ a_ a_ a_ λp hp=>(v_.mp hp).elim (h p) λz=>z_ _ z
theorem Inv.NR {W:St->b_->g? c_->Hp->Prop}(I:Inv (jC X pn W) pins U H s):Inv {X with pn:=pn} pins U H s:=I.kO (Yq:={X with pn:=pn}) (I.ok.kO (Yq:={X with pn:=pn}) ⟨a_,a_,a_⟩ a_ a_ a_ a_ a_ a_ a_ I.ok.hd I.ok.frames) a_ a_ a_ a_ a_ a_ a_ a_ λ_ hp=>hp
theorem Yz {W:St->b_->g? c_->Hp->Prop}(I:Inv (jC X pn W) pins U H s)(e:b_)(s':d?)(h:de X.prog X.w X.stack H s (λcls dd H'=>W U cls dd H') e s'):(jC X pn W).xe e s':=by obtain⟨ea,cls,dd,H',rfl,F,hd,q⟩:=h;exact(xa9 pins U H s ea cls dd H' ⟨a_,I.NR,F,hd,q⟩)
theorem Inv.less {a:c_}{φ ψ:k?->Prop}(I:Inv X pins U H s)(ha:H a=some (.ext φ))(h:∀h,φ h->ψ h)(st:∀h1 h2:k?,ψ h1->(∀o,h1.get? a=some o->h2.get? a=some o)->ψ h2):Inv X pins U (upd H a (.ext ψ)) s:=by obtain⟨p,⟨o,e⟩,_⟩:=I.ag a _ ha;exact I.write (t':=s.toks) (x:=a) (e:=a) (h':=s.heap) (by rw[ha];exact xv) (.inl a_) (λb u _ q=>q) ⟨o,e⟩ ⟨h _ p,⟨o,e⟩,st⟩
noncomputable def NT (D:Ends)(i:i_)(ea:c_)(cls:b_)(dd:g? c_):Ends:=
  { nx:=λ U2 H2=>H2 ea=some (n5 ea cls dd)/\D.nx (U2.set i none) (upd H2 ea (nU ea cls))
    rt:=λv H2=>H2 ea=some (n5 ea cls dd)/\D.rt v (upd H2 ea (nU ea cls))
    bk:=λ U2 H2=>H2 ea=some (n5 ea cls dd)/\D.bk (U2.set i none) (upd H2 ea (nU ea cls))
    ct:=λ U2 H2=>H2 ea=some (n5 ea cls dd)/\D.ct (U2.set i none) (upd H2 ea (nU ea cls))}
theorem YA {s0 s1:d?}{H1:Hp}{D:Ends}{x n:y?}{i:i_}{np vN:ğ}{vO:K?}{n9:b? K?}{rest:b? ExceptHandler}{Pc C ea t:c_}{dd:g? c_}{ts:TS}{bb Bq:k?}{U':St}(jD:X.stack=X.env::X.outer)(hex:X.ex=[])(hg:Gl X x)(hm:X.mg x=some (.ref Pc))(hB:Č X.K Pc (.type "BaseException")=some true)(hN:X.N.Nodup)(hi:X.N[i]?=some n)(hn:X.env.scope.names.lookup n=some .local)(hs:∀ea,cU (rZ X ea) (vO::n9) ts)(cI:(x==("__debug__":y?))=false)(IX:Inv X pins U' H1 s0)(F:rY X.prog X.w X.stack H1 H' s0 s1 ea (.ref C))(jE:ď Bq X.stack ea (.ref C) (.ref t) bb)(hu:s1.heap.UpToSlots bb)(k1:∀b o o',s0.heap.get? b=some o->s1.heap.get? b=some o'->b∉bf X.stack->Bq.get? b=some o')(k2:∀b u o',H' b=some u->s1.heap.get? b=some o'->Bq.get? b=some o')(oa:H' ea=none)(dA:∃oe,bb.get? ea=some oe/\oe.dict=dd)(EY:Ò X.K (.ref C) (.ref Pc)=some true)(YB:ts (NT D i ea (.ref C) dd) (U'.set i (some (.ref ea))) (upd H' ea (n5 ea (.ref C) dd))):
  l_ (n_ X.prog X.w) X.A (handleBy (.ref ea) X.env (.ExceptHandler (some (.Name x np)) (some n) (vO::n9) vN::rest)) (SP X pins D) X.xe {s1 with heap:=bb}:=by
 have cv:∀b:c_,b∉([]:b? c_):=λb=>by simp
 have I5:Inv X pins U' H' {s1 with heap:=bb}:=Na IX F jE hu k1 k2;obtain⟨oe,ve,EZ,E1,YC,_⟩:=jE.first;refine wpAny_handleBy_cons (codeAny_handlers_test (Ĵ I5.ok.kind hg (abp (by rw[I5.ok.glob];exact I5.mod.glob.keeps I5.bk) hm ?_) cI)) (by intro q;cases q);refine Wf (K:=X.K) (h:=bb) I5.aS EZ E1 EY hB _ _ _ _ (λ_ _ q=>q) ?_;show Ú _ _ _ _ _;refine codeAny_handlers_suite_as ?_;refine G_ (vH EL (lands_againW (E:=λ_ _=>w?) (Q:=λ_ bU=>∃cP,bU={s1 with heap:=cP}/\ď Bq X.stack ea (.ref C) (.ref t) cP/\bb.UpToSlots cP) jE λcP dR fS=>⟨cP,a_,dR,fS⟩)) (λ_ bU zQ=>?_) (λ_ _ z=>z.1.elim);obtain⟨⟨cP,e6,dR,fS⟩,kd⟩:=zQ;subst e6;have I6:Inv X pins U' H' {s1 with heap:=cP}:=Na IX F dR (hu.trans fS) k1 k2;obtain⟨E2,YD,pT,vP,vQ,_⟩:=dR.first;have YE:E2.dict=dd:=by obtain⟨o5,e5,d5⟩:=dA;obtain⟨o6,e6,d6⟩:=kd ea o5 e5;have NU:cP.get? ea=some o6:=e6;rw[pT]at NU;cases NU;exact d6.trans d5
 have E3:X.ar.heap.get? ea=none:=IX.vL hex F.new;have hG:∀b o,s0.heap.get? b=some o->b≠ea:=λb o e z=>by rw[z,F.new]at e;cases e
 have I7:Inv X pins U' (upd H' ea (n5 ea (.ref C) dd)) {s1 with heap:=cP}:=by
  refine I6.En hex oa E3 ?_ (λy c e=>?_) (λp hp=>?_) ⟨(xa0 E2 YD ⟨pT,vP,vQ,YE⟩),⟨E2,pT⟩,λh1 h2 p k=>?_⟩
  .obtain⟨m,⟨o,_,_,ho,_⟩,_⟩:=IX.loc;exact(hG _ _ ho).symm
  .obtain⟨v,o,ho,_⟩:=IX.cell y c e;exact hG _ _ ho
  .exact hG _ _ (IX.pin p hp).1
  .obtain⟨o,vs,e1,e2,e3,e4⟩:=p;exact(xa0 o vs ⟨k o e1,e2,e3,e4⟩)
 refine zK (v:=.ref ea) I7 hN hi (.inl hn) a_ (λs8 I8=>?_) (.inr hn);refine G_ (hs ea pins s8 _ _ _ I8.Wn YB) (λf s9 q=>?_) (λ_ _ z=>z.elim);have wk:∀{U9:St}{H9:Hp},Inv X pins U9 H9 s9->H9 ea=some (n5 ea (.ref C) dd)->Inv X pins U9 (upd H9 ea (nU ea (.ref C))) s9:=λJ e=>J.less e (λh ⟨o,vs,a1,a2,a3,_⟩=>(xa0 o vs ⟨a1,a2,a3⟩)) λh1 h2 p k=>by obtain⟨o,vs,e1,e2,e3⟩:=p;exact(xa0 o vs ⟨k o e1,e2,e3⟩)
 have behind:∀{U9:St}{H9:Hp},Inv X pins U9 H9 s9->(∀dQ,Inv X pins (U9.set i none) H9 dQ->SP X pins D f dQ)->l_ (n_ X.prog X.w) X.A (do bindName X.env n .none;ac7 X.env n vN) (λ_ aJ=>SP X pins D f aJ) X.xe s9:=λ{U9 H9} J k=>by
  refine d_ (wpAny_bindName (zK (v:=.aj) J hN hi (.inl hn) a_ (λdQ gH=>?_) (.inr hn)));obtain⟨m,vR,vS⟩:=id gH.loc;have rB:i<U9.length:=by rw[J.len];exact(l?.mp hi).1
  obtain⟨u,ru,lk⟩:=vS i n .aj hi (by rw[Y_ rB]) (.inl hn);have YF:m n=some u:=by
   rcases lk with⟨_,q⟩|⟨q,_⟩
   .exact q
   .rcases q with q|q
    .have q':X.env.scope.names.lookup n=some .cell:=q;rw[hn]at q';cases q'
    .have q':X.env.scope.names.lookup n=some .free:=q;rw[hn]at q';cases q'
  unfold ac7;refine wpAny_onRaise (wpAny_unbindName_local (env:=X.env) hn vR YF (by rw[J.ok.kind];rfl) λh' u' mP pE=>?_);have NV:=gH.unset hN hi vR vS mP pE;rw[b?.set_set]at NV;exact k _ NV
 show l_ _ _ _ _ _ _;cases f with
 |next=>obtain⟨U9,H9,I9,e9,q⟩:=q;exact behind (wk (I9.Ao I8.ok) e9) λdQ gH=>(xa0 _ _ ⟨gH,q⟩)
 |brk=>obtain⟨U9,H9,I9,e9,q⟩:=q;exact behind (wk (I9.Ao I8.ok) e9) λdQ gH=>(xa0 _ _ ⟨gH,q⟩)
 |cont=>obtain⟨U9,H9,I9,e9,q⟩:=q;exact behind (wk (I9.Ao I8.ok) e9) λdQ gH=>(xa0 _ _ ⟨gH,q⟩)
 |ret u=>obtain⟨v,U9,H9,I9,r,e9,q⟩:=q;exact behind (wk (I9.Ao I8.ok) e9) λdQ gH=>(xa1 v _ _ ⟨gH,r,q⟩)
end
theorem YG {P:D'}{w:I?}{K:e?}{mg:y?->g? b_}{base:k?}{N:b? y?}{qual:y?}{scope:Ã}{f:c_}{cd:b_}{A:C_}{outer:b? Ţ}{s:d?}{H:Hp}{E:XK}{k:i_}{fI C:c_}{fd:l'}{ps:b? y?}{sp:Sp}{fld x:y?}{e:G?}{es:b? G?}{t:TA}{np av pos:ğ}(hg:Gl (cZ (de P w) P w K mg base N qual scope f cd A outer s H E) x)(hm:mg x=some (.ref C))(hI:AB K C fI fld)(Fn:zv P w K mg base CX0 k fI fd ps sp)(hr:aT (k+1) (cZ (de P w) P w K mg base N qual scope f cd A outer s H E).A)(hb:Binds K fd ps [])(ha:PA (cZ (de P w) P w K mg base N qual scope f cd A outer s H E) (e::es) t)(cI:e_ ((x==("__debug__":y?))=false) aP2)(he:e_ (x? (e::es) (È qual scope s.heap.objs.size f cd)=(false,U? e (È qual scope s.heap.objs.size f cd))::x? es (È qual scope s.heap.objs.size f cd)) aP1)(cg:e_ ((W_ av (x? es (È qual scope s.heap.objs.size f cd))).any (·.1)=false) aP1):
  PS (cZ (de P w) P w K mg base N qual scope f cd A outer s H E) (.Raise (some (.Call (.Name x np) (e::es) [] av)) none pos) (NO C sp (E (.ref C)) t):=
 Yw a_ a_ hg hm hI Fn hr hb ha (λI he hd new hn hc q=>NJ I he hd new hn (by rw[hc];exact q)) cI he cg
section
variable {X:Cx}{pn:b? (c_×L?)}
noncomputable def YH (C:c_)(m:y?)(sp:Sp)(bq:b? V)(W:St->b_->g? c_->Hp->Prop)(ta:TE)(t:TA):TE:=λ U H Q=>ta U H λx H1=>∃a dx fs,x= .ref a/\H1 a=some (.ins C dx fs)/\fs.lookup m=none/\t U H1 λvs H2=>sp (x::(vs++bq)) H2 Q λcls dd H'=>W U cls dd H'
theorem NW {W:St->b_->g? c_->Hp->Prop}{k:i_}{f C:c_}{fd:l'}{ps:b? y?}{sp:Sp}{bq:b? V}{ds:b? b_}{m:y?}{apos pos:ğ}{o e:G?}{es:b? G?}{ta:TE}{t:TA}{pl:Ī o?}(he:PE (jC X pn W) o ta)(c:fh X.K C)(hm:Meth X.K C m f)(F:zv X.prog X.w X.K X.mg X.base (de X.prog X.w) k f fd ps sp)(hr:aT k X.A)(hb:Binds X.K fd ps ds)(hd:Vals bq ds)(ha:PA (jC X pn W) (e::es) t)(iA:e_ (x? (e::es) X.env=(false,U? e X.env)::x? es X.env) aP1)(cg:e_ ((W_ pos (x? es X.env)).any (·.1)=false) aP1)(ht:e_ (U? (.Call (.Attribute o m apos) (e::es) [] pos) X.env=(do
   let ov<-U? o X.env
   Ŵ apos.atName
   let(f,first)<-ģ [ov] (Ū ov m pl)
   aah pos f first (W_ pos (x? (e :: es) X.env)) (Ö pos (U_ [] X.env)))) aP1) :
  PE (jC X pn W) (.Call (.Attribute o m apos) (e::es) [] pos) (YH C m sp bq W ta t):=by
 intro pins s U H Q I h;refine ç (pl:=pl) (ah (he pins s U H _ I h) λu s1 zQ=>?_) ht;obtain⟨x,H1,I1,rx,a,dx,fs,ex,ea,l,q⟩:=zQ;subst ex;obtain rfl:u=t_ a:=rx;refine zY I1 ea c hm l ?_;refine ă (first:=[.ref a]) (h₀:=X.base) I.ok.mod.eJ hm.kp (ah (ha pos pins s1 U H1 _ I1 q) λus s2 ⟨vs,H2,I2,r,q2⟩=>⟨I2.aS,?_⟩) iA cg;exact Wo (us:=.ref a::us) (vs:=.ref a::vs) F hr hb hd I2 (Yz I2) (.cons a_ r) q2
end
noncomputable def YI (K:e?)(P1:c_)(i:i_)(tb:(St->b_->g? c_->Hp->Prop)->TS)(ts:TS):TS:=λD U H=>∃W:St->b_->g? c_->Hp->Prop,tb W D U H/\∀U' cls dd H' ea,W U' cls dd H'->H' ea=none->∃C,cls= .ref C/\Ò K (.ref C) (.ref P1)=some true/\ts (NT D i ea cls dd) (U'.set i (some (.ref ea))) (upd H' ea (n5 ea cls dd))
section
variable {X:Cx}
theorem NX {body:b? K?}{x1 n:y?}{i:i_}{YJ AG pos:ğ}{b1:K?}{NY:b? K?}{P1:c_}{tb:(St->b_->g? c_->Hp->Prop)->TS}{N0:TS}(jD:X.stack=X.env::X.outer)(nW:X.env.frame=some X.env.locals)(hex:X.ex=[])(YK:Gl X x1)(Am:X.mg x1=some (.ref P1))(YL:Č X.K P1 (.type "BaseException")=some true)(hN:X.N.Nodup)(hi:X.N[i]?=some n)(hn:X.env.scope.names.lookup n=some .local)(hb:∀pn W,cU (jC X pn W) body (tb W))(AH:∀ea,cU (rZ X ea) (b1::NY) N0)(nZ:e_ ((x1==("__debug__":y?))=false) aP2):
  PS X (.Try body [.ExceptHandler (some (.Name x1 YJ)) (some n) (b1::NY) AG] [] [] pos) (YI X.K P1 i tb N0):=by
 intro pins s U H D I h;obtain⟨W,h1,h2⟩:=h;refine wpAny_Try_except ?_;have back:∀{bE:b? (c_×L?)}{U':St}{H':Hp}{s':d?},Inv (jC X (X.pn++pins) W) bE U' H' s'->Inv X pins U' H' s':=λJ=>J.NR.M9 λ_ hp=>hp;refine G_ (hb (X.pn++pins) W pins s U H D (I.Yy λ_ hp=>hp) h1) (λf s1 q=>?_) (λe s1 q=>?_)
 .cases f with
  |next=>obtain⟨U1,H1,I1,q⟩:=q;exact Ĺ (xa0 U1 H1 ⟨back I1,q⟩)
  |brk=>obtain⟨U1,H1,I1,q⟩:=q;exact(xa0 U1 H1 ⟨back I1,q⟩)
  |cont=>obtain⟨U1,H1,I1,q⟩:=q;exact(xa0 U1 H1 ⟨back I1,q⟩)
  |ret u=>obtain⟨v,U1,H1,I1,r,q⟩:=q;exact(xa1 v U1 H1 ⟨back I1,r,q⟩)
 .obtain⟨bE,U',H1,s0,ea,cls,dd,H',rfl,I0,F,⟨oe,EZ,dA⟩,wW⟩:=q;have IX:Inv X pins U' H1 s0:=I0.M9 λ_ hp=>hp;obtain⟨Bq,t,hf,k1,k2⟩:=F.M6;have oa:H' ea=none:=by
   cases q:H' ea with
   |none=>rfl
   |some u=>obtain⟨o,e⟩:=(F.ag ea u q).there;have z:=k2 ea u o q e;rw[hf.2.1]at z;cases z
  obtain⟨C,rfl,m1,q1⟩:=h2 U' cls dd H' ea wW oa;have frames:X.A.frames=some (X.env::X.outer):=by rw[IX.ok.frames,jD]
  have dB:ď Bq (X.env::X.outer) ea (.ref C) (.ref t) s1.heap:=by rw[<-jD];exact hf
  refine G_ (vH NF (wpAny_looks_onW (E:=λ_ _=>w?) (Q:=λ_ bU=>∃cM,bU={s1 with heap:=cM}/\k?.HeldW Bq (X.env::X.outer) ea (.ref C) (.ref t) X.env.locals cM/\s1.heap.UpToSlots cM) frames nW dB λcM a b=>⟨cM,a_,a,b⟩)) (λ_ bU zQ=>?_) (λ_ _ z=>z.1.elim);obtain⟨⟨cM,e4,jF,pU⟩,YM⟩:=zQ;subst e4;refine G_ (vH EL (wpAny_landsW (E:=λ_ _=>w?) (Q:=λ_ bU=>∃bb,bU={s1 with heap:=bb}/\ď Bq (X.env::X.outer) ea (.ref C) (.ref t) bb/\cM.UpToSlots bb) jF λbb a b=>⟨bb,a_,a,b⟩)) (λ_ bU zQ=>?_) (λ_ _ z=>z.1.elim);obtain⟨⟨bb,e5,pV,pW⟩,YN⟩:=zQ;subst e5;have jE:ď Bq X.stack ea (.ref C) (.ref t) bb:=by rw[jD];exact pV
  obtain⟨o4,e4,d4⟩:=YM ea oe EZ;obtain⟨o5,e5,d5⟩:=YN ea o4 e4;exact YA jD hex YK Am YL hN hi hn AH nZ IX F jE (pU.trans pW) k1 k2 oa ⟨o5,e5,(d5.trans d4).trans dA⟩ m1 q1
end
noncomputable def AI {α:Type}:b? α->b? α->b? α
 |[a,b],[c,d,e,f]=>[a,b,c,d,e,f]
 |_,_=>[]
theorem YO {vs:b? V}{us:b? b_}{zs:b? V}{ws:b? b_}(r1:Vals vs us)(r2:Vals zs ws):Vals (AI vs zs) (AI us ws):=by
 cases r1 with
 |nil=>exact .nil
 | cons a r1=>
  cases r1 with
  |nil=>exact .nil
  | cons b r1=>
   cases r1 with
   |cons _ _=>exact .nil
   | nil=>
    cases r2 with
    |nil=>exact .nil
    | cons c r2=>
     cases r2 with
     |nil=>exact .nil
     | cons d r2=>
      cases r2 with
      |nil=>exact .nil
      | cons e r2=>
       cases r2 with
       |nil=>exact .nil
       |cons f r2=>
        cases r2 with
        |nil=>exact .cons a (.cons b (.cons c (.cons d (.cons e (.cons f .nil)))))
        |cons _ _=>exact .nil
theorem YQ {lo:f?}{n:i_}{D:c_}{g:TG}{ti:TT}{tk tv:TE}{U0:St}{H0:Hp}{QF:Hp->Prop}(Pv:i_->St->Hp->Prop)(h0:Pv 0 U0 H0)(hs:∀i U H,i<n->Pv i U H->g (.int (lo+i)) U H λ U2 H2=>ti U2 H2 λb H3=>if b=true then tk U2 H3 λy H4=>tv U2 H4 λz H5=>∃H6,ft H5 D y z H6/\Pv (i+1) U2 H6 else Pv (i+1) U2 H3)(hd:∀U H,Pv n U H->QF H):∃W:i_->i_->St->Hp->Prop,(∃m,W 0 m U0 H0)/\vD (kE lo n) g ti tk tv D QF W:=by
 refine⟨λi m U H=>m=n-i/\i<=n/\Pv i U H,⟨n,by simp,T? _,h0⟩,?_⟩
 rintro i m U H ⟨rfl,hi,p⟩
 by_cases aw:i<n
 .refine .inr ⟨aw,Pv (i+1),λ U' H' p'=>⟨n-(i+1),by lia,a_,aw,p'⟩,λx H' y=>?_⟩;obtain⟨e,y⟩:=y;subst e y;exact hs i U _ aw p
 .have e:i=n:=by lia
  subst e;exact .inl ⟨r_ _,hd U H p⟩
theorem N1 (val:i_->f?):∀k i,i<=k->val i<=val (Þ (λi j=>s? (val i>val j)) k)
 |0,i,h=>by
  have:i=0:=by lia
  subst this;exact abv _
 | k+1,i,h=>by
  have ih:=N1 val k;unfold Þ;by_cases z:val (k+1)>val (Þ (λi j=>s? (val i>val j)) k)
  .rw[m_ (i? z)];by_cases q:i=k+1
   .rw[q];exact abv _
   .have:=ih i (by lia);lia
  .rw[j? (by simpa using z)];by_cases q:i=k+1
   .rw[q];lia
   .exact ih i (by lia)
theorem AJ {α β:Type}{R:α->β->Prop}:∀{xs:b? α}{ys:b? β}{i:i_}{y:β},h_ R xs ys->ys[i]?=some y->∃x,xs[i]?=some x/\R x y:=λ{xs ys i y} q e=>by
 induction q generalizing i with
 |nil=>simp at e
 |cons h _ ih=>
  cases i with
  |zero=>cases s_ e;exact⟨_,a_,h⟩
  |succ i=>exact ih (i:=i) e
section
variable {X:Cx}
theorem YR (hc:X.calm=true):ef X (.builtin "max") (λxs H Q=>∃(p:c_)(ns:b? f?),xs=[.ref p]/\af X.K H p (ns.map V.int)/\0<ns.length/\∀M,M∈ns->(∀a∈ns,a<=M)->Q (.int M) H):=by
 intro pins s U H xs us Q I r h;obtain⟨p,ns,rfl,hq,nX,q⟩:=h;obtain⟨u,rfl,rx⟩:=vals1 r;cases rx;obtain⟨its,r',pl,hz⟩:=I.list hq;have hlen:ns.length=its.length:=by have:=r'.length;rw[g_]at this;exact this
 have hv:∀i v,its.toArray[i]?=some v->∃t,v=ą (ns.getD i 0) t:=λi v e=>by
  have e':its[i]?=some v:=by simpa using e
  obtain⟨y,ey,ry⟩:=AJ r' e';rw[y_]at ey;cases hn:ns[i]? with
  |none=>rw[hn]at ey;cases ey
  |some n=>rw[hn]at ey;cases ey;obtain⟨t,et⟩:=ry;refine⟨t,?_⟩;rw[et,J',hn];rfl
 have hp:p≠s.heap.objs.size:=by obtain⟨o,ho,_⟩:=pl.isList;exact N? (r? ho)
 refine call_max_walk (ġ pl.isList (xa6 s.heap.objs.size _ _ _ _ _ _ ⟨a_,Walks.list (A:=X.A.in1) (show X.A.in1.handled=none from I.ok.hd hc) s.heap.objs.size p hp its.toArray,⟨⟨_,v? _ a_,a_,a_⟩,?_⟩,λb hb=>?_,by simpa using(by lia:0<its.length),CmpOf.ints_gt (λi=>ns.getD i 0) hv,λv h' tk hP hk=>?_⟩))
 .obtain⟨o,ho,hr⟩:=pl.isList;exact⟨o,f_ _ ho,hr⟩
 .rw[Ę];rcases D?.mp hb with rfl|hb
  .exact Ĥ _
  .rw[j'.mp hb];obtain⟨o,ho,_⟩:=pl.isList;exact aaL (r? ho)
 .obtain⟨t,rfl⟩:=hv _ _ hP;refine(xa0 (V.int (ns.getD (Þ (λi j=>s? (ns.getD i 0>ns.getD j 0)) (its.toArray.size-1)) 0)) H ⟨I.kept (t':=tk) λb o e=>hk b o (λz=>?_) (f_ _ e),⟨t,a_⟩,q _ ?_ λa ha=>?_⟩)
  .have:b=s.heap.objs.size:=by simpa using z
   have lt:=r? e;rw[this]at lt;exact Ě _ lt
  .have hb:=ED (λi j=>s? (ns.getD i 0>ns.getD j 0)) (its.toArray.size-1);have hs:its.toArray.size=its.length:=by simp
   generalize Þ (λi j=>s? (ns.getD i 0>ns.getD j 0)) (its.toArray.size-1)=j at hb;have hj:j<ns.length:=by lia
   rw[J',u? hj];exact b?.getElem_mem hj
  .obtain⟨i,hi,rfl⟩:=Ý.mp ha;have:=N1 (λi=>ns.getD i 0) (its.toArray.size-1) i (by simp;lia);rw[show ns.getD i 0=ns[i]by rw[J',u? hi];rfl]at this;exact this
end
structure N2 (K:e?)(C:c_)(m:y?)(f:c_):Prop where
 sp:ab7 K (.ref C) "__getattribute__"=some (some (.builtin "type.__getattribute__"))
 rd:PySem.W.readsIn K C (.type "type")=true
 at_:PySem.W.findCls K (.ref C) (.type "type") m=some (.val (.ref f))
 kp:ã K (.ref f)=true
section
variable {X:Cx}{CX:fj}{E:XK}{k:i_}{f C:c_}{fd:l'}{ps:b? y?}{sp:Sp}{bq:b? V}{ds:b? b_}{x m:y?}{p apos pos:ğ}{e:G?}{es:b? G?}{t:TA}
theorem YS {pl:Ī o?}(hg:Gl X x)(hC:X.mg x=some (.ref C))(hm:N2 X.K C m f)(F:zv X.prog X.w X.K X.mg X.base CX k f fd ps sp)(hr:aT k X.A)(hb:Binds X.K fd ps ds)(hd:Vals bq ds)(hx:Passes CX X E)(ha:PA X (e::es) t)(cI:e_ ((x==("__debug__":y?))=false) aP2)(iA:e_ (x? (e::es) X.env=(false,U? e X.env)::x? es X.env) aP1)(cg:e_ ((W_ pos (x? es X.env)).any (·.1)=false) aP1)(ht:e_ (U? (.Call (.Attribute (.Name x p) m apos) (e::es) [] pos) X.env=(do
   let ov<-U? (.Name x p) X.env
   Ŵ apos.atName
   let(f,first)<-ģ [ov] (Ū ov m pl)
   aah pos f first (W_ pos (x? (e :: es) X.env)) (Ö pos (U_ [] X.env)))) aP1) :
  PE X (.Call (.Attribute (.Name x p) m apos) (e::es) [] pos) (Ma sp bq E t):=by
 intro pins s U H Q I h;refine ç (pl:=pl) (ah (mQ (Q:=EP X pins U λv H'=>v=V.ref C/\H'=H) I hg hC (xa0 (V.ref C) H ⟨I,a_,a_,a_⟩) cI) λu s1 zQ=>?_) ht;obtain⟨y,H1,I1,ry,ey,eH⟩:=zQ;subst ey eH;obtain rfl:u=t_ C:=ry;refine PySem.W.method_cls I1.aS hm.sp (PySem.W.cls_value I1.aS hm.rd hm.at_ a_ ?_);have I2:=I1.tok (s1.toks+1);refine ă (first:=[]) (h₀:=X.base) I.ok.mod.eJ hm.kp (ah (ha pos pins _ U H1 _ I2 h) λus s2 ⟨vs,H2,I3,r,q2⟩=>⟨I3.aS,?_⟩) iA cg;exact zZ F hr hb hd hx I3 r q2
end
open AutoSeq1 (wpAny_loadPart')
theorem N3 {l:c_}{its:b? b_}{n:i_}{x:b_}{e:b_->o?}{j:i_}{y:b_}(hj:its[j]?=some y)(hit:e y=true)(hz:its.length<=k_):∀(d i:i_),i+d=j->(∀m z,i<=m->m<j->its[m]?=some z->e z=false)->Meets (Builtin.«list.remove.loop» ⟨[.ref l,x,ŝ i],[]⟩) (λA R s=>s.heap.get? l=some {cls:=.type "list",dict:=none,data:=.seq its.toArray n,slots:=#[]}/\(∀u∈its,m? A.in1 s u x (e u))/\R (.ok (.ret .none)) {s with heap:=s.heap.update l (X' λxs=>xs.eraseIdxIfInBounds j)})
 | d,i,hd,pR=>by
  intro prog w A R s h;obtain⟨hp,g,dp,tk,os⟩:=s;obtain⟨hl,he,h⟩:=h;have lt:i<its.length:=by have:=(l?.mp hj).1;lia
  obtain⟨v,hv⟩:∃v,its[i]?=some v:=⟨_,u? lt⟩;have hi:its.toArray[((i:i_):f?).toNat]?=some v:=by simpa using hv
  have AH:its.toArray.size<=k_:=by rw[G'];exact hz
  wp_walk using wpAny_loadPart' hl;rw[hi];refine d_ (he v (u_ hv) prog w _ _ ?_);cases d with
  |zero=>
   have e1:i=j:=by lia
   subst e1;rw[hj]at hv;cases hv;rw[hit];wp_walk using wpAny_loadPart' hl;have small:(X' (λx=>x.eraseIdxIfInBounds ((i:i_):f?).toNat) {cls:=Ĩ "list",data:=acb its.toArray n}).data.pastItsLine=none:=by refine pastItsLine_seq (P_ ?_ (ţ hz));show(its.toArray.eraseIdxIfInBounds ((i:i_):f?).toNat).size<=its.length;rw[ī,G'];exact ō _ _
   rw[small];wp_walk;exact h
  |succ d=>
   rw[pR i v (r_ _) (by lia) hv];wp_walk;have ec:((i:f?)+1)=((i+1:i_):f?):=by push_cast;rfl
   rw[ec];refine⟨Ş ï _,ż aaC ?_⟩;rw[ŕ ï _];exact N3 hj hit hz d (i+1) (by lia) (λm z h1 h2=>pR m z (by lia) h2) prog w A R _ ⟨hl,he,h⟩
theorem YT {l:c_}{its:b? b_}{n:i_}{x:b_}{e:b_->o?}{j:i_}{y:b_}(hj:its[j]?=some y)(hit:e y=true)(hz:its.length<=k_)(pR:∀m z,m<j->its[m]?=some z->e z=false):Meets (Builtin.«list.remove» ⟨[.ref l,x],[]⟩) (λA R s=>s.heap.get? l=some {cls:=.type "list",dict:=none,data:=.seq its.toArray n,slots:=#[]}/\(∀u∈its,m? A.in1 s u x (e u))/\R (.ok (.ret .none)) {s with heap:=s.heap.update l (X' λxs=>xs.eraseIdxIfInBounds j)}):=by
 intro prog w A R s h;obtain⟨hp,g,dp,tk,os⟩:=s;have go:=N3 (l:=l) (n:=n) (x:=x) hj hit hz j 0 (i_.zero_add j) (λm z _ h2=>pR m z h2) prog w A R _ h;wp_walk using wpAny_loadPart' h.1;refine⟨Ş ï _,ż aaC ?_⟩;rw[ŕ ï _];exact go
noncomputable def YU (K:e?):V->b? V->Hp->VK->Prop:=λx vs H Q=>∃l xs y n bV,x= .ref l/\vs=[y]/\H l=some (.lst xs)/\kS K H y n/\h_ (kS K H) xs bV/\n∈bV/\Q .aj (upd H l (.lst (xs.eraseIdx (bV.idxOf n))))
section
variable {X:Cx}
theorem YV (hu:X.A.units+64<Â):DM X "list.remove" (YU X.K):=by
 intro pins s U H x vs v us Q I rx rv h;obtain⟨l,xs,y,n,bV,rfl,rfl,hH,hy,hs,hm,q⟩:=h;cases rx;obtain⟨u,rfl,ru⟩:=rv.one;obtain⟨z,its,k,r,hl,e⟩:=I.rK hH;have lx:=q? hs;have hi:bV.idxOf n<bV.length:=acf.mpr hm;obtain⟨w,hw,cz⟩:=r.get (u? (show bV.idxOf n<xs.length by lia));have is:∀(m:i_)(v:b_),its[m]?=some v->∃t,bV[m]?=some t/\hJ X.K H n v=s? (t=n):=λm v hv=>by obtain⟨x',eU,YW⟩:=AJ r hv;obtain⟨t,ht,q'⟩:=qo hs eU;exact⟨t,ht,Ex I q' YW⟩
 have yes:hJ X.K H n w=true:=by obtain⟨t,ht,q'⟩:=is _ _ hw;rw[u? hi,b?.getElem_idxOf hi]at ht;rw[q',<-s_ ht];exact i? a_
 refine ň abZ ⟨_,e,a_⟩ F.entry_list_remove (F.args_list_remove_2 _ _) (YT (e:=hJ X.K H n) hw yes (by lia) (λm v aw hv=>?_)) ⟨e,λv hv=>Ey I ?_ hy ru r hs v hv,?_⟩
 .obtain⟨t,ht,q'⟩:=is _ _ hv;rw[q'];refine z? λz=>?_;subst z;obtain⟨a1,b1⟩:=l?.mp ht;have no:=acy (p:=(·==t)) (xs:=bV) (i:=m) aw;rw[b1]at no;simp at no
 .first|(have e:X.A.in1.units=X.A.units+1:=a_;lia)|(have e:X.A.in1.units=X.A.units:=rfl;lia)|(have e:=Around.units_in1 X.A;lia)
 .refine(xa0 .aj _ ⟨I.DO (its':=its.eraseIdx (bV.idxOf n)) hH e ?_ (r.eraseIdx _) ?_,a_,q⟩)
  .show its.toArray.eraseIdxIfInBounds _=(its.eraseIdx _).toArray;rw[ī]
  .have:=ō xs (bV.idxOf n);lia
theorem N4 {α β:Type}{F:α->β->Prop}:∀{xs:b? α}{ys:b? β},xs.length=ys.length->(∀(i:i_) x y,xs[i]?=some x->ys[i]?=some y->F x y)->h_ F xs ys
 |[],[],_,_=>.nil
 |x::xs,y::ys,e,h=>.cons (h 0 x y a_ a_) (N4 (Á.inj e) λi a b ea eb=>h (i+1) a b ea eb)
end
section
variable {K:e?}{x qual:y?}{st:K?}{f:c_}{fd:l'}{p1 p2 p3 p4 p5:y?}
noncomputable abbrev vT (x qual:y?)(st:K?)(ps:b? y?)(us:b? b_):Prop:=∀(kV doc pm:b_)(an:g? c_)(aD ct:b_),ada (Ă x qual (rN st) (iC st) (jt st) .none kV doc pm an aD ct) ⟨us,[]⟩=ó (ps.zip us)
theorem dS (F:au K x qual st f fd)(h:∀a,vT x qual st [p1] [a]:=by exact λ_ _ _ _ _ _ _=>rfl):Binds K fd [p1] []:=F.binds λkV doc pm an aD ct us hl=>by obtain⟨a,rfl⟩:=ĥ.mp hl;exact h a kV doc pm an aD ct
theorem kU {us:b? b_}{n:i_}(h:us.length=n+1):∃a r,us=a::r/\r.length=n:=by
 cases us with
 |nil=>cases h
 |cons a r=>exact(xa0 a r ⟨a_,Á.inj h⟩)
theorem bY (F:au K x qual st f fd)(h:∀a b,vT x qual st [p1,p2] [a,b]:=by exact λ_ _ _ _ _ _ _ _=>rfl):Binds K fd [p1,p2] []:=F.binds λkV doc pm an aD ct us hl=>by obtain⟨a,r1,rfl,h1⟩:=kU hl;obtain⟨b,rfl⟩:=ĥ.mp h1;exact h a b kV doc pm an aD ct
theorem hU (F:au K x qual st f fd)(h:∀a b c,vT x qual st [p1,p2,p3] [a,b,c]:=by exact λ_ _ _ _ _ _ _ _ _=>rfl):Binds K fd [p1,p2,p3] []:=F.binds λkV doc pm an aD ct us hl=>by obtain⟨a,r1,rfl,h1⟩:=kU hl;obtain⟨b,r2,rfl,h2⟩:=kU h1;obtain⟨c,rfl⟩:=ĥ.mp h2;exact h a b c kV doc pm an aD ct
theorem YX (F:au K x qual st f fd)(h:∀a b c d,vT x qual st [p1,p2,p3,p4] [a,b,c,d]:=by exact λ_ _ _ _ _ _ _ _ _ _=>rfl):Binds K fd [p1,p2,p3,p4] []:=F.binds λkV doc pm an aD ct us hl=>by obtain⟨a,r1,rfl,h1⟩:=kU hl;obtain⟨b,r2,rfl,h2⟩:=kU h1;obtain⟨c,r3,rfl,h3⟩:=kU h2;obtain⟨d,rfl⟩:=ĥ.mp h3;exact h a b c d kV doc pm an aD ct
theorem YY (F:au K x qual st f fd)(h:∀a b c d e,vT x qual st [p1,p2,p3,p4,p5] [a,b,c,d,e]:=by exact λ_ _ _ _ _ _ _ _ _ _ _=>rfl):Binds K fd [p1,p2,p3,p4,p5] []:=F.binds λkV doc pm an aD ct us hl=>by obtain⟨a,r1,rfl,h1⟩:=kU hl;obtain⟨b,r2,rfl,h2⟩:=kU h1;obtain⟨c,r3,rfl,h3⟩:=kU h2;obtain⟨d,r4,rfl,h4⟩:=kU h3;obtain⟨e,rfl⟩:=ĥ.mp h4;exact h a b c d e kV doc pm an aD ct
theorem jG {k1:y?}(h:∀(s:d?) a b,aar s fd ⟨[a],[(k1,b)]⟩ [(p1,a),(p2,b)]):dN K fd [p1,p2] [k1] cj cj:=⟨λs us ws _ hl=>by rcases us with _|⟨a,_|⟨_,_⟩⟩<;>rcases ws with _|⟨b,_|⟨_,_⟩⟩;all_goals first|exact h s a b|(cases hl),λr1 r2=>V8 r1 r2⟩
theorem YZ {k1 k2:y?}(h:∀(s:d?) a b c,aar s fd ⟨[a],[(k1,b),(k2,c)]⟩ [(p1,a),(p2,b),(p3,c)]):dN K fd [p1,p2,p3] [k1,k2] se se:=⟨λs us ws _ hl=>by rcases us with _|⟨a,_|⟨_,_⟩⟩<;>rcases ws with _|⟨b,_|⟨c,_|⟨_,_⟩⟩⟩;all_goals first|exact h s a b c|(cases hl),λr1 r2=>WJ r1 r2⟩
end
section
variable {X:Cx}{a:G?}{ta:TE}{pos:ğ}
theorem Y3 (ha:PE X a ta):PE X (.UnaryOp .Not a pos) (λ U H Q=>ta U H λx H'=>∃k,Dw X.K x H' k/\Q (.bl (!k)) H'):=by intro pins s U H Q I h;refine afj (ah (ha pins s U H _ I h) λv s1 zQ=>?_);obtain⟨x,H1,I1,r1,q1⟩:=zQ;exact not_of (ah (LZ pins s1 U H1 x v (λk H'=>Q (.bl (!k)) H') I1 r1 q1) λb s2 ⟨H2,I2,q2⟩=>(xa0 (.bl (!b)) H2 ⟨I2,a_,q2⟩))
end
noncomputable def yu:i_->b? (b? i_)
 |0=>[[]]
 |n+1=>yu n++(yu n).map (·++[n])
noncomputable def df (led:o?)(js:b? i_):Ğ:={mask:=if js.length<5 then 7 else 31,place:=js.toArray,dummies:=#[],finger:=0,led:=led,moves:=if js.length<5 then 0 else 1,plain:=true}
noncomputable def mi (led:o?)(js:b? i_)(n:i_):Ğ:={mask:=if n<5 then 7 else 31,place:=js.toArray,dummies:=#[],finger:=0,led:=led,moves:=if n<5 then 0 else 1,plain:=true}
noncomputable def jH (j:i_)(js:b? i_):i_:=(js.filter (·<j)).length
noncomputable def vo (j:i_)(js:b? i_):b? i_:=js.take (jH j js)++j::js.drop (jH j js)
noncomputable def E4 (led:o?)(js:b? i_)(j:i_):o?:=
 s? ((df led js).freeSlot (j:f?)=some (j,false))&&s? ((df led js).put j=(mi led (vo j js) js.length,jH j js))&&s? ((mi led (vo j js) js.length).fits (js.length+1)=true)&&(s? ((vo j js).Pairwise (·<·))&&(vo j js).all (λj=>s? (j<8)))&&s? (jH j js<=js.length)&&s? (if(mi led (vo j js) js.length).tooFull=true then(mi led (vo j js) js.length).relaid ((vo j js).map λ(k:i_)=>(k:f?)).toArray (Ğ.grown (js.length+1))=some (df led (vo j js),ad7 (js.length+1))/\coversAll (ad7 (js.length+1)) (js.length+1)=true/\(df led (vo j js)).fits (js.length+1)=true else mi led (vo j js) js.length=df led (vo j js))
theorem AK:∀(n:i_)(js:b? i_),js.Pairwise (·<·)->(∀j∈js,j<n)->js∈yu n
 |0,js,_,h=>by
  cases js with
  |nil=>exact p?
  |cons j _=>exact w_ (h j p?) (ad2 _)
 | n+1,js,up,h=>by
  unfold yu;rcases b?.eq_nil_or_concat js with rfl|⟨as,a,rfl⟩
  .exact I_ _ (AK n [] .nil λ_ z=>by cases z)
  rw[b?.concat_eq_append]at up h⊢;obtain⟨u1,_,u3⟩:=Ľ.mp up;have lt:∀j∈as,j<a:=λj hj=>u3 j hj a p?;have ha:=h a (z_ _ p?);by_cases e:a=n
  .subst e;exact z_ _ (Q? (f:=(·++[a])) (AK a as u1 lt))
  .refine I_ _ (AK n _ up λj hj=>?_);rcases v_.mp hj with q|q
   .have:=lt j q;lia
   .rw[j'.mp q];lia
noncomputable def E5 (led:o?)(L:b? (b? i_)):o?:=L.all λjs=>(V_ 8).all λj=>js.contains j||E4 led js j
set_option maxRecDepth 100000 in
set_option maxHeartbeats 0 in
theorem N5:E5 true (yu 8) = true /\ E5 false (yu 8) = true:=by decide +kernel
theorem Y4:∀led∈[true,false],∀js∈yu 8,∀j∈V_ 8,j∈js\/E4 led js j=true:=λled _ js bJ j hj=>by
 have h:E5 led (yu 8)=true:=by cases led;exact N5.2;exact N5.1
 have:=ñ.mp (ñ.mp h js bJ) j hj;rw[Œ]at this;exact this.imp b?.contains_iff_mem.mp id
noncomputable def E6 (led:o?)(js:b? i_)(i:i_):o?:=s? (Ğ.below (df led js).place (if i=0 then 0 else js.getD (i-1) 0+1)=i)
theorem AL:∀(n:i_)(js:b? i_),js∈yu n->js.length<=n/\js.Pairwise (·<·)/\∀j∈js,j<n
 |0,js,h=>by rw[yu,j']at h;subst h;exact⟨r_ _,.nil,λ_ z=>by cases z⟩
 | n+1,js,h=>by
  unfold yu at h;rcases v_.mp h with h|h
  .obtain⟨a,b,c⟩:=AL n js h;exact⟨by lia,b,λj hj=>by have:=c j hj;lia⟩
  .obtain⟨as,ha,rfl⟩:=H?.mp h;obtain⟨a,b,c⟩:=AL n as ha;refine⟨by rw[p_];exact adH a,Ľ.mpr ⟨b,ĕ _ _,λx hx y hy=>by rw[j'.mp hy];exact c x hx⟩,λj hj=>?_⟩;rcases v_.mp hj with q|q
   .have:=c j q;lia
   .rw[j'.mp q];lia
noncomputable def E7 (led:o?)(L:b? (b? i_)):o?:=L.all λjs=>(df led js).fits js.length&&(V_ (js.length+1)).all λi=>E6 led js i
set_option maxRecDepth 100000 in
set_option maxHeartbeats 0 in
theorem N6:E7 true (yu 8) = true /\ E7 false (yu 8) = true:=by decide +kernel
theorem vU:∀led∈[true,false],∀js∈yu 8,(df led js).fits js.length=true/\js.length<=8/\js.Pairwise (·<·)/\(∀j∈js,j<8)/\∀i∈V_ (js.length+1),E6 led js i=true:=λled _ js bJ=>by
 have h:E7 led (yu 8)=true:=by cases led;exact N6.2;exact N6.1
 have:=ñ.mp h js bJ;rw[L_,ñ]at this;obtain⟨a,b,c⟩:=AL 8 js bJ;exact⟨this.1,a,b,c,this.2⟩
theorem N7:∀j∈V_ 8,hashInt (j:f?)=(j:f?):=by decide+kernel
noncomputable def aO (tk:i_->Tok)(js:b? i_):b? (f?×b_):=js.map λ(j:i_)=>((j:f?),ą (j:f?) (tk j))
noncomputable def cQ (w:I?):o?:=!w.params.followText "set-order"
noncomputable def mj (w:I?)(h:k?)(a:c_)(js:b? i_):Prop:=∃o tk ep,h.get? a=some o/\o.ExactSet/\o.data= .set (aO tk js).toArray ep (df (cQ w) js)
theorem sj (b:o?):b∈[true,false]:=by cases b<;>simp
theorem pX (tk:i_->Tok)(js:b? i_):(aO tk js).toArray.size=js.length:=by simp[aO]
section
variable {prog:D'}{w:I?}{A:C_}{E:b_->d?->Prop}{s:d?}{a:c_}{js:b? i_}
theorem Y5 (tk:i_->Tok)(h:∀j∈js,j<8):ElemsOf (aao prog w) (aO tk js).toArray.toList:=by intro e he;simp only[aO,H?]at he;obtain⟨j,hj,rfl⟩:=he;exact⟨⟨(j:f?),abR _ _ _ _,(N7 j (Z?.mpr (h j hj))).symm⟩,a_⟩
theorem Y6 (tk:i_->Tok){j:i_}:((aO tk js).findIdx? (λe=>(aao prog w).is (j:f?) e.2)).isSome=s? (j∈js):=by
 rw[b?.findIdx?_isSome,ċ];simp only[aO,afz,abu,O_,Function.comp];constructor
 .rintro⟨k,hk,e⟩
  have:(k:f?)=j:=by simpa[aao,adV]using e.symm
  have:j=k:=by lia
  rw[this];exact hk
 .intro hj;exact⟨j,hj,abR _ _ _ _⟩
theorem Y7 (tk:i_->Tok){j:i_}{t:Tok}(hj:j∉js)(hp:jH j js<=js.length):(Ğ.insertAt (aO tk js).toArray (jH j js) ((j:f?),ą (j:f?) t)).toList=aO (λk=>if k=j then t else tk k) (vo j js):=by
 have same:∀l:b? i_,(∀k∈l,k∈js)->aO (λk=>if k=j then t else tk k) l=aO tk l:=λl hl=>aaG λk hk=>by have:k≠j:=λz=>hj (z ▸ hl k hk);simp[this]
 rw[Ğ.toList_insertAt];unfold vo;have e1:=same _ λk hk=>aat (i:=jH j js) hk;have e2:=same _ λk hk=>ac2 (i:=jH j js) hk;simp only[aO,K_,A_,b?.map_take,b?.map_drop,abz]at e1 e2⊢;rw[e1,e2]
theorem N8 {j k:i_}:k∈vo j js↔k∈js\/k=j:=by
 unfold vo;rw[v_,D?];constructor
 .rintro(h|h|h)
  .exact .inl (aat h)
  .exact .inr h
  .exact .inl (ac2 h)
 .rintro(h|h)
  .rw[<-aaf (jH j js) js,v_]at h;rcases h with h|h
   .exact .inl h
   .exact .inr (.inr h)
  .exact .inr (.inl h)
theorem N9 {j:i_}(hp:jH j js<=js.length):(vo j js).length=js.length+1:=by unfold vo;rw[p_,C?,Ñ,ad4];lia
theorem Y8 {j:i_}{t:Tok}{Q:o?->d?->Prop}(hS:mj w s.heap a js)(bJ:js∈yu 8)(hj:j<8)(h:∀b h' vV,H_ a s.heap h'->vV∈yu 8->(∀k,k∈vV↔k∈js\/k=j)->mj w h' a vV->Q b {s with heap:=h'}):
  l_ (n_ prog w) A (setAddHashed a (.int (j:f?) t) (hashInt (j:f?))) Q E s:=by
 obtain⟨o,tk,ep,ho,hex,hd⟩:=id hS;obtain⟨hf,AM,pY,aw,_⟩:=vU _ (sj (cQ w)) js bJ;have hz:=pX tk js;have dB:(df (cQ w) js).fits (aO tk js).toArray.size=true:=by rw[hz];exact hf
 have Oa:=Y5 (prog:=prog) (w:=w) tk aw;have Y9:byScan (.int (j:f?) t) (aO tk js).toArray=true:=byScan_of (knd:=aao prog w) a_ (by rw[hz];unfold scanBound;lia) Oa;have line:∀n:i_,n<=9->n<=k_:=λn hn=>by rw[Ĳ];lia
 refine M? (d_ (œ ho hd dB ?_));dsimp only;rw[m_ Y9];unfold setAddByScan;refine d_ (d_ (adw (d_ (wpAny_setScan_of (knd:=aao prog w) (k:=(j:f?)) (abR _ _ _ _) ho hd dB Oa ?_))));have AN:=Y6 (prog:=prog) (w:=w) (js:=js) tk (j:=j);rw[aaE];cases hr:b?.findIdx? (λe=>(aao prog w).is (j:f?) e.2) (aO tk js)with
 |some i=>
  rw[hr]at AN;have hm:j∈js:=by simpa using AN.symm
  refine j_ (j_ ?_);have:=h false s.heap js (H_.refl a s.heap) bJ (λk=>⟨.inl,λz=>z.elim id λz=>z ▸ hm⟩) hS;exact this
 | none=>
  rw[hr]at AN;have hm:j∉js:=by simpa using AN.symm
  have ag:=(Y4 _ (sj (cQ w)) js bJ j (Z?.mpr hj)).resolve_left hm;simp only[E4,L_,O_]at ag;obtain⟨⟨⟨⟨⟨k1,k2⟩,k3⟩,k4⟩,k5⟩,k6⟩:=ag;have k4:=AK 8 _ k4.1 λj hj=>n? (ñ.mp k4.2 j hj);rw[N7 j (Z?.mpr hj)];have hn:=layNew (df (cQ w) js) (aO tk js).toArray (j:f?) (ą (j:f?) t);have uA:layNew (df (cQ w) js) (aO tk js).toArray (j:f?) (ą (j:f?) t)=((aO (λk=>if k=j then t else tk k) (vo j js)).toArray,mi (cQ w) (vo j js) js.length,false,false):=by
   have e1:Ğ.insertAt (aO tk js).toArray (jH j js) ((j:f?),ą (j:f?) t)=(aO (λk=>if k=j then t else tk k) (vo j js)).toArray:=by rw[<-Y7 tk hm k5]
   unfold layNew;rw[k1];dsimp only;rw[k2];dsimp only;rw[e1,pX,N9 k5];unfold Ğ.orStandIn;rw[k3];rfl
  rw[uA];have Za:hashByValue 8 (ą (j:f?) t)=ó true:=hashByValue_scannable 8 a_;have jI:=N9 k5;have vW:=pX (λk=>if k=j then t else tk k) (vo j js);refine d_ (j_ (d_ (ac6 Za ?_)));dsimp only;refine d_ (adN ho hd ?_ (line _ (by rw[vW,jI];lia)));have iE:=R? (L?.putSet (aO (λk=>if k=j then t else tk k) (vo j js)).toArray (mi (cQ w) (vo j js) js.length)) ho (by rw[acq _ _ hd];rfl);rw[acq _ _ hd]at iE;simp only[abz,o?.not_false,acA];by_cases gJ:(mi (cQ w) (vo j js) js.length).tooFull=true
  .rw[m_ gJ]at k6;obtain⟨q1,q2,q3⟩:=k6;have Zb:relayAll (mi (cQ w) (vo j js) js.length) (aO (λk=>if k=j then t else tk k) (vo j js)).toArray (Ğ.grown (js.length+1))=((aO (λk=>if k=j then t else tk k) (vo j js)).toArray,df (cQ w) (vo j js),false):=by
    have e1:(aO (λk=>if k=j then t else tk k) (vo j js)).toArray.map (·.1)=((vo j js).map λ(k:i_)=>(k:f?)).toArray:=by rw[b?.map_toArray];simp[aO,Function.comp_def]
    have e2:(ad7 (js.length+1)).filterMap ((aO (λk=>if k=j then t else tk k) (vo j js)).toArray[·]?)=(aO (λk=>if k=j then t else tk k) (vo j js)).toArray:=by refine aes.mp ?_;rw[E?.toList_filterMap,E?.toList_range,<-jI,<-vW];exact filterMap_getElem?_range _
    unfold relayAll;rw[e1,q1];dsimp only;rw[e2,vW,jI,q2,q3];rfl
   rw[m_ gJ,vW,jI,Zb];dsimp only;refine d_ (j_ (d_ (adN iE a_ ?_ (line _ (by rw[vW,jI];lia)))));have iW:=R? (L?.putSet (aO (λk=>if k=j then t else tk k) (vo j js)).toArray (df (cQ w) (vo j js))) iE (by rw[acq _ _ a_];rfl);rw[acq _ _ a_]at iW;exact j_ (j_ (h true _ (vo j js) ((ē _ a _).trans (ē _ a _)) k4 (λk=>N8) (xa1 _ _ _ ⟨iW,hex,a_⟩)))
  .rw[j? gJ]at k6;rw[j? gJ];rw[k6]at iE⊢;exact j_ (j_ (h true _ (vo j js) (ē _ a _) k4 (λk=>N8) (xa1 _ _ _ ⟨iE,hex,a_⟩)))
theorem Ob:∀{vs:b? b_}{ns:b? f?},Y? vs ns->vs.length=ns.length
 |_,_,.nil=>a_
 |_,_,.cons _ _ r=>by rw[C?,C?,Ob r]
structure E8 (s:d?)(l it S:c_)(w:I?)(ns:b? f?)(i:i_)(s':d?):Prop where
 same:s'={s with heap:=s'.heap,toks:=s'.toks}
 it:s'.heap.IsListIter it l i
 old:∀b o,s.heap.get? b=some o->s'.heap.get? b=some o
 le:i<=ns.length
 set:∃js,js∈yu 8/\(∀k:i_,k∈js↔(k:f?)∈ns.take i)/\mj w s'.heap S js
theorem mj.keep {h h':k?}(x:mj w h a js)(k:∀o,h.get? a=some o->h'.get? a=some o):mj w h' a js:=by obtain⟨o,tk,ep,e,r⟩:=x;exact(xa1 o tk ep ⟨k o e,r⟩)
theorem Zc {l it S:c_}{vs:b? b_}{ns:b? f?}{R:š->d?->Prop}(hh:A.handled=none)(hl:s.heap.IsList l vs.toArray)(hI:Y? vs ns)(h6:∀z∈ns,0<=z/\z<8)(hit:∀o,s.heap.get? it≠some o)(hS:∀o,s.heap.get? S≠some o)(me:it≠S)(hR:∀h' tk js,js∈yu 8->(∀k:i_,k∈js↔(k:f?)∈ns)->mj w h' S js->(∀b o,s.heap.get? b=some o->h'.get? b=some o)->R (.ok (.ret .none)) {s with heap:=h',toks:=tk}){s1:d?}(h1:E8 s l it S w ns 0 s1):
  Ú (n_ prog w) A (.builtin "set.update.loop" ⟨[.ref S,.ref it],[]⟩) R s1:=by
 have uL:vs.length=ns.length:=Ob hI;refine aaR (Ş F.plain_set_update_loop _) (λn s'=>∃i,n=ns.length-i/\E8 s l it S w ns i s') (λn s' ⟨i,en,M⟩=>?_) ns.length ⟨0,by simp,h1⟩;rw[ŕ F.plain_set_update_loop,Nu F.entry_set_update_loop];have nM:s'.heap.IsList l vs.toArray:=by obtain⟨o,ho,r⟩:=hl;exact⟨o,M.old l o ho,r⟩
 obtain⟨js,bJ,jJ,vX⟩:=M.set;show l_ _ A.in1 (ĺ (.ref it) >>= _) _ _ s';by_cases hi:i<ns.length
 .obtain⟨v,hv⟩:∃v,vs[i]?=some v:=⟨vs[i]'(by lia),by simp[uL,hi]⟩;obtain⟨t,ev⟩:=hI.int_at i v hv;obtain⟨z,hz⟩:∃z,ns[i]?=some z:=⟨ns[i],by simp[hi]⟩;have Zd:z∈ns:=u_ hz;obtain⟨z0,z6⟩:=h6 z Zd;obtain⟨j,rfl⟩:=f?.eq_ofNat_of_zero_le z0;rw[J',hz]at ev;have Ze:v=ą (j:f?) t:=ev;subst Ze;refine d_ (Ġ M.it nM (by simpa using hv) λh2 i2 sb=>?_);have E9:∀b o,s.heap.get? b=some o->h2.get? b=some o:=λb o e=>(sb.2 b (λq=>hit o (by rw[<-q];exact e))).trans (M.old b o e);show l_ _ A.in1 (ģ [ą (j:f?) t] (setAdd S (.int (j:f?) t)) >>= _) _ _ _;refine d_ (M? (M? (d_ ((aao prog w).pyHash (k:=(j:f?)) (abR _ _ _ _) ?_))));refine Y8 (js:=js) (vX.keep λo e=>(sb.2 S (M_ me)).trans e) bJ (by lia) λb h3 vV Oc Fb An Zf=>?_;refine j_ ⟨a_,ns.length-(i+1),by lia,i+1,a_,?_,i2.at λo q=>(Oc.2 it me).trans q,λb o e=>(Oc.2 b (λq=>hS o (by rw[<-q];exact e))).trans (E9 b o e),hi,vV,Fb,λk=>?_,Zf⟩
  .rw[M.same]
  .rw[An k,jJ k,b?.take_succ,hz];rw[v_];simp only[g?.toList_some,j',f?.ofNat_inj]
 .have ei:i=ns.length:=by have:=M.le;lia
  subst ei;refine d_ (ſ hh M.it nM (by simp;lia) λh2 eb=>?_);refine j_ ?_;have:=hR h2 s'.toks js bJ (λk=>by rw[jJ k,Z_]) (vX.keep λo e=>eb S o (M_ me) e) (λb o e=>eb b o (λq=>hit o (by rw[<-q];exact e)) (M.old b o e));rw[M.same];exact this
noncomputable abbrev ml (w:I?):L?:={cls:=.type "set",dict:=none,data:=.set #[] 0 (df (cQ w) [])}
theorem Zg {v:b_}{R:š->d?->Prop}(h:R (.ok (.ret (.ref s.heap.objs.size))) {s with heap:=s.heap.push (ml w)}):Ú (n_ prog w) A (.call (.builtin "set.__new__") ⟨[.type "set",v],[]⟩) R s:=by
 refine ā F.plain_set_new F.entry_set_new (ac6 (F.newCall_set_1 v) ?_);unfold Builtin.«set.__new__» Ü.Frozenset.newClass;have i1:=sub_set_self;obtain⟨hp,g,d,tk,os⟩:=s;wp_walk;refine ĭ (j_ ?_);exact ù (j_ h)
set_option maxHeartbeats 4000000 in
theorem Zh {l:c_} {vs:b? b_} {ns:b? f?} {Q:b_ -> d? -> Prop} (hh:A.handled = none) (hl:s.heap.IsList l vs.toArray) (hI:Y? vs ns) (h6 : ∀ z ∈ ns,0 <= z /\ z < 8)
  (h : ∀ h' tk js,js ∈ yu 8 -> (∀ k:i_,k ∈ js ↔ (k:f?) ∈ ns) -> mj w h' s.heap.objs.size js -> (∀ b o,s.heap.get? b = some o -> h'.get? b = some o) -> Q (.ref s.heap.objs.size) { s with heap:=h',toks:=tk }) :
  l_ (n_ prog w) A (ħ (.type "set") [.ref l]) Q E s:=by
 have cs:=F.called_set
 obtain ⟨c,tl,m1⟩:=cs.mro
 have m2:=cs.made
 have m3:=cs.sub
 have m4:=cs.notType
 have m5:=cs.canCreate
 have m6:=F.typeCall_set_1 (.ref l)
 refine Ĭ (aew ?_)
 refine j_ ⟨ķ _ (by decide +kernel),ż F.entry_type_call ?_⟩
 rw [C_.under_plain (weight_type_call_type "set" [.ref l] []) a_]
 repeat (any_goals (first | assumption | wp_step))
 refine Zg ?_
 have Od:(s.heap.push (ml w)).get? s.heap.objs.size = some (ml w):=v? _ a_
 have hT:d?.TypeIs { s with heap:=s.heap.push (ml w) } (.ref s.heap.objs.size) "set" := ⟨_,Od,a_⟩
 have m7:=cs.init.lookup
 have m8:=cs.init.bind (.ref s.heap.objs.size)
 dsimp only
 repeat (any_goals (first | assumption | wp_step))
 refine ā cs.init.plain F.entry_set_init (check_set_init_1 hT ?_)
 obtain ⟨ol,Zi,uJ,nl,hdl⟩:=id hl
 have Zj:(s.heap.push (ml w)).IsList l vs.toArray:=hl.push _
 have Zk:d?.TypeIs { s with heap:=s.heap.push (ml w) } (.ref l) "list" := ⟨ol,f_ _ Zi,uJ⟩
 have n1:=F.sub_list_set
 have n2:=F.sub_list_frozenset
 unfold Builtin.«set.__init__» noKeywords Ü.Frozenset.updateFrom
 generalize Zl:abO = PI
 wp_walk using acC Zk
 subst Zl
 have hsz:(s.heap.push (ml w)).objs.size = s.heap.objs.size + 1:=Ę ..
 refine ġ Zj (d_ (wpAny_runValue ?_))
 show Ú (n_ prog w) A.in1.in1 (.builtin "set.update.loop" ⟨[.ref s.heap.objs.size,.ref (s.heap.push (ml w)).objs.size],[]⟩) _ _
 rw [hsz]
 have fr : ∀ {b:c_},s.heap.objs.size <= b -> ∀ o,s.heap.get? b ≠ some o:=λ{b} z o e=>w_ (r? e) (i_.not_lt.mpr z)
 have Uq:E8 s l (s.heap.objs.size + 1) s.heap.objs.size w ns 0 { s with heap:=(s.heap.push (ml w)).push { cls:=.type "list_iterator",data:=.fields #[.ref l,.int 0 0] } }:=
  ⟨a_,⟨_,hsz ▸ v? _ a_,a_,a_⟩,λb o e=>f_ _ (f_ _ e),T? _,[],by decide,λk=>by simp,(xa1 _ (λ_=>0) 0 ⟨f_ _ Od,⟨a_,a_,a_⟩,a_⟩)⟩
 refine Zc (A:=A.in1.in1) (prog:=prog) (s:=s) (show A.in1.in1.handled = none from hh) hl hI h6 (fr (Ÿ _)) (fr (r_ _)) (afk (Ĥ _)) (λh' tk js a1 a2 a3 a4=>?_) Uq
 exact j_ (j_ (j_ (j_ (h h' tk js a1 a2 a3 a4))))
theorem AO:Slot "set_iterator" "__next__" "set_iterator.__next__":=
 .of (owner:="set_iterator") (n:="__next__") (by rw[aeu,acR];kernel_rfl) (by decide+kernel) (by decide+kernel) (by decide+kernel) (by first|exact .inl (by decide+kernel)|exact .inr (by decide+kernel)) (by rw[aeY];kernel_rfl)
theorem Zm:abS table "set_iterator.__next__"=some Builtin.«set_iterator.__next__»:=entryFor_of_tree (by kernel_rfl)
theorem Oe:Manifest.owners.lookup (ë.ofList ['r','o','t','a','r','e','t','i','_','t','e','s'].reverse)=some Manifest.sig_set_iterator:=by kernel_rfl
theorem Zn (a:b_):argsOk "set_iterator.__next__" ⟨[a],[]⟩:=by unfold argsOk;rw[afp (id:="set_iterator.__next__") (n:=['_','_','t','x','e','n','_','_']) (o:=['r','o','t','a','r','e','t','i','_','t','e','s']) (by kernel_rfl) Oe];kernel_rfl
theorem Zo:abS table "set.__iter__"=some Builtin.«frozenset.__iter__»:=ae2 (id':="frozenset.__iter__") (by kernel_rfl) a_ (by decide+kernel) (by kernel_rfl)
noncomputable def hV (w:I?)(a:c_)(ep:i_)(es:E? (f?×b_)):E? (f?×b_):=if w.params.followText "set-order"=true then ũ (w.params.setOrder a ep) es else es
noncomputable def so (w:I?)(h:k?)(it a:c_)(js:b? i_)(ep i:i_):Prop:=∃o,∃slot:i_,h.get? it=some o/\o.cls= .type "set_iterator"/\o.data= .fields #[.int (slot:f?) 0,.int i 0,.ref a,.int js.length 0,.int ep 0]/\(w.params.followText "set-order"=false->slot=if i=0 then 0 else js.getD (i-1) 0+1)
noncomputable def og (w:I?)(h:k?)(a:c_)(js:b? i_)(tk:i_->Tok)(ep:i_):Prop:=∃o,h.get? a=some o/\o.ExactSet/\o.data= .set (aO tk js).toArray ep (df (cQ w) js)
theorem Zp {tk:i_->Tok}{ep:i_}{Q:b_->d?->Prop}(hS:og w s.heap a js tk ep)(bJ:js∈yu 8)(hQ:Q (.ref s.heap.objs.size) {s with heap:=s.heap.push {cls:=.type "set_iterator",data:=.fields #[.int 0 0,.int 0 0,.ref a,.int js.length 0,.int ep 0]}}):l_ (n_ prog w) A (abO (.ref a)) Q E s:=by
 obtain⟨o,ho,hex,hd⟩:=hS;obtain⟨hf,AM,pY,aw,_⟩:=vU _ (sj (cQ w)) js bJ;have hz:=pX tk js;have dB:(df (cQ w) js).fits (aO tk js).toArray.size=true:=by rw[hz];exact hf
 have hT:s.TypeIs (.ref a) "set":=⟨o,ho,hex.1⟩;have run:l_ (n_ prog w) A.in1 (Builtin.«frozenset.__iter__» ⟨[.ref a],[]⟩) (λfin s'=>fin= .done (.ret (.ref s.heap.objs.size))/\s'={s with heap:=s.heap.push {cls:=.type "set_iterator",data:=.fields #[.int 0 0,.int 0 0,.ref a,.int js.length 0,.int ep 0]}}) E s:=by
  unfold Builtin.«frozenset.__iter__» Ü.Frozenset.sizeOf setDrawn adA;wp_walk using adl ho hd dB,œ ho hd dB,adO ho hd dB;refine ĭ (j_ (j_ ?_));refine õ (λz=>?_) λ_=>?_
  .rw[L_]at z;exact w_ (show false=true from z.2) (by decide)
  .wp_walk using adO ho hd dB;rw[hz];exact⟨a_,a_⟩
 refine aaO hT adX (Æ adX hT Zo (G_ run (λf s' z=>?_) λ_ _ z=>z) (F.args_set_iter_1 _));obtain⟨rfl,rfl⟩:=z;exact⟨_,a_,xa0 ("set_iterator") _ ⟨⟨_,v? _ a_,a_⟩,AO.lookup,hQ⟩⟩
theorem Zr {tk:i_->Tok}{slot ep i:i_}{Q:g? (b_×i_)->d?->Prop}(hS:og w s.heap a js tk ep)(bJ:js∈yu 8)(hi:i<=js.length)(pH:w.params.followText "set-order"=false->slot=if i=0 then 0 else js.getD (i-1) 0+1)(h:Q ((hV w a ep (aO tk js).toArray)[i]?.map λe=>(e.2,if w.params.followText "set-order"=true then slot else js.getD i 0+1)) s):l_ (n_ prog w) A (setNext a slot i ep) Q E s:=by
 obtain⟨o,ho,hex,hd⟩:=hS;obtain⟨hf,AM,pY,aw,Fc⟩:=vU _ (sj (cQ w)) js bJ;have hz:=pX tk js;have dB:(df (cQ w) js).fits (aO tk js).toArray.size=true:=by rw[hz];exact hf
 unfold setNext adA;refine d_ (œ ho hd dB (d_ (d_ (ĭ (j_ ?_)))));dsimp only;refine õ (λhb=>?_) λhb=>?_
 .have fJ:w.params.followText "set-order"=true:=hb;refine õ (λz=>w_ z (by simp)) λ_=>?_;refine d_ ?_;unfold setWalk adA;refine d_ (œ ho hd dB (d_ (d_ (ĭ (j_ ?_)))));dsimp only;refine õ (λ_=>?_) λz=>w_ hb z;refine d_ (ĭ (j_ (j_ ?_)));rw[m_ fJ]at h;unfold hV at h;rw[m_ fJ]at h;exact h
 .have fJ:w.params.followText "set-order"=false:=by
   cases z:w.params.followText "set-order"with
   |false=>rfl
   |true=>exact w_ z hb
  have Fd:cQ w=true:=by unfold cQ;rw[fJ];rfl
  refine õ (λz=>w_ (show false=true from z) (by decide)) λ_=>?_;rw[Fd]at Fc⊢;refine d_ ?_;show l_ _ _ (ó ()) _ _ _;refine j_ (j_ ?_);have e1:=Fc i (Z?.mpr (by lia));simp only[E6,O_]at e1;rw[pH fJ,e1];have e2:hV w a ep (aO tk js).toArray=(aO tk js).toArray:=by unfold hV;rw[fJ];rfl
  rw[e2]at h;simp only[fJ,Ā,aaN]at h;by_cases pZ:i<js.length
  .have e3:(df true js).place[i]?=some js[i]:=by simp[df,pZ]
   have e4:(aO tk js).toArray[i]?=some ((js[i]:f?),ą (js[i]:f?) (tk js[i])):=by simp[aO,pZ]
   rw[e4]at h⊢;rw[e3];have e5:js.getD i 0=js[i]:=by simp[J',pZ]
   rw[e5]at h;exact h
  .have e4:(aO tk js).toArray[i]?=none:=by simp[aO];lia
   rw[e4]at h⊢;exact h
end
theorem Of {α:Type}(next:i_->i_):∀(fuel k:i_)(left:b? α)(out:E? α),left.length=fuel->(ũ.go next fuel k left out).toList.Perm (out.toList++left)
 |0,k,left,out,h=>by have:left=[]:=Ŏ.mp h;subst this;simp[ũ.go]
 |fuel+1,k,left,out,h=>by
  have hp:0<left.length:=by lia
  have aw:next k%left.length<left.length:=i_.mod_lt _ hp;have he:left[next k%left.length]?=some left[next k%left.length]:=by simp[aw]
  unfold ũ.go;rw[he];dsimp only;refine(Of next fuel (k+1) _ _ (by rw[abH aw];lia)).trans ?_;rw[E?.toList_push,aa8];refine b?.Perm.append_left _ ?_;rw[b?.eraseIdx_eq_take_drop_succ];have e:=aaf (next k%left.length) left;rw[ab4 aw]at e;refine(b?.perm_middle (a:=left[next k%left.length]) (l₁:=left.take (next k%left.length)) (l₂:=left.drop (next k%left.length+1))).symm.trans ?_;rw[e]
theorem Og (w:I?)(a:c_)(ep:i_)(es:E? (f?×b_)):(hV w a ep es).toList.Perm es.toList:=by
 unfold hV;split
 .have:=Of (w.params.setOrder a ep) es.size 0 es.toList #[] (by simp);simpa[ũ]using this
 .exact adk _
section
variable {prog:D'}{w:I?}{A:C_}{E:b_->d?->Prop}{s:d?}{a:c_}{js:b? i_}
theorem Oh (tk:i_->Tok)(ep:i_):(hV w a ep (aO tk js).toArray).size=js.length:=by have:=(Og w a ep (aO tk js).toArray).length_eq;rw[Ï,Ï,pX]at this;exact this
theorem Oi {tk:i_->Tok}{it:c_}{ep i:i_}{Q:g? b_->d?->Prop}(hit:so w s.heap it a js ep i)(hS:og w s.heap a js tk ep)(bJ:js∈yu 8)(hi:i<=js.length)(hQ:i<js.length->∀v h',(hV w a ep (aO tk js).toArray)[i]?.map (·.2)=some v->so w h' it a js ep (i+1)->H_ it s.heap h'->Q (some v) {s with heap:=h'})(hE:i=js.length->A.handled=none/\∀h',k?.ExtBut it s.heap h'->Q none {s with heap:=h'}):l_ (n_ prog w) A (ĺ (.ref it)) Q E s:=by
  obtain⟨oi,slot,vY,Oj,vZ,pH⟩:=hit;obtain⟨o,ho,hex,hd⟩:=hS;obtain⟨hf,AM,pY,aw,Fc⟩:=vU _ (sj (cQ w)) js bJ;have hz:=pX tk js;have dB:(df (cQ w) js).fits (aO tk js).toArray.size=true:=by rw[hz];exact hf
  have hT:s.TypeIs (.ref it) "set_iterator":=⟨oi,vY,Oj⟩;unfold ĺ;refine d_ (ach (Ũ hT AO (Æ AO hT Zm ?_ (Zn _))));unfold Builtin.«set_iterator.__next__»;generalize hN:setNext=SN;wp_walk using abN vY vZ,adl ho hd dB;subst hN;rw[R_,R_,R_];refine Zr (tk:=tk) ⟨o,ho,hex,hd⟩ bJ hi pH ?_;have Fe:=Oh (w:=w) (a:=a) (js:=js) tk ep;rcases i_.lt_or_eq_of_le hi with hi|rfl
  . obtain⟨e,he⟩:∃e,(hV w a ep (aO tk js).toArray)[i]?=some e:=⟨(hV w a ep (aO tk js).toArray)[i]'(by lia),by simp[Fe,hi]⟩
    rw[he];have iE:=R? (þ (·.setIfInBounds 0 (ŝ ((if w.params.followText "set-order"=true then slot else js.getD i 0+1:i_):f?)))) vY (Ž (ö vZ _));have nZ:=ö vZ (·.setIfInBounds 0 (ŝ ((if w.params.followText "set-order"=true then slot else js.getD i 0+1:i_):f?)));have iW:=R? (þ (·.setIfInBounds 1 (ŝ ((i:f?)+1)))) iE (Ž (ö nZ _));have hd2:=ö nZ (·.setIfInBounds 1 (ŝ ((i:f?)+1)));refine d_ (abL vY vZ (by simp) ?_);refine d_ (abL iE nZ (by simp) ?_);refine j_ ⟨_,a_,j_ (hQ hi _ _ (by rw[he];rfl) (xa0 _ (if w.params.followText "set-order"=true then slot else js.getD i 0+1) ⟨iW,?_,?_,λz=>?_⟩) ((ē ..).trans (ē ..)))⟩
    . rw[aaK,aaK];exact Oj
    . rw[hd2];simp[ŝ]
    . rw[z];simp
  . obtain⟨hh,hQ⟩:=hE a_
    have he:(hV w a ep (aO tk js).toArray)[js.length]?=none:=by simp[Fe]
    rw[he];refine d_ (abL vY vZ (by simp) ?_);unfold newExc raiseNew newTuple ae1;wp_walk using ù;all_goals first
      | (show l_ _ _ (isSubtype (.type "StopIteration") (.type "StopIteration")) _ _ _
         rw[aeZ];exact j_ (j_ (hQ _ (((ē ..).extBut.push _).push _))))
      |(unfold e_;size_fits)
      |size_fits
theorem Zs {Q:o?->d?->Prop}(hT:s.TypeIs (.ref a) "set")(h:Q false s):l_ (n_ prog w) A (abe (.ref a)) Q E s:=by
 have i2:splitId "set.__len__"=some ("set","__len__"):=by decide+kernel
 unfold abe;refine d_ (aet hT F.slot_set_len.lookup ?_);dsimp only;rw[i2];refine d_ (wpAny_isInstance (T:="set") (b:=true) hT sub_set_self (õ (λz=>w_ z (by decide)) λ_=>?_));refine õ (λ_=>d_ (acC hT (j_ h))) λz=>w_ (by decide+kernel) z
theorem og.keep {tk:i_->Tok}{ep:i_}{h h':k?}(x:og w h a js tk ep)(k:∀o,h.get? a=some o->h'.get? a=some o):og w h' a js tk ep:=by obtain⟨o,e,r⟩:=x;exact⟨o,k o e,r⟩
theorem so.keep {it:c_}{ep i:i_}{h h':k?}(x:so w h it a js ep i)(k:∀o,h.get? it=some o->h'.get? it=some o):so w h' it a js ep i:=by obtain⟨o,sl,e,r⟩:=x;exact(xa0 o sl ⟨k o e,r⟩)
theorem Ol:Slot "set_iterator" "__iter__" "set_iterator.__iter__":=
 .of (owner:="set_iterator") (n:="__iter__") (by rw[aeu,acR];kernel_rfl) (by decide+kernel) (by decide+kernel) (by decide+kernel) (by first|exact .inl (by decide+kernel)|exact .inr (by decide+kernel)) (by rw[aeY];kernel_rfl)
theorem Zt:abS table "set_iterator.__iter__"=some Builtin.«dict_keyiterator.__iter__»:=ae2 (id':="dict_keyiterator.__iter__") (by kernel_rfl) a_ (by decide+kernel) (by kernel_rfl)
theorem Zu (a:b_):argsOk "set_iterator.__iter__" ⟨[a],[]⟩:=by unfold argsOk;rw[afp (id:="set_iterator.__iter__") (n:=['_','_','r','e','t','i','_','_']) (o:=['r','o','t','a','r','e','t','i','_','t','e','s']) (by kernel_rfl) Oe];kernel_rfl
theorem Zv {it:c_}{Q:b_->d?->Prop}(hT:s.TypeIs (.ref it) "set_iterator")(hQ:Q (.ref it) s):l_ (n_ prog w) A (abO (.ref it)) Q E s:=by refine aaO hT Ol (Æ Ol hT Zt ?_ (Zu _));unfold Builtin.«dict_keyiterator.__iter__»;wp_walk;exact⟨_,a_,xa0 ("set_iterator") _ ⟨hT,AO.lookup,hQ⟩⟩
theorem Zw {tk:i_->Tok}{ep:i_}(bJ:js∈yu 8):PySem.W.KdlSrc prog w "set" a a js.length (λi v=>(hV w a ep (aO tk js).toArray)[i]?.map (·.2)=some v) (λh=>og w h a js tk ep) where
 type:=λ_ ⟨o,ho,hex,_⟩=>⟨o,ho,hex.1⟩
 there:=λ_ ⟨o,ho,_⟩=>⟨r? ho,r? ho⟩
 keep:=λ_ _ hm hk=>hm.keep λo e=>hk a (.inl a_) o e
 notList:=by decide
 notTuple:=by decide
 hint:=λ_ _ _ _ ⟨o,ho,hex,_⟩ hq=>Zs ⟨o,ho,hex.1⟩ hq
 iter:=λA s hh hm=>(xa0 _ (λi h=>so w h s.heap.objs.size a js ep i/\og w h a js tk ep) ⟨λ_ _ hq=>Zp hm bJ hq,by
  obtain⟨o,ho,hr⟩:=id hm;have ne:a≠s.heap.objs.size:=N? (r? ho);refine⟨λb hb=>D?.mpr (.inl (j'.mp hb)),λi h h' ⟨x,y⟩ k=>⟨x.keep λo e=>k _ (by simp) o e,y.keep λo e=>k _ (by simp) o e⟩,λi s' Q E hi ⟨x,y⟩ hQ=>?_,λs' Q E ⟨x,y⟩ hQ=>?_,λi s' Q E ⟨x,y⟩ hQ=>?_⟩
  .refine Oi x y bJ (aam hi) (λ_ v h' hv x' sb=>?_) λz=>w_ z (N? hi);exact hQ v h' s'.toks hv ⟨x',y.keep λo e=>(sb.2 a ne).trans e⟩ λb o hb e=>(sb.2 b (λz=>hb (by simp[z]))).trans e
  .exact Oi x y bJ (r_ _) (λz=>w_ z (Ě _)) λ_=>⟨hh,λh' eb=>hQ h' s'.toks λb o hb e=>eb b o (λz=>hb (by simp[z])) e⟩
  .obtain⟨o,sl,e,c,_⟩:=x;exact Zv ⟨o,e,c⟩ hQ,⟨(xa0 _ 0 ⟨v? _ a_,a_,a_,λ_=>by simp⟩),hm.keep λo e=>f_ _ e⟩⟩)
end
noncomputable def Ff (w:I?)(a:c_)(js:b? i_):HO:=.ext λh=>mj w h a js
section
variable {X:Cx}
theorem Zy {js:b? i_}(up:js.Pairwise (·<·)){ns:b? f?}(hp:ns.Perm (js.map λ(j:i_)=>(j:f?)))(hs:ns.Pairwise (·<=·)):ns=js.map λ(j:i_)=>(j:f?):=by
 have Zz:(js.map λ(j:i_)=>(j:f?)).Pairwise (·<=·):=by rw[aaX];exact up.imp λh=>by lia
 exact Ď (λa b _ _ h1 h2=>f?.le_antisymm h1 h2) hs Zz hp
theorem ZA {tk:i_->Tok}{l:b? i_}{vs:b? b_}(h:vs.Perm (l.map λ(j:i_)=>ą (j:f?) (tk j))):∃ns,Y? vs ns/\ns.Perm (l.map λ(j:i_)=>(j:f?)):=by
 have all:∀v∈vs,∃(z:f?)(t:Tok),v=ą z t:=λv hv=>by obtain⟨j,_,rfl⟩:=H?.mp (h.mem_iff.mp hv);exact(xa0 _ _ a_)
 let f:b_->f?:=λv=>match v with| .int z _=>z|_=>0;refine⟨vs.map f,?_,?_⟩
 .clear h;induction vs with
  |nil=>exact .nil
  |cons v r ih=>obtain⟨z,t,rfl⟩:=all v (p? ..);exact .cons z t (ih λu hu=>all u (q_ _ hu))
 .have:=h.map f;rw[aav]at this;exact this
theorem ZC (hc:X.calm=true):ef X (.type "set") (λxs H Q=>∃(p:c_)(ns:b? f?),xs=[.ref p]/\af X.K H p (ns.map V.int)/\(∀z∈ns,0<=z/\z<8)/\∀(q:c_)(js:b? i_),H q=none->js∈yu 8->(∀k:i_,k∈js↔(k:f?)∈ns)->Q (.ref q) (upd H q (Ff X.w q js))):=by
 intro pins s U H xs us Q I r h;obtain⟨p,ns,rfl,hq,h6,q⟩:=h;obtain⟨u,rfl,rx⟩:=vals1 r;cases rx;obtain⟨its,r',pl,hz⟩:=I.list hq;refine Zh (I.ok.hd hc) pl.isList (intsAre_of r') h6 λh' tk js a1 a2 a3 a4=>?_;have hn:H s.heap.objs.size=none:=I.fresh;obtain⟨o,_,_,ho,_⟩:=id a3;exact(xa0 (.ref s.heap.objs.size) _ ⟨I.laid (a:=s.heap.objs.size) (o:=Ff X.w s.heap.objs.size js) (t':=tk) a4 (r_ _) ⟨a3,⟨o,ho⟩,λh1 h2 x k=>x.keep k⟩,a_,q _ js hn a1 a2⟩)
theorem ZD (hc:X.calm=true):ef X (.builtin "sorted") (λxs H Q=>∃(p:c_)(js:b? i_),xs=[.ref p]/\H p=some (Ff X.w p js)/\js∈yu 8/\∀q:c_,H q=none->Q (.ref q) (upd H q (.lst (js.map λ(j:i_)=>V.int j)))):=by
 intro pins s U H xs us Q I r h;obtain⟨p,js,rfl,hq,bJ,q⟩:=h;obtain⟨u,rfl,rx⟩:=vals1 r;cases rx;obtain⟨hS,_,_⟩:=I.ag p _ hq;obtain⟨o,tk,ep,ho,hex,hd⟩:=hS;obtain⟨hf,AM,pY,aw,_⟩:=vU _ (sj (cQ X.w)) js bJ;have line:js.length<=k_:=by rw[Ĳ];lia
 refine ļ adf acJ acK (acL _) ?_;show l_ (n_ X.prog X.w) X.A.in1 (do ŵ "sorted" 1 1 _;_) _ _ s;refine d_ (m:=ŵ "sorted" 1 1 _) (j_ (d_ (abB (A:=X.A.in1) (Zw (tk:=tk) (ep:=ep) bJ) (I.ok.hd hc) ⟨o,ho,hex,hd⟩ line λh' fR acc hk cK=>?_)));have hl:acc.toList.length=js.length:=by rw[Ï];exact cK.1
 refine d_ (aaA ?_ (by rw[hl];exact line));have Fe:=Oh (w:=X.w) (a:=p) (js:=js) tk ep;have Fg:acc.toList=(hV X.w p ep (aO tk js).toArray).toList.map (·.2):=by
  refine aa7 λi=>?_;rw[y_,đ,đ];cases e:acc[i]? with
  |some v=>rw[cK.2 i v e]
  |none=>
   have:js.length<=i:=by rw[<-cK.1];exact E?.getElem?_eq_none_iff.mp e
   rw[acO (by lia)];rfl
 have kR:(h'.push (è "list" acc.toList.toArray 0)).get? h'.objs.size=some (è "list" acc.toList.toArray 0):=v? _ a_;have hI:∃ns,Y? acc.toList ns/\ns.Perm (js.map λ(j:i_)=>(j:f?)):=by have Om:=(Og X.w p ep (aO tk js).toArray).map (·.2);rw[<-Fg,aaE]at Om;exact ZA (l:=js) (tk:=tk) (by simpa[aO,Function.comp_def]using Om)
 obtain⟨ns,hI,wA⟩:=hI;refine d_ (M? (Æ ab2 ⟨_,kR,a_⟩ aby (afi kR hI (by rw[hl];lia) λout lU a1 a2 a3=>⟨_,a_,?_⟩) (ab3 _)));have I1:Inv X pins U H {s with heap:=h',toks:=fR}:=I.kept hk;obtain⟨e,he⟩:=afy (out:=out) kR;have old:∀b o,h'.get? b=some o->(ab1 (h'.push (è "list" acc.toList.toArray 0)) h'.objs.size acc.toList out).get? b=some o:=λb o z=>(afh (N? (r? z)) (r? (f_ _ z))).trans (f_ _ z);have hn:H h'.objs.size=none:=I1.ag.fresh (r_ _);have e3:=Zy pY (a2.trans wA) a3;refine j_ ⟨_,a_,xa0 (.ref h'.objs.size) _ ⟨I1.laid (a:=h'.objs.size) (o:=.lst (js.map λ(j:i_)=>V.int j)) (t':=fR) old (r_ _) ⟨?_,xa0 out.toList e ⟨?_,he⟩⟩,a_,q _ hn⟩⟩
 .rw[g_];exact line
 .have:=EF a1;rw[e3,aav]at this;exact this
theorem ZE (hc:X.calm=true):ef X (.builtin "sorted") (λxs H Q=>∃(p:c_)(kvs:b? (Key×V))(ns:b? f?),xs=[.ref p]/\H p=some (.dK kvs)/\kvs.map (·.1)=ns.map S_/\ns.length<64/\ns.Pairwise (·<·)/\∀q:c_,H q=none->Q (.ref q) (upd H q (.lst (ns.map V.int)))):=by
 intro pins s U H xs us Q I r h;obtain⟨p,kvs,ns,rfl,hp,ek,l64,up,q⟩:=h;obtain⟨u,rfl,rx⟩:=vals1 r;cases rx;obtain⟨hz,lo,vs,rel,o,es,ep,ho,hx,hd,r1,r2,r3⟩:=I.ag p _ hp;have hm:s.heap.DictAt (qy X.prog X.w) p vs ep:=(xa0 o es ⟨ho,hx,hd,r1,r2,r3⟩);have hlen:kvs.length=vs.length:=q? rel;have hl0:kvs.length=ns.length:=by have:=X? Ĕ ek;rwa[g_,g_]at this
 refine ļ adf acJ acK (acL _) ?_;show l_ (n_ X.prog X.w) X.A.in1 (do ŵ "sorted" 1 1 _;_) _ _ s;refine d_ (m:=ŵ "sorted" 1 1 _) (j_ (d_ (abB (A:=X.A.in1) (PySem.W.kdl_dict (knd:=qy X.prog X.w) (kvs:=vs) (ep:=ep) lo) (I.ok.hd hc) hm (by lia) λh' fR acc hk cK=>?_)));have hl:acc.toList.length=ns.length:=by rw[Ï];have:=cK.1;lia
 have line:ns.length<=k_:=by rw[Ĳ];lia
 refine d_ (aaA ?_ (by rw[hl];exact line));have kR:(h'.push (è "list" acc.toList.toArray 0)).get? h'.objs.size=some (è "list" acc.toList.toArray 0):=v? _ a_;have hI:Y? acc.toList ns:=intsAre_of (N4 (by rw[g_,hl]) λi x v ex ev=>by
  obtain⟨k,y,e1,i9⟩:=cK.2 i v (by rw[<-đ];exact ev);rw[y_]at ex;cases e2:kvs[i]? with
  |none=>have:=ř.mp e2;rw[Ű (by lia)]at ex;cases ex
  |some kv=>
   obtain⟨z,e3,_⟩:=Es rel e2;rw[e3]at e1;cases e1;have e4:(kvs.map (·.1))[i]?=some kv.1:=by rw[y_,e2];rfl
   rw[ek,y_]at e4;cases e5:ns[i]? with
   |none=>rw[e5]at e4;cases e4
   |some n=>rw[e5]at e4 ex;cases ex;have e6:kv.1=S_ n:=(s_ e4).symm;have:=Nf i9;rw[e6]at this;exact this)
 refine d_ (M? (Æ ab2 ⟨_,kR,a_⟩ aby (afi kR hI (by rw[hl];lia) λout lU a1 a2 a3=>⟨_,a_,?_⟩) (ab3 _)));have I1:Inv X pins U H {s with heap:=h',toks:=fR}:=I.kept hk;obtain⟨e,he⟩:=afy (out:=out) kR;have old:∀b o,h'.get? b=some o->(ab1 (h'.push (è "list" acc.toList.toArray 0)) h'.objs.size acc.toList out).get? b=some o:=λb o z=>(afh (N? (r? z)) (r? (f_ _ z))).trans (f_ _ z);have hn:H h'.objs.size=none:=I1.ag.fresh (r_ _);have e3:lU=ns:=Ď (λa b _ _ h1 h2=>by lia) a3 (up.imp λh=>f?.le_of_lt h) a2;refine j_ ⟨_,a_,xa0 (.ref h'.objs.size) _ ⟨I1.laid (a:=h'.objs.size) (o:=.lst (ns.map V.int)) (t':=fR) old (r_ _) ⟨?_,xa0 out.toList e ⟨?_,he⟩⟩,a_,q _ hn⟩⟩
 .rw[g_];exact line
 .have:=EF a1;rw[e3]at this;exact this
end
end L2
set_option Elab.async false
set_option linter.all false
set_option compiler.extract_closed false
set_option maxRecDepth 100000
namespace M
structure O where
 p:f?
 n:f?
 g:f?
 m:f?
 deriving DecidableEq
noncomputable def zc (q:f?)(o:O):o?:=s? (0<=o.p/\o.p<=q-1/\0<=o.g/\o.g<=q-1/\o.p≠o.g/\0<=o.n/\o.n<=99/\1<=o.m/\o.m<=1000)
theorem qc {q:f?}{o:O}:zc q o=true↔(0<=o.p/\o.p<=q-1/\0<=o.g/\o.g<=q-1/\o.p≠o.g/\0<=o.n/\o.n<=99/\1<=o.m/\o.m<=1000):=by unfold zc;rw[aaI]
end M
namespace M
open PySem L2
theorem dC:0<=k_:=by decide
theorem oh:1<=k_:=by decide
theorem oj:2<=k_:=by decide
theorem oq:3<=k_:=by decide
theorem Oo:4<=k_:=by decide
theorem ZF:5<=k_:=by decide
theorem ZG:6<=k_:=by decide
theorem ZH:7<=k_:=by decide
theorem ZI:9<=k_:=by decide
theorem Oq:11<=k_:=by decide
theorem y6 {X:Cx}{e0 e1:G?}{t0 t1:TE}(h0:PE X e0 t0)(h1:PE X e1 t1)(s0:e_ (isStar e0=false) aP1)(s1:e_ (isStar e1=false) aP1):PA X [e0,e1] (vu t0 (vu t1 lT)):=by refine jc h0 ?_ s0;refine jc h1 ?_ s1;exact jf
theorem cq {X:Cx}{e0 e1 e2:G?}{t0 t1 t2:TE}(h0:PE X e0 t0)(h1:PE X e1 t1)(h2:PE X e2 t2)(s0:e_ (isStar e0=false) aP1)(s1:e_ (isStar e1=false) aP1)(s2:e_ (isStar e2=false) aP1):PA X [e0,e1,e2] (vu t0 (vu t1 (vu t2 lT))):=by refine jc h0 ?_ s0;refine jc h1 ?_ s1;refine jc h2 ?_ s2;exact jf
theorem Ot {X:Cx}{e0 e1 e2 e3:G?}{t0 t1 t2 t3:TE}(h0:PE X e0 t0)(h1:PE X e1 t1)(h2:PE X e2 t2)(h3:PE X e3 t3)(s0:e_ (isStar e0=false) aP1)(s1:e_ (isStar e1=false) aP1)(s2:e_ (isStar e2=false) aP1)(s3:e_ (isStar e3=false) aP1):PA X [e0,e1,e2,e3] (vu t0 (vu t1 (vu t2 (vu t3 lT)))):=by refine jc h0 ?_ s0;refine jc h1 ?_ s1;refine jc h2 ?_ s2;refine jc h3 ?_ s3;exact jf
theorem Fh {X:Cx}{e0 e1 e2 e3 e4:G?}{t0 t1 t2 t3 t4:TE}(h0:PE X e0 t0)(h1:PE X e1 t1)(h2:PE X e2 t2)(h3:PE X e3 t3)(h4:PE X e4 t4)(s0:e_ (isStar e0=false) aP1)(s1:e_ (isStar e1=false) aP1)(s2:e_ (isStar e2=false) aP1)(s3:e_ (isStar e3=false) aP1)(s4:e_ (isStar e4=false) aP1):PA X [e0,e1,e2,e3,e4] (vu t0 (vu t1 (vu t2 (vu t3 (vu t4 lT))))):=by refine jc h0 ?_ s0;refine jc h1 ?_ s1;refine jc h2 ?_ s2;refine jc h3 ?_ s3;refine jc h4 ?_ s4;exact jf
theorem ZJ {X:Cx}{e0 e1 e2 e3 e4 e5 e6:G?}{t0 t1 t2 t3 t4 t5 t6:TE}(h0:PE X e0 t0)(h1:PE X e1 t1)(h2:PE X e2 t2)(h3:PE X e3 t3)(h4:PE X e4 t4)(h5:PE X e5 t5)(h6:PE X e6 t6)(s0:e_ (isStar e0=false) aP1)(s1:e_ (isStar e1=false) aP1)(s2:e_ (isStar e2=false) aP1)(s3:e_ (isStar e3=false) aP1)(s4:e_ (isStar e4=false) aP1)(s5:e_ (isStar e5=false) aP1)(s6:e_ (isStar e6=false) aP1):PA X [e0,e1,e2,e3,e4,e5,e6] (vu t0 (vu t1 (vu t2 (vu t3 (vu t4 (vu t5 (vu t6 lT))))))):=by refine jc h0 ?_ s0;refine jc h1 ?_ s1;refine jc h2 ?_ s2;refine jc h3 ?_ s3;refine jc h4 ?_ s4;refine jc h5 ?_ s5;refine jc h6 ?_ s6;exact jf
theorem ZK {X:Cx}{e0 e1 e2 e3 e4 e5 e6 e7 e8 e9 Fi:G?}{t0 t1 t2 t3 t4 t5 t6 t7 t8 t9 Fj:TE}(h0:PE X e0 t0)(h1:PE X e1 t1)(h2:PE X e2 t2)(h3:PE X e3 t3)(h4:PE X e4 t4)(h5:PE X e5 t5)(h6:PE X e6 t6)(h7:PE X e7 t7)(h8:PE X e8 t8)(h9:PE X e9 t9)(ZL:PE X Fi Fj)(s0:e_ (isStar e0=false) aP1)(s1:e_ (isStar e1=false) aP1)(s2:e_ (isStar e2=false) aP1)(s3:e_ (isStar e3=false) aP1)(s4:e_ (isStar e4=false) aP1)(s5:e_ (isStar e5=false) aP1)(s6:e_ (isStar e6=false) aP1)(s7:e_ (isStar e7=false) aP1)(s8:e_ (isStar e8=false) aP1)(s9:e_ (isStar e9=false) aP1)(dQ:e_ (isStar Fi=false) aP1):PA X [e0,e1,e2,e3,e4,e5,e6,e7,e8,e9,Fi] (vu t0 (vu t1 (vu t2 (vu t3 (vu t4 (vu t5 (vu t6 (vu t7 (vu t8 (vu t9 (vu Fj lT))))))))))):=by refine jc h0 ?_ s0;refine jc h1 ?_ s1;refine jc h2 ?_ s2;refine jc h3 ?_ s3;refine jc h4 ?_ s4;refine jc h5 ?_ s5;refine jc h6 ?_ s6;refine jc h7 ?_ s7;refine jc h8 ?_ s8;refine jc h9 ?_ s9;refine jc ZL ?_ dQ;exact jf
noncomputable def top (i:i_):K?:=PySem.Challenge.pw_manypurses_k20_whole_world_audits.main.body.getD i (.Pass ⟨0,0,0,0⟩)
noncomputable abbrev AQ:K?:=top 17
noncomputable abbrev AR:K?:=top 18
noncomputable abbrev AS:K?:=top 32
noncomputable abbrev AU:K?:=top 34
noncomputable abbrev wB:K?:=top 19
noncomputable abbrev AV:K?:=top 20
noncomputable abbrev ki:K?:=top 24
noncomputable abbrev AW:K?:=top 25
noncomputable abbrev Fl:K?:=top 26
noncomputable abbrev Fm:K?:=top 27
noncomputable abbrev AX:K?:=top 39
noncomputable abbrev kl:K?:=top 40
noncomputable abbrev vf:K?:=inClass (top 9) 0
noncomputable abbrev Fo:K?:=top 59
noncomputable abbrev Fp:K?:=top 60
noncomputable abbrev kh:K?:=inClass (top 53) 0
noncomputable abbrev vm:K?:=inClass (top 53) 4
noncomputable abbrev wC:K?:=inClass (top 53) 1
noncomputable abbrev AY:K?:=inClass (top 53) 5
noncomputable abbrev vq:K?:=inClass (top 2) 0
noncomputable abbrev gz:K?:=inClass (top 2) 1
noncomputable abbrev wD:K?:=inClass (top 2) 2
noncomputable abbrev wF:K?:=inClass (top 2) 3
noncomputable abbrev wq:K?:=inClass (top 55) 0
noncomputable abbrev kc:K?:=inClass (top 55) 2
noncomputable abbrev xo:K?:=inClass (top 55) 8
noncomputable abbrev yb:K?:=inClass (top 55) 7
noncomputable abbrev gs:K?:=inClass (top 55) 6
noncomputable abbrev AZ:K?:=inClass (top 55) 3
noncomputable abbrev yy:K?:=inClass (top 55) 4
noncomputable abbrev Fq:K?:=inClass (top 61) 0
noncomputable abbrev A0:K?:=inClass (top 61) 7
noncomputable abbrev A3:K?:=inClass (top 61) 1
noncomputable abbrev A4:K?:=inClass (top 61) 13
noncomputable abbrev gc:K?:=inClass (top 61) 20
noncomputable abbrev A5:K?:=inClass (top 61) 9
noncomputable abbrev A6:K?:=inClass (top 61) 10
noncomputable abbrev A7:K?:=inClass (top 61) 11
noncomputable abbrev yz:K?:=inClass (top 61) 22
noncomputable abbrev y4:K?:=inClass (top 61) 23
noncomputable abbrev y0:K?:=inClass (top 61) 24
noncomputable abbrev vh:K?:=inClass (top 61) 21
noncomputable abbrev zy:K?:=inClass (top 61) 19
noncomputable abbrev yk:K?:=inClass (top 61) 18
noncomputable abbrev wG:K?:=inClass (top 61) 3
noncomputable abbrev A8:K?:=inClass (top 61) 4
noncomputable abbrev A9:K?:=inClass (top 61) 5
noncomputable abbrev Ba:K?:=inClass (top 61) 6
noncomputable abbrev wH:K?:=inClass (top 61) 8
noncomputable abbrev kj:K?:=inClass (top 61) 16
noncomputable abbrev Fs:K?:=top 33
noncomputable abbrev wI:K?:=top 35
noncomputable abbrev Bb:K?:=top 42
noncomputable abbrev Ft:K?:=top 43
noncomputable abbrev wJ:K?:=top 44
noncomputable abbrev Bc:K?:=top 45
noncomputable abbrev Bd:K?:=top 46
noncomputable abbrev Fu:K?:=top 47
noncomputable abbrev Fv:K?:=top 48
noncomputable abbrev Be:K?:=top 49
noncomputable abbrev wK:K?:=top 50
noncomputable abbrev Bf:K?:=top 51
noncomputable abbrev Bg:K?:=top 63
noncomputable abbrev wL:K?:=top 64
noncomputable abbrev Bh:K?:=top 65
noncomputable abbrev gp:K?:=top 66
noncomputable abbrev wM:K?:=top 67
noncomputable abbrev wN:K?:=top 68
noncomputable abbrev wO:K?:=top 69
noncomputable abbrev wQ:K?:=top 70
noncomputable abbrev wR:K?:=top 71
noncomputable abbrev wU:K?:=top 72
noncomputable abbrev vp:K?:=top 73
noncomputable abbrev wV:K?:=top 74
theorem wX:qd ["thing","purses","purse","number","goal","much"] ["thing","purses"] (jt AS):=bG
theorem Bi:qd ["things","bound","least","thing"] ["things","bound"] (jt wB):=bG
theorem Ou:qd ["self","house","thing","houses"] ["self","house","thing"] (jt wC):=bG
theorem Ov:qd ["self","sums"] ["self","sums"] (jt vq):=bG
theorem Ow:qd ["self","order"] ["self","order"] (jt gz):=bG
theorem qw:qd ["self","order","purse","number","goal","much"] ["self","order"] (jt wD):=bG
theorem qv:qd ["self","order","purse","number","goal","much"] ["self","order"] (jt wF):=bG
theorem yi:qd ["self","votes","later","order"] ["self"] (jt xo):=bG
theorem Ox:qd ["self","order"] ["self"] (jt yb):=bG
theorem Fw:qd ["self","order"] ["self"] (jt gs):=bG
theorem Oy:qd ["self","word","order","house"] ["self","word","order"] (jt zy):=bG
theorem Oz:qd ["self","house","orders","order"] ["self","house","orders"] (jt yk):=bG
theorem Fx:qd ["self","purse","goal","much","asked","order"] ["self","purse","goal","much"] (jt wG):=bG
theorem wu:qd ["self","at","letter","word","house","order","keeper"] ["self","at"] (jt wH):=bG
theorem qA:qd ["orders","sums","told","order","purse","number","goal","much"] ["orders","sums"] (jt wI):=bG
theorem OA:qd ["places","book","orders"] ["places","book"] (jt wJ):=bG
theorem wY:qd ["orders","sums","places","book","due"] ["orders","sums"] (jt Bc):=bG
theorem Fy:qd ["orders","sums","book","order"] ["orders","sums"] (jt Be):=bG
theorem OB:qd ["purse","places","book","order"] ["purse","places","book"] (jt wK):=bG
theorem Fz:qd ["orders","sums","book","places"] ["orders","sums"] (jt Bf):=bG
theorem ur:qd ["_law_town_here","_law_many","_law_row","_law_at","_law_cell","_law_mixed"] ["_law_town_here","_law_many"] (jt wL):=bG
theorem yj:qd ["_law_caught","_law_kinds","_law_words"] ["_law_caught"] (jt gp):=bG
theorem FA:qd ["_law_town_here","_law_size","_law_most","_law_found","_law_one"] ["_law_town_here","_law_size","_law_most"] (jt wM):=bG
theorem y3:qd ["_law_town_here","_law_some_here","_law_crew","_law_foes","_law_begin","_law_rogues","_law_world_here"] ["_law_town_here"] (jt wN):=bG
theorem qr:qd ["_law_kind","_law_world_here","_law_one","_law_two","_law_three","_law_told_here","_law_caught","e"] ["_law_kind","_law_world_here","_law_one","_law_two","_law_three"] (jt wO):=bG
theorem OD:qd ["_law_town_here","_law_world_here","_law_there"] ["_law_town_here","_law_world_here"] (jt wQ):=bG
theorem FD:qd ["_law_town_here","_law_parts","_law_purse","_law_many","_law_goal"] ["_law_town_here","_law_parts","_law_purse"] (jt wR):=bG
theorem xl:qd ["_law_town_here","_law_parts","_law_share","_law_world_here","_law_crew","_law_some_here","_law_foes","_law_honest","_law_begin","_law_rogues","_law_many","_law_kind","_law_order_here","_law_purse","_law_goal"] ["_law_town_here","_law_parts","_law_share"] (jt wU):=bG
theorem OE:qd ["_law_town_here","_law_world_here","_law_turn"] ["_law_town_here","_law_world_here"] (jt vp):=bG
theorem fT:qd ["_law_script","_law_town_here","_law_parts","_law_world_here","_law_crew","_law_some_here","_law_foes","_law_honest","_law_begin","_law_rogues","_law_turn","_law_house","_law_papers","_law_done"] ["_law_script"] (jt wV):=bG
theorem ZM:(["thing","self"]:b? y?).Nodup:=by decide+kernel
theorem ZN:(["order","self"]:b? y?).Nodup:=by decide+kernel
theorem ZO:(["keeper","purse","asked"]:b? y?).Nodup:=by decide+kernel
theorem ZP:(["each"]:b? y?).Nodup:=by decide+kernel
theorem ZQ:(["each"]:b? y?).Nodup:=by decide+kernel
theorem ZR:(["house","sums","liars"]:b? y?).Nodup:=by decide+kernel
theorem ZT:(["_law_k","_law_foes"]:b? y?).Nodup:=by decide+kernel
theorem ZU:(["_law_k","_law_town_here"]:b? y?).Nodup:=by decide+kernel
theorem ZV:(["thing","purses"]:b? y?).Nodup:=by decide+kernel
theorem ZW:(["order"]:b? y?).Nodup:=by decide+kernel
theorem ZX:(["order","book"]:b? y?).Nodup:=by decide+kernel
theorem OF:(["purse","number","places"]:b? y?).Nodup:=by decide+kernel
theorem ZY:(["order","book"]:b? y?).Nodup:=by decide+kernel
theorem OH:(["purse","number","places","book"]:b? y?).Nodup:=by decide+kernel
theorem ZZ:(["_law_order_here"]:b? y?).Nodup:=by decide+kernel
theorem boot_isinstance:N_ "isinstance"=some (.builtin "isinstance"):=by decide+kernel
theorem boot_bool:N_ "bool"=some (.type "bool"):=by decide+kernel
theorem boot_int:N_ "int"=some (.type "int"):=by decide+kernel
theorem boot_len:N_ "len"=some (.builtin "len"):=by decide+kernel
theorem boot_tuple:N_ "tuple"=some (.type "tuple"):=by decide+kernel
theorem boot_sorted:N_ "sorted"=some (.builtin "sorted"):=by decide+kernel
theorem boot_list:N_ "list"=some (.type "list"):=by decide+kernel
theorem boot_sum:N_ "sum"=some (.builtin "sum"):=by decide+kernel
theorem boot_max:N_ "max"=some (.builtin "max"):=by decide+kernel
theorem boot_all:N_ "all"=some (.builtin "all"):=by decide+kernel
theorem Z5:N_ "ValueError"=some (.type "ValueError"):=by decide+kernel
theorem boot_min:N_ "min"=some (.builtin "min"):=by decide+kernel
theorem boot_set:N_ "set"=some (.type "set"):=by decide+kernel
set_option genInjectivity false in
structure Ad where
 FE:c_
 FF:l'
 FG:c_
 FH:l'
 FI:c_
 Bj:l'
 FJ:c_
 FK:l'
 FL:c_
 FN:l'
 FO:c_
 FP:l'
 FQ:c_
 FR:l'
 FT:c_
 FU:l'
 FV:c_
 FW:l'
 FX:c_
 FY:l'
 FZ:c_
 F1:l'
 F8:c_
 F9:l'
 Ga:c_
 Gb:l'
 Gd:c_
 Ge:l'
 Gf:c_
 Gg:l'
 ka:c_
 Gh:l'
 Gi:c_
 Gj:l'
 Gk:c_
 Gm:l'
 Gp:c_
 Gq:l'
 yn:c_
 Bk:l'
 gu:c_
 Bl:l'
 wZ:c_
 Bm:l'
 uz:c_
 Bn:l'
 wz:c_
 Gr:l'
 Gs:c_
 Gu:l'
 ub:c_
 ku:l'
 Gw:c_
 Gx:l'
 Gy:c_
 GA:l'
 GB:c_
 GC:l'
 pf:c_
 ui:l'
 kb:c_
 GD:l'
 GF:c_
 GG:l'
 OI:c_
 OJ:l'
 GH:c_
 GI:l'
 GJ:c_
 GK:l'
 GN:c_
 GO:l'
 GP:c_
 GQ:l'
 GR:c_
 GS:l'
 ph:c_
 kq:l'
 uf:c_
 ko:l'
 pe:c_
 ue:l'
 uy:c_
 GU:l'
 gj:c_
 gk:l'
 GV:c_
 GW:l'
 GX:c_
 GY:l'
 GZ:c_
 G0:l'
 G7:c_
 G9:l'
 Ha:c_
 Hb:l'
 Hc:c_
 Hd:l'
 He:c_
 Hf:l'
 Hg:c_
 Hh:l'
 Hi:c_
 Hj:l'
 Hk:c_
 Hl:l'
 Hm:c_
 Hn:l'
 Ho:c_
 Hq:l'
 Hr:c_
 Hs:l'
 Ht:c_
 Hu:l'
 Hv:c_
 Hw:l'
 Hx:c_
 Hy:l'
 Hz:c_
 HE:l'
 HF:c_
 HG:l'
 HH:c_
 HI:l'
 HJ:c_
 HK:l'
 HL:c_
 HM:l'
 HN:c_
 HP:l'
 HQ:c_
 HR:l'
 HS:c_
 HU:l'
 HV:c_
 HW:l'
 HX:c_
 HY:l'
 HZ:c_
 Ia:l'
 Ib:c_
 Ic:l'
 Ie:c_
 Ig:l'
 Ih:c_
 Ii:l'
 Ij:c_
 Ik:l'
 ic:c_
 j6:c_
 j4:c_
 fU:c_
 xm:c_
 vy:c_
 jK:c_
 wa:c_
 Il:c_
 Im:c_
 Io:c_
 Ip:c_
 Iq:c_
 Ir:c_
 Iu:c_
 Iv:c_
noncomputable def asked (t:Ad):b? b_:=[.ref t.Ir,.ref t.Iu,.ref t.Iv,.ref t.Ip,.ref t.xm,.ref t.Iq,.ref t.jK,.ref t.vy,.ref t.Io,.ref t.Il,.ref t.Im,.ref t.wa,.type "ValueError"]
structure Txt (K:e?)(mg:y?->g? b_)(t:Ad):Prop where
 Bo:au K "is_whole" "is_whole" AQ t.FE t.FF
 Iw:mg "is_whole"=some (.ref t.FE)
 Iy:Binds K t.FF ["thing"] []
 qq:au K "is_between" "is_between" AR t.FG t.FH
 za:mg "is_between"=some (.ref t.FG)
 zb:Binds K t.FH ["thing","low","high"] []
 xA:au K "is_order" "is_order" AS t.FI t.Bj
 Bp:mg "is_order"=some (.ref t.FI)
 Iz:dN K t.Bj ["thing","purses"] ["purses"] cj cj
 Z6:∃tk,Binds K t.Bj ["thing","purses"] [.int 8 tk]
 xB:au K "place_of" "place_of" AU t.FJ t.FK
 Br:mg "place_of"=some (.ref t.FJ)
 Bs:Binds K t.FK ["order"] []
 OK:au K "are_rising" "are_rising" wB t.FL t.FN
 Z7:mg "are_rising"=some (.ref t.FL)
 Z8:Binds K t.FN ["things","bound"] []
 IA:au K "is_rising_row" "is_rising_row" AV t.FO t.FP
 OL:mg "is_rising_row"=some (.ref t.FO)
 OM:Binds K t.FP ["thing","bound"] []
 ON:au K "is_house_count" "is_house_count" ki t.FQ t.FR
 jia:mg "is_house_count"=some (.ref t.FQ)
 jh4:Binds K t.FR ["thing"] []
 OO:au K "is_few" "is_few" AW t.FT t.FU
 jzv:mg "is_few"=some (.ref t.FT)
 jy4:Binds K t.FU ["thing"] []
 OP:au K "outnumber" "outnumber" Fl t.FV t.FW
 jqu:mg "outnumber"=some (.ref t.FV)
 jna:dN K t.FW ["houses","few"] ["few"] cj cj
 OQ:au K "enough_of" "enough_of" Fm t.FX t.FY
 jr5:mg "enough_of"=some (.ref t.FX)
 jny:dN K t.FY ["houses","few"] ["few"] cj cj
 OR:au K "are_sums" "are_sums" AX t.FZ t.F1
 jtz:mg "are_sums"=some (.ref t.FZ)
 jtl:Binds K t.F1 ["thing"] []
 kn:au K "are_first_sums" "are_first_sums" kl t.F8 t.F9
 OS:mg "are_first_sums"=some (.ref t.F8)
 OT:Binds K t.F9 ["thing"] []
 je2:au K "__init__" "NoPurse.__init__" vf t.Ga t.Gb
 OU:AB K t.xm t.Ga "purse"
 je3:Binds K t.Gb ["self","purse"] []
 OV:au K "check_houses" "check_houses" Fo t.Gd t.Ge
 jk0:mg "check_houses"=some (.ref t.Gd)
 jh9:dN K t.Ge ["houses","few","liars"] ["few","liars"] se se
 OW:au K "check_purses" "check_purses" Fp t.Gf t.Gg
 jk8:mg "check_purses"=some (.ref t.Gf)
 jh5:dN K t.Gg ["sums","cheats"] ["cheats"] cj cj
 jh7:au K "__init__" "Board.__init__" kh t.ka t.Gh
 jok:Meth K t.ic "__init__" t.ka
 jzr:Mk K t.ic t.ka
 jhu:Binds K t.Gh ["self","enough"] []
 jev:au K "is_carried" "Board.is_carried" vm t.Gi t.Gj
 yw:Meth K t.ic "is_carried" t.Gi
 vg:Binds K t.Gj ["self","thing"] []
 jqx:au K "put" "Board.put" wC t.Gk t.Gm
 jpy:Meth K t.ic "put" t.Gk
 jq1:Binds K t.Gm ["self","house","thing"] []
 ji8:au K "carried" "Board.carried" AY t.Gp t.Gq
 jib:Meth K t.ic "carried" t.Gp
 ji5:Binds K t.Gq ["self"] []
 OX:au K "__init__" "Book.__init__" vq t.yn t.Bk
 jqf:Meth K t.fU "__init__" t.yn
 OY:Mk K t.fU t.yn
 IB:Binds K t.Bk ["self","sums"] []
 OZ:au K "is_past" "Book.is_past" gz t.gu t.Bl
 jis:Meth K t.fU "is_past" t.gu
 gw:Binds K t.Bl ["self","order"] []
 O0:au K "is_due" "Book.is_due" wD t.wZ t.Bm
 O4:Meth K t.fU "is_due" t.wZ
 Bt:Binds K t.Bm ["self","order"] []
 O5:au K "settle" "Book.settle" wF t.uz t.Bn
 O8:Meth K t.fU "settle" t.uz
 IC:Binds K t.Bn ["self","order"] []
 jf4:au K "__init__" "Keeper.__init__" wq t.wz t.Gr
 jmv:Meth K t.j6 "__init__" t.wz
 jwr:Mk K t.j6 t.wz
 jf8:Binds K t.Gr ["self","sums"] []
 jh0:au K "left_of" "Keeper.left_of" kc t.Gs t.Gu
 jgg:Meth K t.j6 "left_of" t.Gs
 jh2:Binds K t.Gu ["self","purse","orders"] []
 jdl:au K "give_votes" "Keeper.give_votes" xo t.ub t.ku
 gi:Meth K t.j6 "give_votes" t.ub
 ua:Binds K t.ku ["self"] []
 je0:au K "first_due" "Keeper.first_due" yb t.Gw t.Gx
 uj:Meth K t.j6 "first_due" t.Gw
 Pa:Binds K t.Gx ["self"] []
 jk5:au K "go_on" "Keeper.go_on" gs t.Gy t.GA
 jiq:Meth K t.j6 "go_on" t.Gy
 jkt:Binds K t.GA ["self"] []
 jnc:au K "hear" "Keeper.hear" AZ t.GB t.GC
 jk4:Meth K t.j6 "hear" t.GB
 jmy:Binds K t.GC ["self","order"] []
 jdd:au K "take_paper" "Keeper.take_paper" yy t.pf t.ui
 jco:Meth K t.j6 "take_paper" t.pf
 jd9:Binds K t.ui ["self","order"] []
 jh3:au K "__init__" "World.__init__" Fq t.kb t.GD
 joa:Meth K t.j4 "__init__" t.kb
 jy6:Mk K t.j4 t.kb
 jex:dN K t.GD ["self","houses","few","sums","liars","cheats"] ["few","sums","liars","cheats"] AI AI
 jim:au K "letters" "World.letters" A0 t.GF t.GG
 kg:Meth K t.j4 "letters" t.GF
 ID:Binds K t.GG ["self"] []
 jtg:au K "honest" "World.honest" A3 t.OI t.OJ
 jq3:Meth K t.j4 "honest" t.OI
 js3:Binds K t.OJ ["self"] []
 jk3:au K "papers" "World.papers" A4 t.GH t.GI
 IE:Meth K t.j4 "papers" t.GH
 IF:Binds K t.GI ["self"] []
 jf9:au K "keeper_of" "World.keeper_of" gc t.GJ t.GK
 zr:Meth K t.j4 "keeper_of" t.GJ
 xj:Binds K t.GK ["self","house"] []
 jpv:au K "sums" "World.sums" A5 t.GN t.GO
 jnl:Meth K t.j4 "sums" t.GN
 jpu:Binds K t.GO ["self","house"] []
 jij:au K "settled" "World.settled" A6 t.GP t.GQ
 Pb:Meth K t.j4 "settled" t.GP
 Pd:Binds K t.GQ ["self","house"] []
 jni:au K "waits" "World.waits" A7 t.GR t.GS
 jkz:Meth K t.j4 "waits" t.GR
 jnb:Binds K t.GS ["self","house"] []
 jdx:au K "check_purse" "World.check_purse" yz t.ph t.kq
 gf:Meth K t.j4 "check_purse" t.ph
 pq:Binds K t.kq ["self","purse"] []
 jdz:au K "check_asker" "World.check_asker" y4 t.uf t.ko
 jcs:Meth K t.j4 "check_asker" t.uf
 jdy:Binds K t.ko ["self","purse","goal"] []
 jdv:au K "check_order" "World.check_order" y0 t.pe t.ue
 gh:Meth K t.j4 "check_order" t.pe
 ky:Binds K t.ue ["self","order"] []
 jeq:au K "check_liar" "World.check_liar" vh t.uy t.GU
 jd6:Meth K t.j4 "check_liar" t.uy
 jep:Binds K t.GU ["self","liar"] []
 jcr:au K "write_to_all" "World.write_to_all" zy t.gj t.gk
 we:Meth K t.j4 "write_to_all" t.gj
 gg:Binds K t.gk ["self","word","order"] []
 jgo:au K "put_votes" "World.put_votes" yk t.GV t.GW
 vc:Meth K t.j4 "put_votes" t.GV
 w9:Binds K t.GW ["self","house","orders"] []
 jrh:au K "ask" "World.ask" wG t.GX t.GY
 Pe:Meth K t.j4 "ask" t.GX
 Pf:Binds K t.GY ["self","purse","goal","much"] []
 jm4:au K "cheat" "World.cheat" A8 t.GZ t.G0
 jku:Meth K t.j4 "cheat" t.GZ
 jn6:Binds K t.G0 ["self","order","house"] []
 jrs:au K "lie" "World.lie" A9 t.G7 t.G9
 IG:Meth K t.j4 "lie" t.G7
 IH:Binds K t.G9 ["self","liar","order"] []
 jpl:au K "show" "World.show" Ba t.Ha t.Hb
 jnq:Meth K t.j4 "show" t.Ha
 jpq:Binds K t.Hb ["self","order","house"] []
 jpo:au K "come" "World.come" wH t.Hc t.Hd
 jnn:Meth K t.j4 "come" t.Hc
 jpt:Binds K t.Hd ["self","at"] []
 jhw:au K "is_still" "World.is_still" kj t.He t.Hf
 jgj:Meth K t.j4 "is_still" t.He
 jhv:Binds K t.Hf ["self"] []
 II:au K "are_orders" "are_orders" Fs t.Hg t.Hh
 Pg:mg "are_orders"=some (.ref t.Hg)
 Ph:dN K t.Hh ["things","purses"] ["purses"] cj cj
 Pj:au K "summed" "summed" wI t.Hi t.Hj
 jyy:mg "summed"=some (.ref t.Hi)
 jzp:Binds K t.Hj ["orders","sums"] []
 Bu:au K "by_place" "by_place" Bb t.Hk t.Hl
 IJ:mg "by_place"=some (.ref t.Hk)
 IK:Binds K t.Hl ["orders"] []
 IL:au K "check_orders" "check_orders" Ft t.Hm t.Hn
 Pk:mg "check_orders"=some (.ref t.Hm)
 Pl:dN K t.Hn ["orders","sums"] ["sums"] cj cj
 IM:au K "due_orders" "due_orders" wJ t.Ho t.Hq
 Pm:mg "due_orders"=some (.ref t.Ho)
 Pn:Binds K t.Hq ["places","book"] []
 Bv:au K "book_of" "book_of" Bc t.Hr t.Hs
 IP:mg "book_of"=some (.ref t.Hr)
 IQ:dN K t.Hs ["orders","sums"] ["sums"] cj cj
 IT:au K "left_in" "left_in" Bd t.Ht t.Hu
 Po:mg "left_in"=some (.ref t.Ht)
 Pp:Binds K t.Hu ["book","orders"] []
 Pq:au K "row_for" "row_for" Fu t.Hv t.Hw
 jwo:mg "row_for"=some (.ref t.Hv)
 jsq:dN K t.Hw ["orders","sums"] ["sums"] cj cj
 IU:au K "left_over" "left_over" Fv t.Hx t.Hy
 Pr:mg "left_over"=some (.ref t.Hx)
 Pu:dN K t.Hy ["orders","sums"] ["sums"] cj cj
 Pw:au K "is_row" "is_row" Be t.Hz t.HE
 jzg:mg "is_row"=some (.ref t.Hz)
 jtp:dN K t.HE ["orders","sums"] ["sums"] cj cj
 Px:au K "lack_of" "lack_of" wK t.HF t.HG
 jxk:mg "lack_of"=some (.ref t.HF)
 jwd:Binds K t.HG ["purse","places","book"] []
 Py:au K "wanting" "wanting" Bf t.HH t.HI
 jvp:mg "wanting"=some (.ref t.HH)
 jrq:dN K t.HI ["orders","sums"] ["sums"] cj cj
 Pz:au K "_law_town" "_law_town" Bg t.HJ t.HK
 jsd:mg "_law_town"=some (.ref t.HJ)
 jsg:Binds K t.HK ["_law_script"] []
 qh:au K "_law_draw" "_law_draw" wL t.HL t.HM
 qi:mg "_law_draw"=some (.ref t.HL)
 qj:Binds K t.HM ["_law_town_here","_law_many"] []
 zg:au K "_law_pick" "_law_pick" Bh t.HN t.HP
 zu:mg "_law_pick"=some (.ref t.HN)
 zw:Binds K t.HP ["_law_town_here","_law_some_here"] []
 IV:au K "_law_refusal" "_law_refusal" gp t.HQ t.HR
 PB:mg "_law_refusal"=some (.ref t.HQ)
 PD:Binds K t.HR ["_law_caught"] []
 IW:au K "_law_some" "_law_some" wM t.HS t.HU
 PF:mg "_law_some"=some (.ref t.HS)
 PH:Binds K t.HU ["_law_town_here","_law_size","_law_most"] []
 PJ:au K "_law_world" "_law_world" wN t.HV t.HW
 jp2:mg "_law_world"=some (.ref t.HV)
 jpf:Binds K t.HW ["_law_town_here"] []
 IY:au K "_law_told" "_law_told" wO t.HX t.HY
 PL:mg "_law_told"=some (.ref t.HX)
 PM:Binds K t.HY ["_law_kind","_law_world_here","_law_one","_law_two","_law_three"] []
 IZ:au K "_law_letter" "_law_letter" wQ t.HZ t.Ia
 PN:mg "_law_letter"=some (.ref t.HZ)
 PO:Binds K t.Ia ["_law_town_here","_law_world_here"] []
 PQ:au K "_law_order" "_law_order" wR t.Ib t.Ic
 jph:mg "_law_order"=some (.ref t.Ib)
 jp5:Binds K t.Ic ["_law_town_here","_law_parts","_law_purse"] []
 PR:au K "_law_go" "_law_go" wU t.Ie t.Ig
 jwu:mg "_law_go"=some (.ref t.Ie)
 jwm:Binds K t.Ig ["_law_town_here","_law_parts","_law_share"] []
 PU:au K "_law_all_come" "_law_all_come" vp t.Ih t.Ii
 jji:mg "_law_all_come"=some (.ref t.Ih)
 jjw:Binds K t.Ii ["_law_town_here","_law_world_here"] []
 j9f:au K "law" "law" wV t.Ij t.Ik
 j9y:mg "law"=some (.ref t.Ij)
 qa8:Binds K t.Ik ["_law_script"] []
 PV:∃tk,mg "MOST_MUCH"=some (.int 1000 tk)
 PX:∃tk,mg "LAST_NUMBER"=some (.int 99 tk)
 PY:∃tk,mg "PAPER_LETTER"=some (.str "paper" tk)
 Ja:∃tk,mg "ORDER_LETTER"=some (.str "order" tk)
 jn1:∃tk,mg "MOST_HOUSES"=some (.int 16 tk)
 jty:∃tk,mg "MOST_FEW"=some (.int 5 tk)
 jh6:∃tk,mg "MOST_FIRST_SUM"=some (.int 1000 tk)
 jk2:∃tk,mg "LEAST_PURSES"=some (.int 2 tk)
 jmz:∃tk,mg "MOST_PURSES"=some (.int 8 tk)
 j2d:mg "Board"=some (.ref t.ic)
 yx:fh K t.ic
 yo:yt K t.ic "enough"
 y7:yt K t.ic "signers"
 jzl:mg "Keeper"=some (.ref t.j6)
 jq:fh K t.j6
 yf:yt K t.j6 "held"
 zd:yt K t.j6 "next_numbers"
 Jb:yt K t.j6 "done"
 Jc:yt K t.j6 "heard"
 yp:yt K t.j6 "unvoted"
 xh:yt K t.j6 "choices"
 zj:yt K t.j6 "waiting"
 j2t:mg "World"=some (.ref t.j4)
 jk:fh K t.j4
 vz:yt K t.j4 "purses"
 jlb:yt K t.j4 "total"
 PZ:yt K t.j4 "lying"
 yq:yt K t.j4 "cheating"
 zt:yt K t.j4 "keepers"
 va:yt K t.j4 "board"
 Jd:yt K t.j4 "asked"
 qz:yt K t.j4 "on_way"
 Je:mg "Book"=some (.ref t.fU)
 yg:fh K t.fU
 uv:yt K t.fU "held"
 qf:yt K t.fU "next_numbers"
 Jf:yt K t.fU "done"
 P0:Meth K t.j6 "is_due" t.wZ
 w6:Meth K t.j6 "is_past" t.gu
 jh1:Meth K t.j6 "settle" t.uz
 jhx:N2 K t.fU "__init__" t.yn
 P2:mg "NoPurse"=some (.ref t.xm)
 P4:mg "TooMuch"=some (.ref t.vy)
 P5:mg "NotNow"=some (.ref t.jK)
 Jg:mg "PurseError"=some (.ref t.wa)
 jzw:mg "BadCut"=some (.ref t.Il)
 jwx:mg "BadText"=some (.ref t.Im)
 jts:mg "BadPaper"=some (.ref t.Io)
 jwb:mg "NoHouse"=some (.ref t.Ip)
 jt3:mg "NoLetter"=some (.ref t.Iq)
 jrk:mg "BadNumber"=some (.ref t.Ir)
 jtm:mg "BadOrder"=some (.ref t.Iu)
 jry:mg "BadHouses"=some (.ref t.Iv)
 jt2:iD K t.xm
 jtj:kinds K (.ref t.xm) (asked t)=[some false,some false,some false,some false,some true,some false,some false,some false,some false,some false,some false,some true,some true]
 jbz:Ò K (.ref t.xm) (.ref t.wa)=some true
 jxa:Ak K t.vy
 jtr:iD K t.vy
 jti:kinds K (.ref t.vy) (asked t)=[some false,some false,some false,some false,some false,some false,some false,some true,some false,some false,some false,some true,some true]
 jbt:Ò K (.ref t.vy) (.ref t.wa)=some true
 jyn:Ak K t.jK
 jwn:iD K t.jK
 jwa:kinds K (.ref t.jK) (asked t)=[some false,some false,some false,some false,some false,some false,some true,some false,some false,some false,some false,some true,some true]
 jcq:Ò K (.ref t.jK) (.ref t.wa)=some true
 P6:Č K t.wa (.type "BaseException")=some true
 j5:mg "isinstance"=none
 j5w:mg "bool"=none
 j9u:mg "int"=none
 cC:mg "len"=none
 P7:mg "tuple"=none
 qB:mg "sorted"=none
 iF:mg "list"=none
 P8:mg "sum"=none
 qar:mg "max"=none
 P9:mg "all"=none
 sr:mg "range"=none
 jpi:mg "ValueError"=none
 jsk:mg "enumerate"=none
 qae:mg "min"=none
 qal:mg "set"=none
noncomputable def bO (o:O):b? V:=[.int o.p,.int o.n,.int o.g,.int o.m]
noncomputable def qct (H:Hp)(x:V)(o:O):Prop:=∃a,x= .ref a/\H a=some (.tup (bO o))
theorem qC {F:V->O->Prop}:∀{xs:b? V}{os:b? O}{i:i_}{x:V},h_ F xs os->xs[i]?=some x->∃o,os[i]?=some o/\F x o
 |_,_,i,x,.nil,e=>by simp at e
 |_,_,0,x,.cons h _,e=>by have e':=s_ e;subst e';exact⟨_,a_,h⟩
 |_,_,i+1,x,.cons _ t,e=>qC (i:=i) t e
theorem jh {H:Hp}{p:c_}{o:HO}(h:H p=none):x8 H (upd H p o):=λb u e=>by rw[jd (jg e h)];exact e
theorem nd {c:Prop}[aer c](h:(!s? c)=true):¬c:=λz=>by rw[i? z]at h;cases h
theorem yd {c:Prop}[aer c](h:¬(!s? c)=true):c:=by
 by_cases z:c
 .exact z
 .exact w_ (by rw[z? z];rfl) h
theorem qag {b:o?}{A Bq:Prop}(e:b=true)(h:Bq):if(!b)=true then A else Bq:=by subst e;exact w4 h
theorem take_snoc {α:Type}{l:b? α}{i:i_}{x:α}(h:l[i]?=some x):l.take (i+1)=l.take i++[x]:=by rw[b?.take_add_one,h];rfl
theorem mX (s:b? f?)(i:i_)(z:f?):(s.map V.int).set i (.int z)=(s.set i z).map V.int:=by rw[ad3]
theorem get_map {s:b? f?}{i:i_}(h:i<s.length):(s.map V.int)[i]?=some (.int (s.getD i 0)):=by rw[y_,u? h,J',u? h];rfl
theorem kW {n:i_}{i:f?}(h0:0<=i)(h1:i.toNat<n):mY n i=some i.toNat:=by unfold mY;rw[m_ h0,m_ (by lia)]
theorem fW {α:Type}{xs:b? α}{i:f?}{v:α}(h0:0<=i)(h:xs[i.toNat]?=some v):mZ xs i=some v:=by unfold mZ;rw[kW h0 (l?.mp h).1];exact h
theorem Jh {i:i_}{x:V}{U:St}{H:Hp}{F G:St->Hp->Prop}(h:F (U.set i (some x)) H):dI i x U H λ U2 H2=>pC U2 H2 λb H3=>if b=true then F U2 H3 else G U2 H3:=bA (A:=F (U.set i (some x)) H) (Bq:=G (U.set i (some x)) H) h
theorem iG {n:i_}(h:n<=1000):n<=k_:=aam (zm h)
noncomputable def cW (T R:c_)(H:Hp):Prop:=∃(row:b? f?)(c:f?),H T=some (.lst [.ref R,.int c])/\H R=some (.lst (row.map V.int))/\0<row.length
noncomputable def kX (T R:c_)(H H':Hp):Prop:=∀b o,H b=some o->b≠T->b≠R->H' b=some o
theorem cW.ne {T R:c_}{H:Hp}(h:cW T R H):T≠R:=by
 obtain⟨row,c,h1,h2,h3⟩:=h;refine cT h1 h2 λe=>?_;have e':=HO.lst.inj e;cases row with
 |nil=>cases h3
 |cons x r=>rw[A_]at e';cases(ĸ e').1
theorem cW.same {T R:c_}{H H':Hp}(h:cW T R H)(s:x8 H H'):cW T R H':=by obtain⟨row,c,h1,h2,h3⟩:=h;exact(xa0 row c ⟨s _ _ h1,s _ _ h2,h3⟩)
theorem cW.fresh {T R b:c_}{H:Hp}(h:cW T R H)(hb:H b=none):b≠T/\b≠R:=by obtain⟨row,c,h1,h2,h3⟩:=h;exact⟨(jg h1 hb).symm,(jg h2 hb).symm⟩
noncomputable def jyi:Sp:=λvs H Q _=>∃i,vs=[.int i]/\Q (.bl true) H
noncomputable def jt6:Sp:=λvs H Q _=>∃i l h,vs=[.int i,.int l,.int h]/\Q (.bl (s? (l<=i/\i<=h))) H
noncomputable def jx5:Sp:=λvs H Q _=>∃a o q,vs=[.ref a,.int q]/\H a=some (.tup (bO o))/\Q (.bl (zc q o)) H
noncomputable def jyg:Sp:=λvs H Q _=>∃a o,vs=[.ref a]/\H a=some (.tup (bO o))/\zc 8 o=true/\∀p,H p=none->Q (.ref p) (upd H p (.tup [.int o.p,.int o.n]))
theorem Ji (T:Txt K mg t):zv P w K mg base CX0 1 t.FE t.FF ["thing"] jyi:=by refine T.Bo.aW (N:=["thing"]) λ_ A _ s H vs Q E hr h=>?_;obtain⟨i,rfl,q⟩:=h;refine⟨_,(@je _ _ _ (jv (lK (jo uN a_ T.j5 boot_isinstance (@y6 _ _ _ _ _ (pv 0) (mR (v:=.ty "int") a_ T.j9u boot_int a_) a_ a_)) (mS (Tn (jo uN a_ T.j5 boot_isinstance (@y6 _ _ _ _ _ (pv 0) (mR (v:=.ty "bool") a_ T.j5w boot_bool a_) a_ a_))))))),?_⟩;refine⟨_,a_,xa2 _ _ _ true ⟨a_,.int _,a_,_,a_,bA ?_⟩⟩;exact⟨_,a_,xa2 _ _ _ false ⟨a_,.int _,a_,_,a_,q⟩⟩
theorem qx (T:Txt K mg t):zv P w K mg base CX0 2 t.FG t.FH ["thing","low","high"] jt6:=by
 refine T.qq.aW (N:=["thing","low","high"]) λ_ A _ s H vs Q E hr h=>?_;obtain⟨i,l,u,rfl,q⟩:=h;refine⟨_,(@je _ _ _ (jv (lK (jm (Ji T) hr.dn a_ T.Iw T.Bo.kp T.Iy .nil jl (jc (pv 0) jf)) (mS (T6 tL tL (pv 1) (pv 0) (pv 2)))))),?_⟩;refine⟨_,a_,i,a_,_,a_,bA ?_⟩;refine⟨_,a_,_,a_,xa0 _ _ ⟨a_,a_,_,a_,?_⟩⟩;refine bj (λh1=>?_) (λh1=>?_)
 .refine⟨_,a_,xa0 _ _ ⟨a_,a_,?_⟩⟩;have e:s? (l<=i/\i<=u)=s? (i<=u):=by
   have nO:=n? h1;simp[nO]
  rw[e]at q;exact q
 .have e:s? (l<=i/\i<=u)=false:=by
   have nO:¬l<=i:=λz=>h1 (i? z);simp[nO]
  rw[e]at q;exact q
theorem Bw (T:Txt K mg t):zv P w K mg base CX0 3 t.FI t.Bj ["thing","purses"] jx5:=by
 refine T.xA.bF wX λ_ A _ s H vs Q E hr h=>?_;obtain⟨a,o,q,rfl,ha,k⟩:=h;refine⟨_,(@jb _ _ _ _ _ (zf (PW.pt (gD (xq (ze (jo uN a_ T.j5 boot_isinstance (@y6 _ _ _ _ _ (pv 0) (mR (v:=.ty "tuple") a_ T.P7 boot_tuple a_) a_ a_)))) (gS (jz Du (jo jw a_ T.cC boot_len (jc (pv 0) jf)) jn (qe _))))) (@je _ _ _ (jv dZ)) j9) (@jb _ _ _ _ _ (iP (pv 0) (kD a_ (ju (jr (i:=2) wX.nd a_ (o_ a_)) (ju (jr (i:=3) wX.nd a_ (o_ a_)) (ju (jr (i:=4) wX.nd a_ (o_ a_)) (ju (jr (i:=5) wX.nd a_ (o_ a_)) iO)))))) (@jb _ _ _ _ _ (zf (PW.pt (gD (xq (ze (jm (qx T) hr.dn a_ T.za T.qq.kp T.zb .nil jl (@cq _ _ _ _ _ _ _ (pv 2) jn (xx kF (pv 1) jn) a_ a_ a_)))) (gS (xq (ze (jm (qx T) hr.dn a_ T.za T.qq.kp T.zb .nil jl (@cq _ _ _ _ _ _ _ (pv 4) jn (xx kF (pv 1) jn) a_ a_ a_))))))) (@je _ _ _ (jv dZ)) j9) (@je _ _ _ (jv (lK (gW Du (pv 2) (pv 4) (qe _)) (lK (jm (qx T) hr.dn a_ T.za T.qq.kp T.zb .nil jl (@cq _ _ _ _ _ _ _ (pv 3) jn (zk (v:=.int 99) a_ T.PX.choose_spec ⟨_,a_⟩) a_ a_ a_)) (mS (jm (qx T) hr.dn a_ T.za T.qq.kp T.zb .nil jl (@cq _ _ _ _ _ _ _ (pv 5) jn (zk (v:=.int 1000) a_ T.PV.choose_spec ⟨_,a_⟩) a_ a_ a_)))))))))),?_⟩;refine⟨_,a_,xa2 _ _ _ true ⟨a_,.tup ha,a_,_,a_,?_⟩⟩;refine w4 ?_;refine⟨_,a_,xa0 a (bO o) ⟨a_,.inr (az.of ha),a_,_,a_,?_⟩⟩;refine w4 ?_;refine⟨_,a_,xa0 a (bO o) ⟨a_,az.of ha,a_,xa0 _ _ ⟨a_,xa0 _ _ ⟨a_,xa0 _ _ ⟨a_,xa0 _ _ ⟨a_,a_,?_⟩⟩⟩⟩⟩⟩;have fin:∀b,b=zc q o->Q (.bl b) H:=λb e=>e ▸ k;refine⟨_,a_,_,a_,xa0 _ _ ⟨a_,a_,xa1 _ _ _ ⟨a_,_,a_,?_⟩⟩⟩;refine bj (λh1=>fin _ ?_) (λh1=>?_)
 .have z:=nd h1;unfold zc;exact(z? (λh=>z ⟨h.1,h.2.1⟩)).symm
 have z1:=yd h1;refine⟨_,a_,_,a_,xa0 _ _ ⟨a_,a_,xa1 _ _ _ ⟨a_,_,a_,?_⟩⟩⟩;refine bj (λh2=>fin _ ?_) (λh2=>?_)
 .have z:=nd h2;unfold zc;exact(z? (λh=>z ⟨h.2.2.1,h.2.2.2.1⟩)).symm
 have z2:=yd h2;refine⟨_,a_,_,a_,a_,_,a_,?_⟩;refine bj (λh3=>?_) (λh3=>fin _ ?_)
 .have z3:¬o.p=o.g:=by simpa using h3
  refine⟨_,a_,xa1 _ _ _ ⟨a_,_,a_,?_⟩⟩;refine bj (λh4=>?_) (λh4=>fin _ ?_)
  .have z4:=n? h4;refine⟨_,a_,xa1 _ _ _ ⟨a_,fin _ ?_⟩⟩;unfold zc;rw[ċ,aaI,aaI];exact⟨λh=>⟨z1.1,z1.2,z2.1,z2.2,z3,z4.1,z4.2,h.1,h.2⟩,λh=>h.2.2.2.2.2.2.2⟩
  .have z4:¬(0<=o.n/\o.n<=99):=λh=>h4 (i? h);unfold zc;exact(z? (λh=>z4 ⟨h.2.2.2.2.2.1,h.2.2.2.2.2.2.1⟩)).symm
 .have z3:o.p=o.g:=by simpa using h3
  unfold zc;exact(z? (λh=>h.2.2.2.2.1 z3)).symm
theorem Bx (T:Txt K mg t):zv P w K mg base CX0 4 t.FJ t.FK ["order"] jyg:=by
 refine T.xB.aW (N:=["order"]) λ_ A _ s H vs Q E hr h=>?_;obtain⟨a,o,rfl,ha,ho,k⟩:=h;refine⟨_,(@jb _ _ _ _ _ (zf (xq (ze (jm (Bw T) hr.dn a_ T.Bp T.xA.kp T.Z6.choose_spec (show Vals [.int 8] _ from .cons ⟨_,a_⟩ .nil) jl (jc (pv 0) jf)))) (@je _ _ _ (Tu)) j9) (@je _ _ _ (jv (@iU _ _ _ _ _ (@y6 _ _ _ _ _ (gb gY (pv 0) jn (λ_ _=>a_)) (gb gY (pv 0) jn (λ_ _=>a_)) a_ a_))))),?_⟩;refine⟨_,a_,xa1 a o 8 ⟨a_,ha,_,a_,qag ho ?_⟩⟩;exact⟨_,a_,xa2 a (bO o) 0 (.int o.p) ⟨a_,a_,az.of ha,a_,_,a_,xa2 a (bO o) 1 (.int o.n) ⟨a_,a_,az.of ha,a_,oj,λp hp=>k p hp⟩⟩⟩
theorem xn {H:Hp}{a b:c_}{o:HO}(h:upd H a o b=none):b≠a/\H b=none:=by
 have hb:b≠a:=λz=>by rw[z,ja]at h;cases h
 rw[jd hb]at h;exact⟨hb,h⟩
noncomputable def mn (S:c_)(en:f?):b? (y?×V):=uk "signers" (.ref S) (uk "enough" (.int en) [])
theorem Jj (S:c_)(en:f?):(mn S en).lookup ("signers":y?)=some (.ref S):=by unfold mn;rw[jj,m_ a_]
theorem By (S:c_)(en:f?):(mn S en).lookup ("enough":y?)=some (.int en):=by unfold mn;rw[jj,j? (by decide+kernel),jj,m_ a_]
theorem xC (S:c_)(en:f?){m:y?}(h1:¬m="signers")(h2:¬m="enough"):(mn S en).lookup m=none:=by unfold mn;rw[jj,j? h1,jj,j? h2];rfl
noncomputable abbrev fX:=b? (b? Key×b? f?)
noncomputable def iH (H:Hp)(kv:b? Key×V)(p:b? Key×b? f?):Prop:=kv.1=p.1/\∃b,kv.2= .ref b/\H b=some (.lst (p.2.map V.int))
structure vb (t:Ad)(H:Hp)(p dx S:c_)(en:f?)(kvs:b? (b? Key×V))(ps:fX):Prop where
 ob:H p=some (.ins t.ic dx (mn S en))
 sg:H S=some (.dT kvs)
 hs:h_ (iH H) kvs ps
 un:(kvs.map (·.2)).Nodup
theorem vb.same {t:Ad}{H H':Hp}{p dx S:c_}{en:f?}{kvs:b? (b? Key×V)}{ps:fX}(s:x8 H H')(b:vb t H p dx S en kvs ps):vb t H' p dx S en kvs ps:=⟨s _ _ b.ob,s _ _ b.sg,Paired.gy b.hs λ_ _ ⟨e,c,ec,h⟩=>⟨e,c,ec,s _ _ h⟩,b.un⟩
structure Jk (t:Ad)(H:Hp)(p dx S:c_)(en:f?)(kvs:b? (b? Key×V))(ps:fX):Prop where
 ob:H p=some (.ins t.ic dx (mn S en))
 sg:Rd H S (.dT kvs)
 hs:h_ (iH H) kvs ps
theorem vb.rd {t:Ad}{H:Hp}{p dx S:c_}{en:f?}{kvs:b? (b? Key×V)}{ps:fX}(b:vb t H p dx S en kvs ps):Jk t H p dx S en kvs ps:=⟨b.ob,.inl b.sg,b.hs⟩
theorem xD {H H':Hp}{a:c_}{u:HO}(s:x8 H H')(h:Rd H a u):Rd H' a u:=by
 rcases h with h|⟨o,h⟩
 .exact .inl (s _ _ h)
 .exact .inr ⟨o,s _ _ h⟩
noncomputable def qm:fX->b? Key->b? f?
 |[],_=>[]
 |p::ps,k=>if p.1=k then p.2 else qm ps k
theorem Jl {H:Hp}{k:b? Key}:∀{kvs:b? (b? Key×V)}{ps:fX},h_ (iH H) kvs ps->(aY kvs k=none/\qm ps k=[]/\k∉ps.map (·.1))\/∃b,aY kvs k=some (.ref b)/\H b=some (.lst ((qm ps k).map V.int)):=λ{kvs ps} q=>by
 induction q with
 |nil=>exact .inl ⟨a_,a_,by simp⟩
 | @cons kv p kvs ps a r ih=>
  obtain⟨e,b,eb,h⟩:=a;by_cases z:p.1=k
  .refine .inr ⟨b,?_,?_⟩
   .rw[kH (e.trans z),eb]
   .rw[qm,m_ z];exact h
  .have z':¬kv.1=k:=λq=>z (e.symm.trans q);rw[qm,j? z,kI z'];rcases ih with⟨h1,h2,h3⟩|h
   .exact .inl ⟨h1,h2,by rw[A_,D?];exact λq=>q.elim (λq=>z q.symm) h3⟩
   .exact .inr h
noncomputable def j3o (t:Ad):Sp:=λvs H Q _=>∃x dx en,vs=[.ref x,.int en]/\H x=some (.ins t.ic dx [])/\∀S H',H S=none->vb t H' x dx S en [] []->(∀b o,H b=some o->b≠x->H' b=some o)->Q .aj H'
noncomputable def jw1 (t:Ad):Sp:=λvs H Q _=>∃p dx S en kvs ps b k,vs=[.ref p,.ref b]/\Jk t H p dx S en kvs ps/\H b=some (.tup (k.map kV))/\∀H',x8 H H'->Q (.bl (s? (en<=((qm ps k).length:f?)))) H'
noncomputable def mq:fX->b? Key->f?->fX
 |[],k,h=>[(k,[h])]
 |p::ps,k,h=>if p.1=k then(p.1,p.2++[h])::ps else p::mq ps k h
noncomputable def NotIn (kvs:b? (b? Key×V))(c:c_):Prop:=∀kv∈kvs,kv.2≠.ref c
noncomputable def j95 (t:Ad):Sp:=λvs H Q _=>∃p dx S en kvs ps b k h,vs=[.ref p,.int h,.ref b]/\vb t H p dx S en kvs ps/\H b=some (.tup (k.map kV))/\kvs.length<=1000/\(qm ps k).length<=1000/\(h∈qm ps k->∀H',x8 H H'->Q (.bl false) H')/\(h∉qm ps k->∀bD H',vb t H' p dx S en bD (mq ps k h)->(∀c u,H c=some u->c≠S->NotIn kvs c->H' c=some u)->(∀c u,H c=some u->NotIn kvs c->NotIn bD c)->Q (.bl (s? (((qm ps k).length:f?)+1=en))) H')
theorem Qa:∀{ps:fX}{k:b? Key}{h:f?},k∉ps.map (·.1)->mq ps k h=ps++[(k,[h])]
 |[],_,_,_=>a_
 |p::ps,k,h,z=>by rw[A_,D?]at z;rw[mq,j? (λe=>z (.inl e.symm)),Qa λe=>z (.inr e)];rfl
theorem qk {α β:Type}{F:α->β->Prop}:∀{xs:b? α}{ys:b? β}{x:α}{y:β},h_ F xs ys->F x y->h_ F (xs++[x]) (ys++[y]):=λ{xs ys x y} q h=>by
 induction q with
 |nil=>exact .cons h .nil
 |cons a _ ih=>exact .cons a ih
theorem Qb {k:b? Key}{v:V}{kvs:b? (b? Key×V)}(ev:aY kvs k=some v):v∈kvs.map (·.2):=by
 unfold aY at ev;cases hf:kvs.find? (λkv=>s? (kv.1=k))with
 |none=>rw[hf]at ev;cases ev
 |some q=>rw[hf]at ev;have e3:q.2=v:=s_ ev;rw[<-e3];exact Q? (Ř hf)
theorem jL {h:f?}:∀{hs:b? f?},Ac (.int h) (hs.map V.int)=s? (h∈hs)
 |[]=>a_
 |x::hs=>by
  have ih:=jL (h:=h) (hs:=hs);simp only[A_,Ac,ű]at ih⊢;rw[ih];show(x==h||decide (h∈hs))=_;by_cases e:h=x
  .simp[e]
  .have e':¬x=h:=λz=>e z.symm;simp[e,e']
theorem qD (hs:b? f?):(hs.map V.int).all lV=true:=by rw[ñ];intro y hy;obtain⟨i,_,rfl⟩:=H?.mp hy;rfl
theorem j4a {H:Hp}{r:c_}(hr:H r=none):∀{kvs:b? (b? Key×V)}{ps:fX},h_ (iH H) kvs ps->V.ref r∉kvs.map (·.2):=λ{kvs ps} q=>by
 induction q with
 |nil=>simp
 |@cons kv p kvs ps a r ih=>
  obtain⟨_,b,eb,hb⟩:=a;rw[A_,D?]
  rintro(z|z)
  .rw[eb]at z;cases z;rw[hr]at hb;cases hb
  .exact ih z
theorem grown {H:Hp}{k:b? Key}{h:f?}{c:c_}:∀{kvs:b? (b? Key×V)}{ps:fX},h_ (iH H) kvs ps->(kvs.map (·.2)).Nodup->aY kvs k=some (.ref c)->h_ (iH (upd H c (.lst ((qm ps k++[h]).map V.int)))) kvs (mq ps k h):=λ{kvs ps} q nd ev=>by
 induction q with
 |nil=>cases ev
 | @cons kv p kvs ps a r ih=>
  obtain⟨e,b,eb,hb⟩:=a;rw[A_,W']at nd;have keep:∀{kvs:b? (b? Key×V)}{ps:fX}{o:HO}{a:c_},V.ref a∉kvs.map (·.2)->h_ (iH H) kvs ps->h_ (iH (upd H a o)) kvs ps:=λ{kvs ps o a} ha r=>by
   induction r with
   |nil=>exact .nil
   |cons q _ ih=>rw[A_,D?]at ha;obtain⟨q1,b,q2,q3⟩:=q;refine .cons ⟨q1,b,q2,?_⟩ (ih λz=>ha (.inr z));rw[jd (λz=>ha (.inl (by rw[q2,z])))];exact q3
  by_cases z:p.1=k
  .rw[kH (e.trans z),eb]at ev;cases ev;rw[mq,m_ z,qm,m_ z];rw[eb]at nd;exact .cons ⟨e,c,eb,ja⟩ (keep nd.1 r)
  .have z':¬kv.1=k:=λq=>z (e.symm.trans q);rw[kI z']at ev;rw[mq,j? z,qm,j? z];have hm:V.ref c∈kvs.map (·.2):=Qb ev;have hbc:b≠c:=λq=>nd.1 (by rw[eb,q];exact hm);exact .cons ⟨e,b,eb,by rw[jd hbc];exact hb⟩ (ih nd.2 ev)
theorem qck {a:c_}{o:L?}{kvs:b? (b? Key×V)}{g:TG}{ti:TT}{te:TE}{U0:St}{H0:Hp}{Q:VK}(Pv:i_->b? V->St->Hp->Prop)(h0:Pv 0 [] U0 H0)(hl:∀i ys U H,i<=kvs.length->Pv i ys U H->H a=some (.aB o (.dT kvs))/\ys.length<=k_)(hs:∀i kv b ys U H,kvs[i]?=some kv->H b=some (.tup (kv.1.map kV))->Pv i ys U H->g (.ref b) U H λ U2 H2=>ti U2 H2 λc H3=>if c=true then te U2 H3 λy H4=>Pv (i+1) (ys++[y]) U2 H4 else Pv (i+1) ys U2 H3)(hd:∀ys U H,Pv kvs.length ys U H->∀p,H p=none->Q (.ref p) (upd H p (.lst ys))):∃W:i_->i_->b? V->St->Hp->Prop,(∃m,W 0 m [] U0 H0)/\∀i m ys U H,W i m ys U H->ys.length<=k_/\(((si a o kvs).stop i H/\rP Q ys H)\/((si a o kvs).go i H/\∃N:b? V->St->Hp->Prop,(∀br U' H',N br U' H'->∃m',m'<m/\W (i+1) m' br U' H')/\∀x H',(si a o kvs).dJ i H x H'->g x U H' λ U2 H2=>ti U2 H2 λb H3=>if b=true then te U2 H3 λy H4=>N (ys++[y]) U2 H4 else N ys U2 H3)):=by
 refine⟨λi m ys U H=>m=kvs.length-i/\i<=kvs.length/\Pv i ys U H,⟨kvs.length,by simp,T? _,h0⟩,?_⟩
 rintro i m ys U H ⟨rfl,hi,p⟩
 obtain⟨q,hz⟩:=hl i ys U H hi p;refine⟨hz,?_⟩;by_cases aw:i<kvs.length
 .refine .inr ⟨⟨aw,q⟩,Pv (i+1),λbr U' H' p'=>⟨kvs.length-(i+1),by lia,a_,aw,p'⟩,λx H' y=>?_⟩;obtain⟨e,kv,b,ek,ex,eb⟩:=y;subst e ex;exact hs i kv b ys U _ ek eb p
 .have e:i=kvs.length:=by lia
  subst e;exact .inl ⟨⟨r_ _,q⟩,hd ys U H p⟩
noncomputable abbrev yl:=b? (b? f?×b? f?)
noncomputable def cx (t:b? f?):b? Key:=t.map S_
noncomputable def bP (is:yl):fX:=is.map λp=>(cx p.1,p.2)
theorem j47 (t:b? f?):(cx t).map kV=t.map V.int:=by unfold cx;rw[aav];rfl
theorem Jm {t u:b? f?}(h:cx t=cx u):t=u:=(ads (λ_ _ z=>S_.inj z)).mp h
noncomputable def xu (is:yl)(en:f?):b? (b? f?):=(is.filter λp=>s? (en<=(p.2.length:Int))).map (·.1)
theorem Jn:∀{is:yl}{i:i_}{p:b? f?×b? f?},(is.map (·.1)).Nodup->is[i]?=some p->qm (bP is) (cx p.1)=p.2
 |[],_,_,_,e=>by simp at e
 |x::is,0,p,_,e=>by cases s_ e;show(if cx x.1=cx x.1 then x.2 else _)=_;rw[m_ a_]
 |x::is,i+1,p,nd,e=>by rw[A_,W']at nd;have hm:p∈is:=u_ (by simpa using e);show(if cx x.1=cx p.1 then x.2 else qm (bP is) (cx p.1))=_;rw[j? λz=>nd.1 (by rw[Jm z];exact Q? hm)];exact Jn nd.2 (by simpa using e)
theorem Bz {K:e?}{H H':Hp}{vs:b? V}{ts:b? (b? f?)}(s:x8 H H')(h:i7 K H vs ts):i7 K H' vs ts:=Paired.gy h λ_ _ ⟨a,e,q⟩=>⟨a,e,by
 rcases q with q|q
 .exact .inl (xD s q)
 .exact .inr q⟩
section
variable {P:D'}{w:I?}{K:e?}{mg:y?->g? b_}{base:k?}{t:Ad}
theorem uh (T:Txt K mg t):zv P w K mg base CX0 1 t.Gi t.Gj ["self","thing"] (jw1 t):=by
 refine T.jev.aW (N:=["self","thing"]) λ_ A _ s H vs Q E hr h=>?_;obtain⟨p,dx,S,en,kvs,ps,b,k,rfl,Bq,hb,q⟩:=h;refine⟨_,(@je _ _ _ (jv (gW LW (jo jw a_ T.cC boot_len (jc (VA (fM hr) (j3 (pv 0) a_) (pv 1) (@xf _ _ _ _ jf) ⟨a_,a_,a_,a_⟩) jf)) (j3 (pv 0) a_) (qe _)))),?_⟩;refine⟨_,a_,xa3 p _ dx _ _ ⟨a_,Bq.ob,T.yx,T.y7,Jj _ _,S,a_,.inr ⟨kvs,Bq.sg⟩,_,a_,dC,λr hr=>?_⟩⟩;have s1:=jh (o:=.lst []) hr;refine⟨_,.inr (xa1 kvs k b ⟨xD s1 Bq.sg,a_,s1 _ _ hb,a_⟩),?_⟩;rcases Jl (k:=k) Bq.hs with⟨h1,h2,h3⟩|⟨c,h1,h2⟩
 .rw[h1];refine⟨r,[],a_,.inl (af.of ja),_,a_,p,_,dx,_,_,a_,s1 _ _ Bq.ob,T.yx,T.yo,By _ _,_,_,a_,a_,?_⟩;have:=q _ s1;rw[h2]at this;exact this
 .rw[h1];refine(xa0 c _ ⟨a_,.inl (af.of (s1 _ _ h2)),_,a_,xa3 p _ dx _ _ ⟨a_,s1 _ _ Bq.ob,T.yx,T.yo,By _ _,xa0 _ _ ⟨a_,a_,?_⟩⟩⟩);rw[g_];exact q _ s1
theorem jwg (T:Txt K mg t):zv P w K mg base CX0 1 t.Gk t.Gm ["self","house","thing"] (j95 t):=by
 refine T.jqx.bF Ou λ_ A _ s H vs Q E hr h=>?_;obtain⟨p,dx,S,en,kvs,ps,b,k,h,rfl,Bq,hb,l1,l2,q1,q2⟩:=h;refine⟨_,(@jb _ _ _ _ _ (j7 (i:=3) Ou.nd a_ (o_ a_) (XG (fM hr) (j3 (pv 0) a_) (pv 2) (@xf _ _ _ _ jf) ⟨a_,a_,a_,a_⟩)) (@jb _ _ _ _ _ (zf (jz Mr (pv 1) (pv 3) (by with_unfolding_all rfl)) (@je _ _ _ (jv dZ)) j9) (@jb _ _ _ _ _ (qb (fq B? E_ F_ y8 (pv 3) (jc (pv 1) jf))) (@je _ _ _ (jv (gW fH (jo jw a_ T.cC boot_len (jc (pv 3) jf)) (j3 (pv 0) a_) (qe _))))))),?_⟩;refine⟨_,a_,xa3 p _ dx _ _ ⟨a_,Bq.ob,T.yx,T.y7,Jj _ _,S,a_,.inr ⟨kvs,.inl Bq.sg⟩,_,a_,dC,λr hr=>?_⟩⟩;have s1:=jh (o:=.lst []) hr;have B1:=Bq.same s1;refine(xa1 kvs k b ⟨B1.sg,a_,s1 _ _ hb,zm l1,λv hv=>?_,λhv=>?_⟩)
 .rcases Jl (k:=k) B1.hs with⟨z,_⟩|⟨c,h1,h2⟩
  .rw[hv]at z;cases z
  cases s_ (hv.symm.trans h1);refine⟨_,a_,_,a_,c,_,a_,.inl (af.of h2),a_,qD _,_,a_,bj (λz=>?_) (λz=>?_)⟩
  .rw[j? (by decide),jL]at z;exact q1 (n? z) _ s1
  rw[j? (by decide),jL]at z;have nh:h∉qm ps k:=λy=>z (i? y);have pc:p≠c:=cT B1.ob h2 (by intro z;cases z);have Sc:S≠c:=cT B1.sg h2 (by intro z;cases z);refine⟨_,a_,.inl ⟨a_,_,af.of h2⟩,_,a_,xa1 c _ _ ⟨a_,a_,h2,zm (by rw[g_];exact l2),?_⟩⟩;refine⟨_,a_,xa0 c _ ⟨a_,.inl (af.of ja),_,a_,xa3 p _ dx _ _ ⟨a_,(by rw[jd pc];exact B1.ob),T.yx,T.yo,By _ _,a_,?_⟩⟩⟩;have G:=grown (h:=h) B1.hs B1.un h1;rw[K_]at G;have e:s? (V.int (((qm ps k).map V.int++[V.int h]).length:i_)=V.int en)=s? (((qm ps k).length:f?)+1=en):=by rw[p_,g_];simp
  have goal:=q2 nh kvs _ ⟨by rw[jd pc];exact B1.ob,by rw[jd Sc];exact B1.sg,G,B1.un⟩ λc' u hc cS cN=>by
   have ne:c'≠c:=λy=>by obtain⟨kv,hm,ek⟩:=H?.mp (Qb h1);exact cN kv hm (by rw[ek,y])
   rw[jd ne];exact s1 _ _ hc
  have goal:=goal λ_ _ _ z=>z;rw[<-e]at goal;exact goal
 .rcases Jl (k:=k) B1.hs with⟨_,h2,h3⟩|⟨c,z,_⟩;case inr=>rw[hv]at z;cases z
  have rS:r≠S:=(jg Bq.sg hr).symm;have rp:r≠p:=(jg Bq.ob hr).symm;have Sp:S≠p:=cT Bq.sg Bq.ob (by intro z;cases z);rw[uE _ hv];have su:upd (upd H r (.lst [])) S (.dT (kvs++[(k,.ref r)])) r=some (.lst []):=by rw[jd rS];exact ja
  refine⟨_,a_,_,a_,xa0 r [] ⟨a_,.inl (af.of su),a_,a_,_,a_,w4 ?_⟩⟩;refine⟨_,a_,.inl ⟨a_,_,af.of su⟩,_,a_,xa1 r [] _ ⟨a_,a_,su,(by show 0<k_;decide),?_⟩⟩;have Qc:upd (upd (upd H r (.lst [])) S (.dT (kvs++[(k,.ref r)]))) r (.lst ([]++[.int h])) p=some (.ins t.ic dx (mn S en)):=by rw[jd rp.symm,jd Sp.symm];exact B1.ob
  refine⟨_,a_,xa0 r _ ⟨a_,.inl (af.of ja),_,a_,xa3 p _ dx _ _ ⟨a_,Qc,T.yx,T.yo,By _ _,a_,?_⟩⟩⟩;have goal:=q2 (by rw[h2];simp) (kvs++[(k,.ref r)]) (upd (upd (upd H r (.lst [])) S (.dT (kvs++[(k,.ref r)]))) r (.lst ([]++[.int h]))) ⟨Qc,by rw[jd rS.symm];exact ja,by
   rw[Qa h3];refine qk (Paired.gy Bq.hs λkv pp ⟨e1,c,e2,e3⟩=>⟨e1,c,e2,?_⟩) ⟨a_,r,a_,ja⟩;rw[jd (jg e3 hr),jd (cT e3 Bq.sg (by intro z;cases z)),jd (jg e3 hr)];exact e3,by
   rw[K_,Ê];refine⟨Bq.un,by simp,λx hx y hy e=>?_⟩;rw[A_,ĉ,j']at hy;rw[e,hy]at hx;exact j4a hr Bq.hs hx⟩ λc' u hc cS _=>by rw[jd (jg hc hr),jd cS,jd (jg hc hr)];exact hc
  have goal:=goal λc u hc z kv hm=>by
   rcases v_.mp hm with y|y
   .exact z kv y
   .have y':kv=(k,.ref r):=by simpa using y
    rw[y'];intro w;have w':r=c:=by simpa using w
    rw[<-w',hr]at hc;cases hc
  rw[h2]at goal;have e:s? (V.int ((([]:b? V)++[V.int h]).length:i_)=V.int en)=s? ((([]:b? f?).length:f?)+1=en):=by simp
  rw[<-e]at goal;exact goal
noncomputable def cD (H:Hp)(v:V)(t:b? f?):Prop:=∃a,v= .ref a/\H a=some (.tup (t.map V.int))
theorem cD.same {H H':Hp}(s:x8 H H'){v:V}{t:b? f?}(h:cD H v t):cD H' v t:=let⟨a,e,q⟩:=h;⟨a,e,s _ _ q⟩
theorem cD.at_ {K:e?}{H:Hp}{vs:b? V}{ts:b? (b? f?)}(h:h_ (cD H) vs ts):i7 K H vs ts:=Paired.gy h λ_ _ ⟨a,e,q⟩=>⟨a,e,az.of q⟩
theorem BA {F:V->b? f?->Prop}{vs:b? V}{ts:b? (b? f?)}(p:h_ F vs ts):∀{ix:b? i_},(∀i∈ix,i<vs.length)->h_ F (ix.map λi=>vs.getD i .aj) (ix.map λi=>ts.getD i [])
 |[],_=>.nil
 |i::ix,h=>by obtain⟨t,e,q⟩:=qo p (u? (h i p?));rw[A_,A_];refine .cons ?_ (BA p λj hj=>h j (q_ _ hj));rw[J',J',e,u? (h i p?)];exact q
noncomputable def jxv (t:Ad):Sp:=λvs H Q _=>∃p dx S en kvs is,vs=[.ref p]/\vb t H p dx S en kvs (bP is)/\kvs.length<64/\(is.map (·.1)).Nodup/\(∀x∈is,x.1≠[])/\∀(r:c_)(aZ:b? V)(bo:b? (b? f?))(H':Hp),H r=none->x8 H H'->bo.Perm (xu is en)->bo.Pairwise (λa b=>HT.lexLt a b=true)->h_ (cD H') aZ bo->H' r=some (.lst aZ)->Q (.ref r) H'
theorem jqa (T:Txt K mg t):zv P w K mg base CX0 2 t.Gp t.Gq ["self"] (jxv t):=by
 refine T.ji8.aW (N:=["self"]) λ_ A _ s H vs Q E hr h=>?_;obtain⟨p,dx,S,en,kvs,is,rfl,Bq,l64,nd,ne,q⟩:=h;refine⟨_,(@je _ _ _ (jv (jo vB a_ T.qB boot_sorted (jc (Er (kJ (N':=["thing","self"]) (ix:=[none,some 0]) (xr (by kernel_rfl)) a_ (Ny (j3 (pv 0) a_)) (λ_ _ _ _=>(jr (i:=0) ZM a_ (o_ a_) (.inr a_))) (λ_ _ _ _=>(rO (ze (j8 (pv 1) T.yx T.yw (uh T) hr.dn T.vg .nil jl (jc (pv 0) jf))))) (λ_ _ _ _=>(pv 0)))) jf)))),?_⟩;have len:kvs.length=is.length:=by have:=q? Bq.hs;rwa[bP,g_]at this
 refine⟨_,a_,xa3 p _ dx _ _ ⟨a_,Bq.ob,T.yx,T.y7,Jj _ _,xa0 S kvs ⟨a_,Bq.sg,λo=>qck (λi ys U H'=>∃v,U=[v,some (.ref p)]/\x8 (upd H S (.aB o (.dT kvs))) H'/\h_ (cD H') ys (xu (is.take i) en)) ⟨none,a_,x8.refl _,.nil⟩ ?_ ?_ ?_⟩⟩⟩
 .rintro i ys U H' hi ⟨v,rfl,sm,tu⟩
  refine⟨sm _ _ ja,?_⟩;rw[q? tu,xu,g_];exact iG (P_ (ê _ _) (by rw[Ñ];omega))
 .rintro i kv b ys U H' ek eb ⟨v,rfl,sm,tu⟩
  obtain⟨pp,ep,e1,c,e2,e3⟩:=qo Bq.hs ek;obtain⟨x,ex,rfl⟩:∃x,is[i]?=some x/\(cx x.1,x.2)=pp:=by
   rw[bP,y_]at ep;cases hx:is[i]? with
   |none=>rw[hx]at ep;cases ep
   |some x=>rw[hx]at ep;exact⟨x,a_,s_ ep⟩
  have nW:∀c u,H c=some u->c≠S->H' c=some u:=λc u hc cS=>sm _ _ (by rw[jd cS];exact hc);have nY:H' S=some (.aB o (.dT kvs)):=sm _ _ ja;have R:Jk t H' p dx S en kvs (bP is):=⟨nW _ _ Bq.ob (cT Bq.ob Bq.sg (by intro z;cases z)),.inr ⟨o,nY⟩,Paired.gy Bq.hs λ_ _ ⟨a1,c,a2,a3⟩=>⟨a1,c,a2,nW _ _ a3 (cT a3 Bq.sg (by intro z;cases z))⟩⟩;have hk:kv.1=cx x.1:=e1;rw[hk]at eb;have hh:=Jn nd ex;have tk:xu (is.take (i+1)) en=xu (is.take i) en++(if en<=(x.2.length:f?)then[x.1]else[]):=by unfold xu;rw[take_snoc ex,ı,K_];by_cases z:en<=(x.2.length:f?)<;>simp[z]
  refine⟨_,a_,xa1 p dx _ ⟨a_,R.ob,xC _ _ (by decide+kernel) (by decide+kernel),_,a_,xa9 p dx S en kvs (bP is) b (cx x.1) ⟨a_,R,eb,λH3 s3=>⟨_,a_,?_⟩⟩⟩⟩;rw[hh];have eb3:H3 b=some (.tup (x.1.map V.int)):=by have:=s3 _ _ eb;rwa[j47]at this
  refine bj (λz=>?_) (λz=>?_)
  .refine⟨_,a_,_,a_,sm.trans s3,?_⟩;rw[tk,m_ (n? z)];exact qk (Paired.gy tu λ_ _ h=>h.same s3) ⟨b,a_,eb3⟩
  .refine⟨_,a_,sm.trans s3,?_⟩;rw[tk,j? (λy=>z (i? y)),â];exact Paired.gy tu λ_ _ h=>h.same s3
 .rintro ys U H' ⟨v,rfl,sm,tu⟩ r hr
  rw[len,Z_]at tu;have nY:H' S=some (.aB o (.dT kvs)):=sm _ _ ja;have rS:r≠S:=(jg nY hr).symm;have ot:∀c u,H' c=some u->c≠S->upd (upd H' r (.lst ys)) S (.dT kvs) c=some u:=λc u hc cS=>by rw[jd cS,jd (jg hc hr)];exact hc
  have Qd:h_ (cD (upd (upd H' r (.lst ys)) S (.dT kvs))) ys (xu is en):=Paired.gy tu λ_ _ ⟨a,e,h⟩=>⟨a,e,ot _ _ h (cT h nY (by intro z;cases z))⟩;refine(xa1 S o (.dT kvs) ⟨(by rw[jd rS.symm];exact nY),(λo' u' z=>?_),xv,xa1 r ys (xu is en) ⟨a_,af.of (by rw[jd rS];exact ja),cD.at_ Qd,?_,?_,?_,λq' aZ bo ix hq pix ev et _ pt _ pw=>?_⟩⟩)
  .have z':H S=some (.aB o' u'):=z;rw[Bq.sg]at z';cases z'
  .rw[q? tu,xu,g_];exact aal (ê _ _) (by omega)
  .exact nd.sublist (adj.map _)
  .intro u hu;obtain⟨x,hx,rfl⟩:=H?.mp hu;exact ne x (D_.mp hx).1
  .obtain⟨n1,n2⟩:=xn hq;obtain⟨n3,n4⟩:=xn n2;have h0:=(xn (sm.free n4)).2;have tu3:h_ (cD (upd (upd (upd H' r (.lst ys)) S (.dT kvs)) q' (.lst aZ))) aZ bo:=by
    have:=BA (Paired.gy Qd λ_ _ h=>h.same (jh (o:=.lst aZ) hq)) (ix:=ix) (λi hi=>Z?.mp (pix.mem_iff.mp hi));rw[ev,et];rw[ev]at this;exact this
   refine q q' aZ bo _ h0 (λc u hc=>?_) pt pw tu3 ja;rw[jd (jg hc h0)];by_cases cS:c=S
   .subst cS;rw[ja,<-hc,Bq.sg]
   .exact ot c u (sm _ _ (by rw[jd cS];exact hc)) cS
theorem jo5 (T:Txt K mg t):zv P w K mg base CX0 1 t.ka t.Gh ["self","enough"] (j3o t):=by
 refine T.jh7.aW (N:=["self","enough"]) λ_ A _ s H vs Q E hr h=>?_;obtain⟨x,dx,en,rfl,hx,k⟩:=h;refine⟨_,(@jb _ _ _ _ _ (g6 (pv 0) (pv 1) a_) (@je _ _ _ (g6 (pv 0) D1 a_))),?_⟩;refine⟨_,a_,_,a_,xa2 x _ dx _ ⟨a_,hx,T.yx,T.yo,(by show 0<1000;decide),λS hS=>?_⟩⟩;obtain⟨Sx,Qe⟩:=xn hS;refine⟨_,a_,xa2 x _ dx _ ⟨a_,(by rw[jd (M_ Sx),ja]),T.yx,T.y7,(by show 1<1000;decide),?_⟩⟩;refine k S _ Qe ⟨ja,by rw[jd Sx];exact ja,.nil,.nil⟩ λb o e bx=>?_;rw[jd bx,jd (jg e Qe),jd bx];exact e
theorem jmi (T:Txt K mg t):zv P w K mg base CX0 1 t.Ga t.Gb ["self","purse"] (λvs H Q _=>∃x v,vs=[.ref x,v]/\H x=some (vK x t.xm)/\∀d,H d=none->Q .aj (upd (upd H x (pS x t.xm d)) d (.xd [("purse",v)]))):=by refine T.je2.aW (N:=["self","purse"]) λ_ A _ s H vs Q E hr h=>?_;obtain⟨x,v,rfl,hx,k⟩:=h;refine⟨_,(@je _ _ _ (Ys T.OU a_ (pv 0) (pv 1) a_)),?_⟩;exact⟨_,a_,_,a_,x,a_,hx,k⟩
theorem qbg {H:Hp}{ea d:c_}{X Yq Zq:HO}(h:H ea=none)(hd:upd H ea X d=none):H d=none/\upd (upd (upd H ea X) ea Yq) d Zq ea=some Yq/\x8 H (λb=>if b=ea then none else upd (upd (upd H ea X) ea Yq) d Zq b)/\(λb=>if b=ea then none else upd (upd (upd H ea X) ea Yq) d Zq b) d=some Zq:=by
 have n1:d≠ea:=λz=>by rw[z,ja]at hd;cases hd
 have n2:H d=none:=by rw[jd n1]at hd;exact hd
 refine⟨n2,by rw[jd (M_ n1),ja],λb u e=>?_,?_⟩
 .have be:=jg e h;show(if b=ea then none else upd (upd (upd H ea X) ea Yq) d Zq b)=some u;rw[j? be,jd (jg e n2),jd be,jd be];exact e
 .show(if d=ea then none else upd (upd (upd H ea X) ea Yq) d Zq d)=some Zq;rw[j? n1,ja]
theorem fY {a b:TS}{D:Ends}{U:St}{H:Hp}(h:∀N:St->Hp->Prop,(∀U' H',b D U' H'->N U' H')->a {D with nx:=N} U H):zO a b D U H:=h _ λ_ _ x=>x
theorem xE {c:TT}{a b:TS}{D:Ends}{U:St}{H:Hp}(h:∀N:o?->Hp->Prop,(∀k H',(if k=true then a D U H' else b D U H')->N k H')->c U H N):Ly c a b D U H:=h _ λ_ _ x=>x
structure Kp where
 held:b? f?
 uw:b? f?
 done:b? O
 ug:b? O
 aA:b? O
 cho:b? ((f?×f?)×O)
 wait:b? O
noncomputable def gI (xs:b? f?)(i:f?):f?:=(xs[i.toNat]?).getD 0
noncomputable def gm (xs:b? f?)(i d:f?):b? f?:=xs.set i.toNat (gI xs i+d)
theorem kY (xs:b? f?)(i d:f?):(gm xs i d).length=xs.length:=Ź ..
theorem jM {xs:b? f?}{i:f?}(h0:0<=i)(h:i<xs.length):xs[i.toNat]?=some (gI xs i):=by unfold gI;rw[u? (by lia)];rfl
noncomputable def Kp.past (k:Kp)(o:O):o?:=s? (o.n<gI k.uw o.p)
noncomputable def Kp.due (k:Kp)(o:O):o?:=s? (o.n=gI k.uw o.p)&&s? (o.m<=gI k.held o.p)
noncomputable def Kp.settle (k:Kp)(o:O):Kp:={k with held:=gm (gm k.held o.p (-o.m)) o.g o.m,uw:=gm k.uw o.p 1,done:=k.done++[o]}
noncomputable def kZ (c:b? ((f?×f?)×O))(o:O):o?:=c.any λx=>s? (x.1=(o.p,o.n))
noncomputable abbrev Gv:=b? ((f?×f?)×O)×b? O×b? O
noncomputable def cR (k:Kp)(o:O)(a:Gv):Gv:=if(k.due o&&!kZ a.1 o)=true then(a.1++[((o.p,o.n),o)],a.2.1++[o],a.2.2)else if(!k.past o&&!kZ a.1 o)=true then(a.1,a.2.1,a.2.2++[o])else a
noncomputable def gv (k:Kp)(os:b? O)(a:Gv):Gv:=os.foldl (λa o=>cR k o a) a
noncomputable def Kp.xk (k:Kp):Kp×b? O:=({k with cho:=(gv k k.aA (k.cho,[],[])).1,aA:=(gv k k.aA (k.cho,[],[])).2.2},(gv k k.aA (k.cho,[],[])).2.1)
noncomputable def Kp.first (k:Kp):g? O:=k.wait.find? k.due
noncomputable def Kp.step (k:Kp)(o:O):Kp:={k with wait:=k.wait.erase o}.settle o
noncomputable def Kp.go:i_->Kp->Kp
 |0,k=>k
 |n+1,k=>match k.first with
  |none=>k
  |some o=>Kp.go n (k.step o)
noncomputable def Kp.ou (k:Kp):Kp:=Kp.go k.wait.length k
noncomputable def Kp.ox (k:Kp)(o:O):Kp×b? O:=if o∈k.ug then(k,[])else Kp.xk {k with ug:=k.ug++[o],aA:=k.aA++[o]}
noncomputable def Kp.jN (k:Kp)(o:O):Kp×b? O:=if(k.past o||decide (o∈k.wait))=true then(k,[])else(Kp.ou {k with wait:=k.wait++[o]}).xk
structure Kp.Ok (n:i_)(k:Kp):Prop where
 h:k.held.length=n
 x:k.uw.length=n
 u:∀o∈k.aA,zc n o=true
 w:∀o∈k.wait,zc n o=true
 nd:k.wait.Nodup
theorem Kp.Ok.settle {n:i_}{k:Kp}(q:k.Ok n)(o:O):(k.settle o).Ok n:=⟨by show(gm (gm _ _ _) _ _).length=n;rw[kY,kY];exact q.h,by show(gm _ _ _).length=n;rw[kY];exact q.x,q.u,q.w,q.nd⟩
theorem Kp.Ok.step {n:i_}{k:Kp}(q:k.Ok n)(o:O):(k.step o).Ok n:=Kp.Ok.settle (k:={k with wait:=k.wait.erase o}) ⟨q.h,q.x,q.u,λo' h=>q.w o' (é h),q.nd.erase o⟩ o
theorem BB (k:Kp){P:O->Prop}:∀(os:b? O)(a:Gv),(∀o∈os,P o)->(∀o∈a.2.2,P o)->∀o∈(gv k os a).2.2,P o
 |[],a,_,h=>h
 | o::os,a,h1,h2=>by
  unfold gv;rw[Ż];refine BB k os _ (λo' h=>h1 o' (q_ _ h)) ?_;unfold cR;split
  .exact h2
  .split
   .intro o' h;rcases v_.mp h with h|h
    .exact h2 o' h
    .rw[j'.mp h];exact h1 o p?
   .exact h2
theorem Kp.Ok.xk {n:i_}{k:Kp}(q:k.Ok n):k.xk.1.Ok n:=⟨q.h,q.x,BB k k.aA _ q.u (λo h=>by cases h),q.w,q.nd⟩
set_option genInjectivity true in
inductive Part where
 | x | wy | ak | bd | sd | sg | kd
 | row (i:i_)
 | kp (h:f?) (f:i_)
 | own (i:i_)
 deriving DecidableEq
noncomputable abbrev Role:=i_×Part
noncomputable abbrev aq:=c_->g? Role
noncomputable def qE:HO->Prop
 | .tup _=>w?
 | .aB _ (.tup _)=>w?
 |_=>O?
noncomputable def ay (Z:aq)(H:Hp):Prop:=∀a r,Z a=some r->∃u,H a=some u/\qE u
noncomputable def Fr (P:Role->Prop)(Z:aq)(H:Hp)(Z':aq)(H':Hp):Prop:=∀a u,H a=some u->(∀r,Z a=some r->¬P r)->H' a=some u/\Z' a=Z a
noncomputable def aE (Z:aq)(p:c_)(r:Role):aq:=λa=>if a=p then some r else Z a
theorem xa {Z:aq}{p:c_}{r:Role}:aE Z p r p=some r:=m_ a_
theorem x9 {Z:aq}{p a:c_}{r:Role}(h:a≠p):aE Z p r a=Z a:=j? h
theorem Fr.refl {P:Role->Prop}{Z:aq}{H:Hp}:Fr P Z H Z H:=λ_ _ e _=>⟨e,a_⟩
theorem Fr.trans {P:Role->Prop}{Z Z' Qf:aq}{H H' qF:Hp}(f:Fr P Z H Z' H')(g:Fr P Z' H' Qf qF):Fr P Z H Qf qF:=λa u e n=>by obtain⟨e1,r1⟩:=f a u e n;obtain⟨e2,r2⟩:=g a u e1 (λr h=>n r (r1 ▸ h));exact⟨e2,r2.trans r1⟩
theorem Fr.mono {P P':Role->Prop}{Z Z':aq}{H H':Hp}(h:∀r,P r->P' r)(f:Fr P Z H Z' H'):Fr P' Z H Z' H':=λa u e n=>f a u e λr hr p=>n r hr (h r p)
theorem Fr.same {P:Role->Prop}{Z:aq}{H H':Hp}(s:x8 H H'):Fr P Z H Z H':=λ_ _ e _=>⟨s _ _ e,a_⟩
theorem ay.same {Z:aq}{H H':Hp}(s:x8 H H')(o:ay Z H):ay Z H':=λa r h=>let⟨u,e,n⟩:=o a r h;⟨u,s _ _ e,n⟩
theorem ay.none {Z:aq}{H:Hp}{p:c_}(o:ay Z H)(h:H p=none):Z p= .none:=by
 cases e:Z p with
 |none=>rfl
 |some r=>obtain⟨u,q,_⟩:=o p r e;rw[h]at q;cases q
theorem ay.tup {Z:aq}{H:Hp}{p:c_}{xs:b? V}(o:ay Z H)(h:H p=some (.tup xs)):Z p= .none:=by
 cases e:Z p with
 |none=>rfl
 |some r=>obtain⟨u,q,n⟩:=o p r e;rw[h]at q;cases q;exact n.elim
theorem Fr.put {P:Role->Prop}{Z:aq}{H:Hp}{a:c_}{r:Role}{o:HO}(h:Z a=some r)(p:P r):Fr P Z H Z (upd H a o):=λb u e n=>by have:b≠a:=λz=>n r (z ▸ h) p;exact⟨by rw[jd this];exact e,a_⟩
theorem ay.put {Z:aq}{H:Hp}{a:c_}{o:HO}(k:ay Z H)(ho:e_ (qE o) aP7):ay Z (upd H a o):=λb r h=>by
 by_cases z:b=a
 .subst z;exact⟨_,ja,ho⟩
 .obtain⟨u,e,n⟩:=k b r h;exact⟨u,by rw[jd z];exact e,n⟩
theorem Fr.cy {P:Role->Prop}{Z:aq}{H:Hp}{p:c_}{r:Role}{o:HO}(n:H p=none):Fr P Z H (aE Z p r) (upd H p o):=λb u e _=>by have:b≠p:=jg e n;exact⟨by rw[jd this];exact e,x9 this⟩
theorem ay.cy {Z:aq}{H:Hp}{p:c_}{r:Role}{o:HO}(k:ay Z H)(ho:e_ (qE o) aP7):ay (aE Z p r) (upd H p o):=λb r' h=>by
 by_cases z:b=p
 .subst z;exact⟨_,ja,ho⟩
 .rw[x9 z]at h;obtain⟨u,e,n⟩:=k b r' h;exact⟨u,by rw[jd z];exact e,n⟩
theorem fu {Z:aq}{a b:c_}{r r':Role}(ha:Z a=some r)(hb:Z b=some r')(n:r≠r'):a≠b:=λz=>by subst z;rw[ha]at hb;exact n (s_ hb)
theorem BC {Z:aq}{a b:c_}{r:Role}(ha:Z a=none)(hb:Z b=some r):a≠b:=λz=>by subst z;rw[ha]at hb;cases hb
noncomputable def xt (H:Hp)(Z:aq)(x:V)(o:O):Prop:=∃a,x= .ref a/\Z a=none/\H a=some (.tup (bO o))
theorem xt.fr {P:Role->Prop}{Z Z':aq}{H H':Hp}{x:V}{o:O}(f:Fr P Z H Z' H')(h:xt H Z x o):xt H' Z' x o:=by
 obtain⟨a,e,n,q⟩:=h;obtain⟨q',n'⟩:=f a _ q λr hr=>by rw[n]at hr;cases hr
 exact⟨a,e,n'.trans n,q'⟩
theorem xt.at_ {H:Hp}{Z:aq}{x:V}{o:O}(h:xt H Z x o):qct H x o:=let⟨a,e,_,q⟩:=h;⟨a,e,q⟩
noncomputable def cE (o:O):b? Key:=[.inl o.p,.inl o.n,.inl o.g,.inl o.m]
theorem j4n {o u:O}(h:cE o=cE u):o=u:=by cases o;cases u;unfold cE at h;simp at h;simp[h]
noncomputable def eC (he nn dn:c_):b? (y?×V):=uk "done" (.ref dn) (uk "next_numbers" (.ref nn) (uk "held" (.ref he) []))
noncomputable def kf (he nn dn hd un cs wt:c_):b? (y?×V):=uk "waiting" (.ref wt) (uk "choices" (.ref cs) (uk "unvoted" (.ref un) (uk "heard" (.ref hd) (eC he nn dn))))
noncomputable abbrev eW (A:i_->c_):b? (y?×V):=kf (A 1) (A 2) (A 3) (A 4) (A 5) (A 6) (A 7)
noncomputable def eD (H:Hp)(Z:aq)(B:Kp)(f:i_)(u:HO):Prop:=match f with
 |1=>u= .lst (B.held.map V.int)
 |2=>u= .lst (B.uw.map V.int)
 |3=>∃xs,u= .lst xs/\h_ (xt H Z) xs B.done
 |4=>∃kvs,u= .dT kvs/\kvs.map (·.1)=B.ug.map cE
 |5=>∃xs,u= .lst xs/\h_ (xt H Z) xs B.aA
 |6=>∃kvs,u= .dT kvs/\h_ (λkv (c:(f?×f?)×O)=>kv.1=[.inl c.1.1,.inl c.1.2]/\xt H Z kv.2 c.2) kvs B.cho
 |7=>∃xs,u= .lst xs/\h_ (xt H Z) xs B.wait
 |_=>O?
theorem eD.fr {P:Role->Prop}{Z Z':aq}{H H':Hp}{B:Kp}{f:i_}{u:HO}(fr:Fr P Z H Z' H')(h:eD H Z B f u):eD H' Z' B f u:=by
 unfold eD at h⊢;split at h
 .exact h
 .exact h
 .obtain⟨xs,e,p⟩:=h;exact⟨xs,e,Paired.gy p λ_ _=>xt.fr fr⟩
 .exact h
 .obtain⟨xs,e,p⟩:=h;exact⟨xs,e,Paired.gy p λ_ _=>xt.fr fr⟩
 .obtain⟨xs,e,p⟩:=h;exact⟨xs,e,Paired.gy p λ_ _ ⟨a,b⟩=>⟨a,b.fr fr⟩⟩
 .obtain⟨xs,e,p⟩:=h;exact⟨xs,e,Paired.gy p λ_ _=>xt.fr fr⟩
 .trivial
structure xw (t:Ad)(H:Hp)(Z:aq)(id:i_)(h:f?)(k:c_)(A:i_->c_)(dk:c_)(B:Kp):Prop where
 ob:H k=some (.ins t.j6 dk (eW A))
 r0:Z k=some (id,.kp h 0)
 fl:∀f,1<=f->f<=7->Z (A f)=some (id,.kp h f)/\∃u,H (A f)=some u/\eD H Z B f u
noncomputable def bg (id:i_)(h:f?):Role->Prop:=λr=>∃f,r=(id,.kp h f)
section
variable {t:Ad}{H H':Hp}{Z Z':aq}{id:i_}{h:f?}{k dk:c_}{A:i_->c_}{B κ':Kp}{P:Role->Prop}
theorem xw.fr (hP:∀f,¬P (id,.kp h f))(f:Fr P Z H Z' H')(K:xw t H Z id h k A dk B):xw t H' Z' id h k A dk B:=by
 obtain⟨e1,r1⟩:=f _ _ K.ob λr hr=>by rw[K.r0]at hr;cases hr;exact hP 0
 refine⟨e1,r1.trans K.r0,λi h1 h7=>?_⟩;obtain⟨ri,u,hu,q⟩:=K.fl i h1 h7;obtain⟨e2,r2⟩:=f _ _ hu λr hr=>by rw[ri]at hr;cases hr;exact hP i
 exact⟨r2.trans ri,u,e2,q.fr f⟩
theorem xw.put (K:xw t H Z id h k A dk B){f0:i_}(h1:1<=f0)(h7:f0<=7){u0:HO}(q0:eD (upd H (A f0) u0) Z κ' f0 u0)(hs:∀f u,f≠f0->eD H Z B f u->eD H Z κ' f u):xw t (upd H (A f0) u0) Z id h k A dk κ'/\Fr (bg id h) Z H Z (upd H (A f0) u0):=by
 obtain⟨r0,_⟩:=K.fl f0 h1 h7;have fr:Fr (bg id h) Z H Z (upd H (A f0) u0):=Fr.put r0 ⟨f0,a_⟩;refine⟨⟨?_,K.r0,λf a b=>?_⟩,fr⟩
 .rw[jd (fu K.r0 r0 (by intro z;cases z;lia))];exact K.ob
 .obtain⟨rf,u,hu,q⟩:=K.fl f a b;by_cases z:f=f0
  .subst z;exact⟨rf,_,ja,q0⟩
  .refine⟨rf,u,?_,(hs f u z q).fr fr⟩;rw[jd (fu rf r0 (by intro y;cases y;exact z a_))];exact hu
end
theorem xp (A:i_->c_):(eW A).lookup ("held":y?)=some (.ref (A 1))/\(eW A).lookup ("next_numbers":y?)=some (.ref (A 2))/\(eW A).lookup ("done":y?)=some (.ref (A 3))/\(eW A).lookup ("heard":y?)=some (.ref (A 4))/\(eW A).lookup ("unvoted":y?)=some (.ref (A 5))/\(eW A).lookup ("choices":y?)=some (.ref (A 6))/\(eW A).lookup ("waiting":y?)=some (.ref (A 7)):=by unfold eW kf eC;refine⟨?_,?_,?_,?_,?_,?_,?_⟩<;>repeat(first|rw[jj,m_ a_]|rw[jj,j? (by decide+kernel)])
theorem fZ (A:i_->c_){m:y?}(h:e_ (¬m="waiting"/\¬m="choices"/\¬m="unvoted"/\¬m="heard"/\¬m="done"/\¬m="next_numbers"/\¬m="held") aP4):(eW A).lookup m=none:=by obtain⟨h1,h2,h3,h4,h5,h6,h7⟩:=h;unfold eW kf eC;rw[jj,j? h1,jj,j? h2,jj,j? h3,jj,j? h4,jj,j? h5,jj,j? h6,jj,j? h7];rfl
theorem xw.he {t:Ad}{H:Hp}{Z:aq}{id:i_}{h:f?}{k dk:c_}{A:i_->c_}{B:Kp}(K:xw t H Z id h k A dk B):H (A 1)=some (.lst (B.held.map V.int)):=by obtain⟨_,u,hu,q⟩:=K.fl 1 (by decide) (by decide);rw[hu,show u=_ from q]
theorem xw.nn {t:Ad}{H:Hp}{Z:aq}{id:i_}{h:f?}{k dk:c_}{A:i_->c_}{B:Kp}(K:xw t H Z id h k A dk B):H (A 2)=some (.lst (B.uw.map V.int)):=by obtain⟨_,u,hu,q⟩:=K.fl 2 (by decide) (by decide);rw[hu,show u=_ from q]
theorem xw.dn {t:Ad}{H:Hp}{Z:aq}{id:i_}{h:f?}{k dk:c_}{A:i_->c_}{B:Kp}(K:xw t H Z id h k A dk B):∃xs,H (A 3)=some (.lst xs)/\h_ (xt H Z) xs B.done:=by obtain⟨_,u,hu,xs,rfl,q⟩:=K.fl 3 (by decide) (by decide);exact⟨xs,hu,q⟩
theorem xw.hd {t:Ad}{H:Hp}{Z:aq}{id:i_}{h:f?}{k dk:c_}{A:i_->c_}{B:Kp}(K:xw t H Z id h k A dk B):∃kvs,H (A 4)=some (.dT kvs)/\kvs.map (·.1)=B.ug.map cE:=by obtain⟨_,u,hu,xs,rfl,q⟩:=K.fl 4 (by decide) (by decide);exact⟨xs,hu,q⟩
theorem xw.un {t:Ad}{H:Hp}{Z:aq}{id:i_}{h:f?}{k dk:c_}{A:i_->c_}{B:Kp}(K:xw t H Z id h k A dk B):∃xs,H (A 5)=some (.lst xs)/\h_ (xt H Z) xs B.aA:=by obtain⟨_,u,hu,xs,rfl,q⟩:=K.fl 5 (by decide) (by decide);exact⟨xs,hu,q⟩
theorem xw.cs {t:Ad}{H:Hp}{Z:aq}{id:i_}{h:f?}{k dk:c_}{A:i_->c_}{B:Kp}(K:xw t H Z id h k A dk B):∃kvs,H (A 6)=some (.dT kvs)/\h_ (λkv (c:(f?×f?)×O)=>kv.1=[.inl c.1.1,.inl c.1.2]/\xt H Z kv.2 c.2) kvs B.cho:=by obtain⟨_,u,hu,xs,rfl,q⟩:=K.fl 6 (by decide) (by decide);exact⟨xs,hu,q⟩
theorem xw.wt {t:Ad}{H:Hp}{Z:aq}{id:i_}{h:f?}{k dk:c_}{A:i_->c_}{B:Kp}(K:xw t H Z id h k A dk B):∃xs,H (A 7)=some (.lst xs)/\h_ (xt H Z) xs B.wait:=by obtain⟨_,u,hu,xs,rfl,q⟩:=K.fl 7 (by decide) (by decide);exact⟨xs,hu,q⟩
theorem xF {n:i_}{o:O}{xs:b? f?}(h:zc n o=true)(l:xs.length=n):xs[o.p.toNat]?=some (gI xs o.p)/\0<=o.p/\o.p<n:=by obtain⟨a1,a2,_⟩:=qc.mp h;exact⟨jM a1 (by lia),a1,by lia⟩
theorem Jo (T:Txt K mg t):zv P w K mg base CX0 1 t.gu t.Bl ["self","order"] (λvs H Q _=>∃Z id h k A dk B n q o,vs=[.ref k,.ref q]/\xw t H Z id h k A dk B/\H q=some (.tup (bO o))/\zc (n:i_) o=true/\B.uw.length=n/\Q (.bl (B.past o)) H):=by refine T.OZ.bF Ow λ_ A _ s H vs Q E hr h=>?_;obtain⟨Z,id,h,k,A',dk,B,n,q,o,rfl,R,hq,ho,l,g⟩:=h;refine⟨_,(@je _ _ _ (jv (gW rG (gb gY (pv 1) jn (λ_ _=>a_)) (gb yr (j3 (pv 0) a_) (gb gY (pv 1) jn (λ_ _=>a_)) (λ_ _=>a_)) (qe _)))),?_⟩;obtain⟨e,p0,_⟩:=xF ho l;refine⟨_,a_,xa2 q (bO o) 1 (.int o.n) ⟨a_,a_,az.of hq,a_,_,a_,xa3 k _ dk _ _ ⟨a_,R.ob,T.jq,T.zd,(xp A').2.1,_,a_,xa2 q (bO o) 0 (.int o.p) ⟨a_,a_,az.of hq,a_,xa2 (A' 2) _ o.p (.int (gI B.uw o.p)) ⟨a_,a_,af.of R.nn,fW p0 (by rw[y_,e];rfl),xa0 _ _ ⟨a_,a_,g⟩⟩⟩⟩⟩⟩
theorem Qg (T:Txt K mg t):zv P w K mg base CX0 1 t.wZ t.Bm ["self","order"] (λvs H Q _=>∃Z id h k A dk B n q o,vs=[.ref k,.ref q]/\xw t H Z id h k A dk B/\H q=some (.tup (bO o))/\zc (n:i_) o=true/\B.uw.length=n/\B.held.length=n/\Q (.bl (B.due o)) H):=by
 refine T.O0.bF qw λ_ A _ s H vs Q E hr h=>?_;obtain⟨Z,id,h,k,A',dk,B,n,q,o,rfl,R,hq,ho,l,l2,g⟩:=h;refine⟨_,(@jb _ _ _ _ _ (iP (pv 1) (kD a_ (ju (jr (i:=2) qw.nd a_ (o_ a_)) (ju (jr (i:=3) qw.nd a_ (o_ a_)) (ju (jr (i:=4) qw.nd a_ (o_ a_)) (ju (jr (i:=5) qw.nd a_ (o_ a_)) iO)))))) (@je _ _ _ (jv (lK (gW fH (pv 3) (gb yr (j3 (pv 0) a_) (pv 2) (λ_ _=>a_)) (qe _)) (mS (gW tL (pv 5) (gb yr (j3 (pv 0) a_) (pv 2) (λ_ _=>a_)) (qe _))))))),?_⟩;obtain⟨e,p0,_⟩:=xF ho l;obtain⟨e2,_,_⟩:=xF ho l2;refine⟨_,a_,xa0 q _ ⟨a_,az.of hq,a_,xa0 _ _ ⟨a_,xa0 _ _ ⟨a_,xa0 _ _ ⟨a_,xa0 _ _ ⟨a_,a_,?_⟩⟩⟩⟩⟩⟩;refine⟨_,a_,_,a_,xa3 k _ dk _ _ ⟨a_,R.ob,T.jq,T.zd,(xp A').2.1,_,a_,xa2 (A' 2) _ o.p (.int (gI B.uw o.p)) ⟨a_,a_,af.of R.nn,fW p0 (by rw[y_,e];rfl),a_,_,a_,?_⟩⟩⟩;unfold Kp.due at g;refine bj (λz=>?_) (λz=>?_)
 .refine⟨_,a_,_,a_,xa3 k _ dk _ _ ⟨a_,R.ob,T.jq,T.yf,(xp A').1,_,a_,xa2 (A' 1) _ o.p (.int (gI B.held o.p)) ⟨a_,a_,af.of R.he,fW p0 (by rw[y_,e2];rfl),xa0 _ _ ⟨a_,a_,?_⟩⟩⟩⟩;rw[i? (V.int.inj (n? z)),acA]at g;exact g
 .rw[z? (λy=>z (by rw[y];exact i? a_)),acg]at g;exact g
theorem jsy (T:Txt K mg t):zv P w K mg base CX0 1 t.uz t.Bn ["self","order"] (λvs H Q _=>∃Z id h k A dk B n q o,vs=[.ref k,.ref q]/\xw t H Z id h k A dk B/\xt H Z (.ref q) o/\zc (n:i_) o=true/\B.uw.length=n/\B.held.length=n/\B.done.length<=1000/\ay Z H/\∀H',xw t H' Z id h k A dk (B.settle o)->Fr (bg id h) Z H Z H'->ay Z H'->Q .aj H'):=by
 refine T.O5.bF qv λ_ A _ s H vs Q E hr h=>?_;obtain⟨Z,id,h,k,A',dk,B,n,q,o,rfl,R,uq,ho,l,l2,ld,kr,g⟩:=h;refine⟨_,(@jb _ _ _ _ _ (iP (pv 1) (kD a_ (ju (jr (i:=2) qv.nd a_ (o_ a_)) (ju (jr (i:=3) qv.nd a_ (o_ a_)) (ju (jr (i:=4) qv.nd a_ (o_ a_)) (ju (jr (i:=5) qv.nd a_ (o_ a_)) iO)))))) (@jb _ _ _ _ _ (mV (j3 (pv 0) a_) (pv 2) nQ (pv 5) Dl set_list) (@jb _ _ _ _ _ (mV (j3 (pv 0) a_) (pv 4) nQ (pv 5) tF set_list) (@jb _ _ _ _ _ (mV (j3 (pv 0) a_) (pv 2) nQ jn tF set_list) (@je _ _ _ (qb (fq B? E_ F_ y8 (j3 (pv 0) a_) (jc (pv 1) jf)))))))),?_⟩;obtain⟨_,eq,nq,hq⟩:=uq;cases eq;obtain⟨e,p0,p1⟩:=xF ho l;obtain⟨e2,_,_⟩:=xF ho l2;refine⟨_,a_,xa0 q _ ⟨a_,az.of hq,a_,xa0 _ _ ⟨a_,xa0 _ _ ⟨a_,xa0 _ _ ⟨a_,xa0 _ _ ⟨a_,a_,?_⟩⟩⟩⟩⟩⟩;obtain⟨g0,g1⟩:=(λa=>⟨a.2.2.1,a.2.2.2.1⟩:_->0<=o.g/\o.g<=(n:f?)-1) (qc.mp ho);refine⟨_,a_,xa3 k _ dk _ _ ⟨a_,R.ob,T.jq,T.yf,(xp A').1,_,a_,xa2 (A' 1) _ o.p (.int (gI B.held o.p)) ⟨a_,a_,af.of R.he,p0,(by rw[y_,e2];rfl),_,a_,xa0 _ _ ⟨a_,a_,xa2 (A' 1) _ o.p _ ⟨a_,a_,R.he,kW p0 (by rw[g_];omega),?_⟩⟩⟩⟩⟩;have m1:((B.held.map V.int).set o.p.toNat (.int (gI B.held o.p-o.m)))=(gm B.held o.p (-o.m)).map V.int:=by
  rw[gm,ad3];rfl
 dsimp only;rw[m1];obtain⟨R1,f1⟩:=R.put (κ':={B with held:=gm B.held o.p (-o.m)}) (f0:=1) (by decide) (by decide) (u0:=.lst ((gm B.held o.p (-o.m)).map V.int)) a_ (λf u hf q=>by unfold eD at q⊢;split at q<;>first|exact q|exact w_ a_ hf);have bK:=kr.put (a:=A' 1) (o:=.lst ((gm B.held o.p (-o.m)).map V.int));generalize upd H (A' 1) (.lst ((gm B.held o.p (-o.m)).map V.int))=H1 at R1 f1 bK;have l3:(gm B.held o.p (-o.m)).length=n:=(kY ..).trans l2;have e3:(gm B.held o.p (-o.m))[o.g.toNat]?=some (gI (gm B.held o.p (-o.m)) o.g):=jM g0 (by omega);refine⟨_,a_,xa3 k _ dk _ _ ⟨a_,R1.ob,T.jq,T.yf,(xp A').1,_,a_,xa2 (A' 1) _ o.g (.int (gI (gm B.held o.p (-o.m)) o.g)) ⟨a_,a_,af.of R1.he,g0,(by rw[y_,e3];rfl),_,a_,xa0 _ _ ⟨a_,a_,xa2 (A' 1) _ o.g _ ⟨a_,a_,R1.he,kW g0 (by rw[g_];show o.g.toNat<(gm B.held o.p (-o.m)).length;omega),?_⟩⟩⟩⟩⟩;have m2:((gm B.held o.p (-o.m)).map V.int).set o.g.toNat (.int (gI (gm B.held o.p (-o.m)) o.g+o.m))=(gm (gm B.held o.p (-o.m)) o.g o.m).map V.int:=by rw[gm.eq_def (gm B.held o.p (-o.m)),ad3]
 dsimp only;rw[m2];obtain⟨R2,f2⟩:=R1.put (κ':={B with held:=gm (gm B.held o.p (-o.m)) o.g o.m}) (f0:=1) (by decide) (by decide) (u0:=.lst ((gm (gm B.held o.p (-o.m)) o.g o.m).map V.int)) a_ (λf u hf q=>by unfold eD at q⊢;split at q<;>first|exact q|exact w_ a_ hf);have bW:=bK.put (a:=A' 1) (o:=.lst ((gm (gm B.held o.p (-o.m)) o.g o.m).map V.int));generalize upd H1 (A' 1) (.lst ((gm (gm B.held o.p (-o.m)) o.g o.m).map V.int))=H2 at R2 f2 bW;refine⟨_,a_,xa3 k _ dk _ _ ⟨a_,R2.ob,T.jq,T.zd,(xp A').2.1,_,a_,xa2 (A' 2) _ o.p (.int (gI B.uw o.p)) ⟨a_,a_,af.of R2.nn,p0,(by rw[y_,e];rfl),xa0 _ _ ⟨a_,a_,xa2 (A' 2) _ o.p _ ⟨a_,a_,R2.nn,kW p0 (by rw[g_];show o.p.toNat<B.uw.length;rw[l];omega),?_⟩⟩⟩⟩⟩;have m3:(B.uw.map V.int).set o.p.toNat (.int (gI B.uw o.p+1))=(gm B.uw o.p 1).map V.int:=by rw[gm,ad3]
 dsimp only;rw[m3];obtain⟨R3,f3⟩:=R2.put (κ':={B with held:=gm (gm B.held o.p (-o.m)) o.g o.m,uw:=gm B.uw o.p 1}) (f0:=2) (by decide) (by decide) (u0:=.lst ((gm B.uw o.p 1).map V.int)) a_ (λf u hf q=>by unfold eD at q⊢;split at q<;>first|exact q|exact w_ a_ hf);have iI:=bW.put (a:=A' 2) (o:=.lst ((gm B.uw o.p 1).map V.int));generalize upd H2 (A' 2) (.lst ((gm B.uw o.p 1).map V.int))=H3 at R3 f3 iI;obtain⟨xs,hx,px⟩:=R3.dn;have fr:=(f1.trans f2).trans f3;have uq3:xt H3 Z (.ref q) o:=xt.fr fr ⟨q,a_,nq,hq⟩;have lx:xs.length<=1000:=by rw[q? px];exact ld
 refine⟨_,a_,xa3 k _ dk _ _ ⟨a_,R3.ob,T.jq,T.Jb,(xp A').2.2.1,.inl ⟨a_,_,af.of hx⟩,_,a_,xa1 (A' 3) xs (.ref q) ⟨a_,a_,hx,zm lx,?_⟩⟩⟩;obtain⟨r3,_⟩:=R3.fl 3 (by decide) (by decide);obtain⟨R4,f4⟩:=R3.put (κ':=B.settle o) (f0:=3) (by decide) (by decide) (u0:=.lst (xs++[.ref q])) ⟨_,a_,qk (Paired.gy px λ_ _=>xt.fr (Fr.put (P:=bg id h) r3 ⟨3,a_⟩)) (uq3.fr (Fr.put (P:=bg id h) r3 ⟨3,a_⟩))⟩ (λf u hf q=>by unfold eD at q⊢;split at q<;>first|exact q|exact w_ a_ hf);exact g _ R4 (fr.trans f4) iI.put
theorem xt.ref {H:Hp}{Z:aq}{x:V}{o:O}(h:xt H Z x o):∃q,x= .ref q/\H q=some (.tup (bO o)):=let⟨q,e,_,h⟩:=h;⟨q,e,h⟩
theorem Qh (T:Txt K mg t):zv P w K mg base CX0 2 t.Gw t.Gx ["self"] (λvs H Q _=>∃Z id h k A dk B n,vs=[.ref k]/\xw t H Z id h k A dk B/\B.Ok n/\∀v,((B.first=none/\v= .aj)\/∃o,B.first=some o/\xt H Z v o)->Q v H):=by
 refine T.je0.bF Ox λ_ A _ s H vs Q E hr h=>?_;obtain⟨Z,id,h,k,A',dk,B,n,rfl,R,ag,g⟩:=h;refine⟨_,(@jb _ _ _ _ _ (iR ú a_ (@pz _ _ _ _ (j3 (pv 0) a_)) (jr (i:=1) Ox.nd a_ (o_ a_)) (@je _ _ _ (zf (ze (j8 (pv 0) T.jq T.P0 (Qg T) hr.dn T.Bt .nil jl (jc (pv 1) jf))) (@je _ _ _ (jv (pv 1))) j9))) (@je _ _ _ (jv gR))),?_⟩;obtain⟨xs,hx,px⟩:=R.wt;refine⟨_,a_,xa3 k _ dk _ _ ⟨a_,R.ob,T.jq,T.zj,(xp A').2.2.2.2.2.2,A' 7,a_,⟨_,af.of hx⟩,oU (K:=K) (a:=A' 7) (xs:=xs) (λi U H'=>∃v,U=[some (.ref k),v]/\H'=H/\(B.wait.take i).find? B.due=none) ⟨none,a_,a_,a_⟩ (λi U H' _ ⟨_,_,e,_⟩=>af.of (by rw[e];exact hx)) ?_ ?_⟩⟩
 .rintro i x U H' ex ⟨v,rfl,rfl,hf⟩
  obtain⟨o,eo,uo⟩:=qo px ex;obtain⟨q,rfl,hq⟩:=uo.ref;have om:o∈B.wait:=u_ eo;refine⟨_,a_,xa1 k dk _ ⟨a_,R.ob,fZ A',_,a_,xb1 Z id h k A' dk B n q o ⟨a_,R,hq,ag.w o om,ag.x,ag.h,_,a_,?_⟩⟩⟩;cases hd:B.due o with
  |true=>
   refine bA ⟨_,a_,g _ (.inr ⟨o,?_,uo⟩)⟩;have:(B.wait.take (i+1)).find? B.due=some o:=by rw[take_snoc eo,aa6,hf,Ą,hd];rfl
   unfold Kp.first;rw[<-aaf (i+1) B.wait,aa6,this];rfl
  |false=>refine w4 ⟨_,a_,a_,?_⟩;rw[take_snoc eo,aa6,hf,Ą,hd];rfl
 .rintro U H' ⟨v,rfl,rfl,hf⟩
  refine g _ (.inl ⟨?_,a_⟩);rw[q? px,Z_]at hf;exact hf
theorem Fr.Jq {P:Role->Prop}{Z:aq}{H:Hp}{a:c_}{r r':Role}(h:Z a=some r)(p:P r):Fr P Z H (aE Z a r') H:=λb u e n=>by have:b≠a:=λz=>n r (z ▸ h) p;exact⟨e,x9 this⟩
theorem ay.Jq {Z:aq}{H:Hp}{a:c_}{r r':Role}(h:Z a=some r)(k:ay Z H):ay (aE Z a r') H:=λb r'' hb=>by
 by_cases z:b=a
 .subst z;exact k _ _ h
 .rw[x9 z]at hb;exact k _ _ hb
theorem j77 {H:Hp}{Z:aq}{o:O}:∀{kvs:b? (b? Key×V)}{c:b? ((f?×f?)×O)},h_ (λkv (c:(f?×f?)×O)=>kv.1=[.inl c.1.1,.inl c.1.2]/\xt H Z kv.2 c.2) kvs c->(aY kvs [.inl o.p,.inl o.n]).isSome=kZ c o:=λ{kvs c} q=>by
 induction q with
 |nil=>rfl
 |@cons kv c kvs cs a r ih=>
  obtain⟨e,_⟩:=a;unfold kZ at ih⊢;rw[ű];by_cases z:c.1=(o.p,o.n)
  .rw[kH (show kv.1=_ by rw[e,z]),i? z];rfl
  .rw[kI (λy=>z ?_),ih,z? z,afo];rw[e]at y;have y1:=(ĸ y).1;have y2:=(ĸ (ĸ y).2).1;exact Prod.ext (S_.inj y1) (S_.inj y2)
theorem qek {n:i_}{o:O}(h:zc n o=true)(l:n<=8):zc 8 o=true:=by rw[qc]at h⊢;lia
theorem j75 (B:Kp){os:b? O}{i:i_}{o:O}(e:os[i]?=some o)(a:Gv):gv B (os.take (i+1)) a=cR B o (gv B (os.take i) a):=by unfold gv;rw[take_snoc e,aaY];rfl
theorem j6t (B:Kp)(o:O)(a:Gv):(cR B o a).1.length<=a.1.length+1/\(cR B o a).2.1.length<=a.2.1.length+1/\(cR B o a).2.2.length<=a.2.2.length+1:=by
 unfold cR;split
 .simp
 .split
  .simp
  .simp
theorem BD (B:Kp):∀(os:b? O)(a:Gv),(gv B os a).1.length<=a.1.length+os.length/\(gv B os a).2.1.length<=a.2.1.length+os.length/\(gv B os a).2.2.length<=a.2.2.length+os.length
 |[],a=>by simp[gv]
 |o::os,a=>by have h1:=BD B os (cR B o a);have h2:=j6t B o a;unfold gv at h1⊢;rw[Ż,C?];lia
structure ie (t:Ad)(Z:aq)(id:i_)(h:f?)(k:c_)(A:i_->c_)(dk:c_)(B:Kp)(Vt Lt:c_)(xs:b? V)(H0:Hp)(a:Gv)(H:Hp):Prop where
 fr:Fr (bg id h) Z H0 Z H
 kr:ay Z H
 R:xw t H Z id h k A dk {B with cho:=a.1}
 hv:∃vs,H Vt=some (.lst vs)/\h_ (xt H Z) vs a.2.1
 hl:∃ls,H Lt=some (.lst ls)/\h_ (xt H Z) ls a.2.2
 hx:H (A 5)=some (.lst xs)
 px:h_ (xt H Z) xs B.aA
theorem ie.same {t:Ad}{Z:aq}{id:i_}{h:f?}{k:c_}{A:i_->c_}{dk:c_}{B:Kp}{Vt Lt:c_}{xs:b? V}{H0 H H':Hp}{a:Gv}(s:x8 H H')(J:ie t Z id h k A dk B Vt Lt xs H0 a H):ie t Z id h k A dk B Vt Lt xs H0 a H':=by have f:Fr (λ_=>w?) Z H Z H':=Fr.same s;obtain⟨vs,v1,v2⟩:=J.hv;obtain⟨ls,l1,l2⟩:=J.hl;exact⟨J.fr.trans (Fr.same s),J.kr.same s,J.R.fr (λ_ z=>z) f,⟨vs,s _ _ v1,Paired.gy v2 λ_ _=>xt.fr f⟩,⟨ls,s _ _ l1,Paired.gy l2 λ_ _=>xt.fr f⟩,s _ _ J.hx,Paired.gy J.px λ_ _=>xt.fr f⟩
theorem ie.putL {t:Ad}{Z:aq}{id:i_}{h:f?}{k:c_}{A:i_->c_}{dk:c_}{B:Kp}{Vt Lt:c_}{xs ls sy:b? V}{H0 H:Hp}{a:Gv}{later:b? O}(J:ie t Z id h k A dk B Vt Lt xs H0 a H)(hl:H Lt=some (.lst ls))(rL:Z Lt=some (id,.kp h 9))(rV:Z Vt=some (id,.kp h 8))(LV:Lt≠Vt)(fL:Fr (bg id h) Z H Z (upd H Lt (.lst sy)))(pl:h_ (xt (upd H Lt (.lst sy)) Z) sy later):ie t Z id h k A dk B Vt Lt xs H0 (a.1,a.2.1,later) (upd H Lt (.lst sy)):=by
 have f9:Fr (λr=>r=(id,.kp h 9)) Z H Z (upd H Lt (.lst sy)):=Fr.put rL a_;obtain⟨vs,v1,v2⟩:=J.hv;have nf:∀{f:i_},f<=7->∀{b:c_},Z b=some (id,.kp h f)->b≠Lt:=λ{f} hf {b} hb=>fu hb rL (by intro z;cases z;lia);refine⟨J.fr.trans fL,J.kr.put,⟨?_,J.R.r0,λf a1 b1=>?_⟩,⟨vs,?_,Paired.gy v2 λ_ _=>xt.fr fL⟩,⟨sy,ja,pl⟩,?_,Paired.gy J.px λ_ _=>xt.fr fL⟩
 .rw[jd (nf (by decide) J.R.r0)];exact J.R.ob
 .obtain⟨rf,u,hu,q⟩:=J.R.fl f a1 b1;exact⟨rf,u,by rw[jd (nf b1 rf)];exact hu,q.fr fL⟩
 .rw[jd LV.symm];exact v1
 .rw[jd (nf (by decide) (J.R.fl 5 (by decide) (by decide)).1)];exact J.hx
theorem ie.qdy {t:Ad}{Z:aq}{id:i_}{h:f?}{k:c_}{A:i_->c_}{dk:c_}{B:Kp}{Vt Lt:c_}{xs aZ:b? V}{H0 H:Hp}{a:Gv}{xk:b? O}(J:ie t Z id h k A dk B Vt Lt xs H0 a H)(rV:Z Vt=some (id,.kp h 8))(LV:Lt≠Vt)(fL:Fr (bg id h) Z H Z (upd H Vt (.lst aZ)))(pv:h_ (xt (upd H Vt (.lst aZ)) Z) aZ xk):ie t Z id h k A dk B Vt Lt xs H0 (a.1,xk,a.2.2) (upd H Vt (.lst aZ)):=by
 obtain⟨ls,l1,l2⟩:=J.hl;have nf:∀{f:i_},f<=7->∀{b:c_},Z b=some (id,.kp h f)->b≠Vt:=λ{f} hf {b} hb=>fu hb rV (by intro z;cases z;lia);refine⟨J.fr.trans fL,J.kr.put,⟨?_,J.R.r0,λf a1 b1=>?_⟩,⟨aZ,ja,pv⟩,⟨ls,?_,Paired.gy l2 λ_ _=>xt.fr fL⟩,?_,Paired.gy J.px λ_ _=>xt.fr fL⟩
 .rw[jd (nf (by decide) J.R.r0)];exact J.R.ob
 .obtain⟨rf,u,hu,q⟩:=J.R.fl f a1 b1;exact⟨rf,u,by rw[jd (nf b1 rf)];exact hu,q.fr fL⟩
 .rw[jd LV];exact l1
 .rw[jd (nf (by decide) (J.R.fl 5 (by decide) (by decide)).1)];exact J.hx
theorem ie.qed {t:Ad}{Z:aq}{id:i_}{h:f?}{k:c_}{A:i_->c_}{dk:c_}{B:Kp}{Vt Lt:c_}{xs:b? V}{H0 H:Hp}{a:Gv}{cho:b? ((f?×f?)×O)}{kvs:b? (b? Key×V)}(J:ie t Z id h k A dk B Vt Lt xs H0 a H)(rL:Z Lt=some (id,.kp h 9))(rV:Z Vt=some (id,.kp h 8))(pc:h_ (λkv (c:(f?×f?)×O)=>kv.1=[.inl c.1.1,.inl c.1.2]/\xt (upd H (A 6) (.dT kvs)) Z kv.2 c.2) kvs cho):ie t Z id h k A dk B Vt Lt xs H0 (cho,a.2.1,a.2.2) (upd H (A 6) (.dT kvs)):=by
 obtain⟨R,fL⟩:=J.R.put (κ':={B with cho:=cho}) (f0:=6) (by decide) (by decide) (u0:=.dT kvs) ⟨kvs,a_,pc⟩ (λf u hf q=>by unfold eD at q⊢;split at q<;>first|exact q|exact w_ a_ hf);obtain⟨vs,v1,v2⟩:=J.hv;obtain⟨ls,l1,l2⟩:=J.hl;have r6:=(J.R.fl 6 (by decide) (by decide)).1;refine⟨J.fr.trans fL,J.kr.put,R,⟨vs,?_,Paired.gy v2 λ_ _=>xt.fr fL⟩,⟨ls,?_,Paired.gy l2 λ_ _=>xt.fr fL⟩,?_,Paired.gy J.px λ_ _=>xt.fr fL⟩
 .rw[jd (fu rV r6 (by intro z;cases z))];exact v1
 .rw[jd (fu rL r6 (by intro z;cases z))];exact l1
 .rw[jd (fu (J.R.fl 5 (by decide) (by decide)).1 r6 (by intro z;cases z))];exact J.hx
theorem j88 (A:i_->c_)(p:c_):uk "unvoted" (.ref p) (eW A)=eW (λf=>if f=5 then p else A f):=by unfold eW kf eC;rfl
theorem Qi (T:Txt K mg t):zv P w K mg base CX0 5 t.ub t.ku ["self"] (λvs H Q _=>∃Z id h k A dk B n,vs=[.ref k]/\xw t H Z id h k A dk B/\B.Ok n/\n<=8/\B.aA.length+B.cho.length<=1000/\ay Z H/\∀Z' H' A' r xs,xw t H' Z' id h k A' dk B.xk.1->Fr (bg id h) Z H Z' H'->ay Z' H'->Z' r=some (id,.kp h 8)->H' r=some (.lst xs)->h_ (xt H' Z') xs B.xk.2->Q (.ref r) H'):=by
 refine T.jdl.bF yi λ_ A _ s H vs Q E hr h=>?_;obtain⟨Z,id,h,k,A',dk,B,n,rfl,R,ag,n8,ll,kr,g⟩:=h;refine⟨_,(@jb _ _ _ _ _ (@j7 _ _ 1 _ _ _ _ yi.nd a_ (o_ a_) (@xf _ _ _ _ jf) (by rfl) (by first|exact .inl a_|exact .inr rfl)) (@jb _ _ _ _ _ (@j7 _ _ 2 _ _ _ _ yi.nd a_ (o_ a_) (@xf _ _ _ _ jf) (by rfl) (by first|exact .inl a_|exact .inr rfl)) (@jb _ _ _ _ _ (iR ú a_ (@pz _ _ _ _ (j3 (pv 0) a_)) (jr (i:=3) yi.nd a_ (o_ a_)) (@je _ _ _ (zf (PW.pt (kB (ze (j8 (pv 0) T.jq T.P0 (Qg T) hr.dn T.Bt .nil jl (jc (pv 3) jf))) (lJ (zL (D0 (fM hr) (jm (Bx T) hr.dn a_ T.Br T.xB.kp T.Bs .nil jl (jc (pv 3) jf)) (j3 (pv 0) a_)))))) (@jb _ _ _ _ _ (MG (fM hr) (j3 (pv 0) a_) (jm (Bx T) hr.dn a_ T.Br T.xB.kp T.Bs .nil jl (jc (pv 3) jf)) (pv 3) a_) (@je _ _ _ (qb (fq B? E_ F_ y8 (pv 1) (jc (pv 3) jf))))) (@je _ _ _ (zf (PW.pt (kB (xq (ze (j8 (pv 0) T.jq T.w6 (Jo T) hr.dn T.gw .nil jl (jc (pv 3) jf)))) (lJ (zL (D0 (fM hr) (jm (Bx T) hr.dn a_ T.Br T.xB.kp T.Bs .nil jl (jc (pv 3) jf)) (j3 (pv 0) a_)))))) (@je _ _ _ (qb (fq B? E_ F_ y8 (pv 2) (jc (pv 3) jf)))) j9))))) (@jb _ _ _ _ _ (g6 (pv 0) (pv 2) a_) (@je _ _ _ (jv (pv 1))))))),?_⟩;refine⟨dC,λVt nV=>⟨dC,λLt nL=>?_⟩⟩;have kf0:∀f,bg id h (id,.kp h f):=λf=>⟨f,a_⟩;have f1:Fr (bg id h) Z H (aE Z Vt (id,.kp h 8)) (upd H Vt (.lst [])):=Fr.cy nV;have bK:ay (aE Z Vt (id,.kp h 8)) (upd H Vt (.lst [])):=kr.cy;have f2:Fr (bg id h) (aE Z Vt (id,.kp h 8)) (upd H Vt (.lst [])) (aE (aE Z Vt (id,.kp h 8)) Lt (id,.kp h 9)) (upd (upd H Vt (.lst [])) Lt (.lst [])):=Fr.cy nL;have bW:ay (aE (aE Z Vt (id,.kp h 8)) Lt (id,.kp h 9)) (upd (upd H Vt (.lst [])) Lt (.lst [])):=bK.cy;generalize eZ:aE (aE Z Vt (id,.kp h 8)) Lt (id,.kp h 9)=Z2 at f2 bW;have dU:=f1.trans f2;have LV:Lt≠Vt:=λz=>by
  rw[z,ja]at nL;cases nL
 have rV:Z2 Vt=some (id,.kp h 8):=by rw[<-eZ,x9 LV.symm,xa]
 have rL:Z2 Lt=some (id,.kp h 9):=by rw[<-eZ,xa]
 have Qj:upd (upd H Vt (.lst [])) Lt (.lst []) Vt=some (.lst []):=by rw[jd LV.symm,ja]
 have sA:upd (upd H Vt (.lst [])) Lt (.lst []) Lt=some (.lst []):=ja;have R2:xw t (upd (upd H Vt (.lst [])) Lt (.lst [])) Z2 id h k A' dk B:=by
  have s2:=(jh (o:=.lst []) nV).trans (jh (o:=.lst []) nL);have Qk:∀{a:c_}{u:HO},H a=some u->Z2 a=Z a:=λ{a u} e=>by rw[<-eZ,x9 (jg ((jh (o:=.lst []) nV) _ _ e) nL),x9 (jg e nV)]
  refine⟨s2 _ _ R.ob,(Qk R.ob).trans R.r0,λf a b=>?_⟩;obtain⟨rf,u,hu,q⟩:=R.fl f a b;exact⟨(Qk hu).trans rf,u,s2 _ _ hu,q.fr dU⟩
 generalize upd (upd H Vt (.lst [])) Lt (.lst [])=H2 at dU bW R2 Qj sA;obtain⟨xs,hx,px⟩:=R2.un;have lx:xs.length=B.aA.length:=q? px;clear f1 f2 bK nV nL R;refine⟨_,a_,xa3 k _ dk _ _ ⟨a_,R2.ob,T.jq,T.yp,(xp A').2.2.2.2.1,A' 5,a_,⟨_,af.of hx⟩,oU (K:=K) (a:=A' 5) (xs:=xs) (λi U H'=>∃v,U=[some (.ref k),some (.ref Vt),some (.ref Lt),v]/\ie t Z2 id h k A' dk B Vt Lt xs H2 (gv B (B.aA.take i) (B.cho,[],[])) H') ⟨none,a_,Fr.refl,bW,R2,⟨_,Qj,.nil⟩,⟨_,sA,.nil⟩,hx,px⟩ (λi U H' _ ⟨_,_,J⟩=>af.of J.hx) ?_ ?_⟩⟩
 .rintro i x U H3 ex ⟨v,rfl,J⟩
  obtain⟨o,eo,uo⟩:=qo J.px ex;have gl:=BD B (B.aA.take i) (B.cho,[],[]);have li:(B.aA.take i).length<=B.aA.length:=by rw[Ñ];omega
  rw[j75 B eo];generalize gv B (B.aA.take i) (B.cho,[],[])=a at J gl⊢;obtain⟨q,rfl,hq⟩:=uo.ref;have om:o∈B.aA:=u_ eo;have ho:=ag.u o om;have BE:=qek ho n8;obtain⟨kvs,hk,pk⟩:=J.R.cs;have ck:=j77 (o:=o) pk;refine⟨_,a_,xa1 k dk _ ⟨a_,J.R.ob,fZ A',_,a_,xb1 Z2 id h k A' dk _ n q o ⟨a_,J.R,hq,ho,ag.x,ag.h,_,a_,?_⟩⟩⟩;show(if B.due o=true then _ else _);have Js:x8 H3 H3:=x8.refl _;cases hd:B.due o with
  | false=>
   refine w4 ?_;have no:¬(B.due o&&!kZ a.1 o)=true:=by simp[hd]
   refine⟨_,a_,xa1 k dk _ ⟨a_,J.R.ob,fZ A',_,a_,xb1 Z2 id h k A' dk _ n q o ⟨a_,J.R,hq,ho,ag.x,_,a_,?_⟩⟩⟩;show(if(!B.past o)=true then _ else _);cases hp:B.past o with
   |true=>refine w4 ⟨_,a_,?_⟩;rw[cR,j? no,j? (by simp[hp])];exact J
   | false=>
    refine bA ⟨_,a_,xa0 q o ⟨a_,hq,BE,λp np=>?_⟩⟩;have sp:=jh (o:=.tup [.int o.p,.int o.n]) np;have Jp:=J.same sp;refine⟨_,a_,xa3 k _ dk _ _ ⟨a_,Jp.R.ob,T.jq,T.xh,(xp A').2.2.2.2.2.1,xa0 (A' 6) (aY kvs [.inl o.p,.inl o.n]) ⟨a_,.inr (xa1 kvs [.inl o.p,.inl o.n] p ⟨.inl (sp _ _ hk),a_,ja,a_⟩),_,a_,?_⟩⟩⟩;rw[ck];cases hc:kZ a.1 o with
    |true=>refine w4 ⟨_,a_,?_⟩;rw[cR,j? no,j? (by rw[hc,aaZ,Ŧ];decide)];exact Jp
    |false=>
     obtain⟨ls,hl,pl⟩:=Jp.hl;have Jr:ls.length<=1000:=by rw[q? pl];have:=gl.2.2;simp at this;omega
     refine bA ⟨_,a_,.inl ⟨a_,_,af.of hl⟩,_,a_,xa1 Lt ls (.ref q) ⟨a_,a_,hl,zm Jr,⟨_,a_,?_⟩⟩⟩;rw[cR,j? no,m_ (by rw[hp,hc];rfl)];have fL:Fr (bg id h) Z2 (upd H3 p (.tup [.int o.p,.int o.n])) Z2 (upd (upd H3 p (.tup [.int o.p,.int o.n])) Lt (.lst (ls++[.ref q]))):=Fr.put rL ⟨9,a_⟩;have uq:=(uo.fr (Fr.same (P:=λ_=>w?) ((Js).trans sp))).fr fL;exact Jp.putL hl rL rV LV fL (qk (Paired.gy pl λ_ _=>xt.fr fL) uq)
  | true=>
   refine bA ⟨_,a_,xa0 q o ⟨a_,hq,BE,λp0 jO=>?_⟩⟩;have sC:=jh (o:=.tup [.int o.p,.int o.n]) jO;have J0:=J.same sC;have xG:=sC;have xH:=sC _ _ hk;have qG:=sC _ _ hq;refine⟨_,a_,xa3 k _ dk _ _ ⟨a_,J0.R.ob,T.jq,T.xh,(xp A').2.2.2.2.2.1,xa0 (A' 6) (aY kvs [.inl o.p,.inl o.n]) ⟨a_,.inr (xa1 kvs [.inl o.p,.inl o.n] p0 ⟨.inl xH,a_,ja,a_⟩),_,a_,?_⟩⟩⟩;rw[ck];cases Jt:kZ a.1 o with
   | true=>
    refine w4 ?_;have no:¬(B.due o&&!kZ a.1 o)=true:=by rw[Jt,aaZ,Ŧ];decide
    generalize upd H3 p0 (.tup [.int o.p,.int o.n])=H4 at sC J0 xG xH qG;refine⟨_,a_,xa1 k dk _ ⟨a_,J0.R.ob,fZ A',_,a_,xb1 Z2 id h k A' dk _ n q o ⟨a_,J0.R,qG,ho,ag.x,_,a_,?_⟩⟩⟩;show(if(!B.past o)=true then _ else _);cases hp:B.past o with
    |true=>refine w4 ⟨_,a_,?_⟩;rw[cR,j? no,j? (by simp[hp])];exact J0
    | false=>
     refine bA ⟨_,a_,xa0 q o ⟨a_,qG,BE,λp np=>?_⟩⟩;have sp:=jh (o:=.tup [.int o.p,.int o.n]) np;have Jp:=J0.same sp;refine⟨_,a_,xa3 k _ dk _ _ ⟨a_,Jp.R.ob,T.jq,T.xh,(xp A').2.2.2.2.2.1,xa0 (A' 6) (aY kvs [.inl o.p,.inl o.n]) ⟨a_,.inr (xa1 kvs [.inl o.p,.inl o.n] p ⟨.inl (sp _ _ xH),a_,ja,a_⟩),_,a_,?_⟩⟩⟩;rw[ck];cases hc:kZ a.1 o with
     |true=>refine w4 ⟨_,a_,?_⟩;rw[cR,j? no,j? (by rw[hc,aaZ,Ŧ];decide)];exact Jp
     |false=>
      obtain⟨ls,hl,pl⟩:=Jp.hl;have Jr:ls.length<=1000:=by rw[q? pl];have:=gl.2.2;simp at this;omega
      refine bA ⟨_,a_,.inl ⟨a_,_,af.of hl⟩,_,a_,xa1 Lt ls (.ref q) ⟨a_,a_,hl,zm Jr,⟨_,a_,?_⟩⟩⟩;rw[cR,j? no,m_ (by rw[hp,hc];rfl)];have fL:Fr (bg id h) Z2 (upd H4 p (.tup [.int o.p,.int o.n])) Z2 (upd (upd H4 p (.tup [.int o.p,.int o.n])) Lt (.lst (ls++[.ref q]))):=Fr.put rL ⟨9,a_⟩;have uq:=(uo.fr (Fr.same (P:=λ_=>w?) ((xG).trans sp))).fr fL;exact Jp.putL hl rL rV LV fL (qk (Paired.gy pl λ_ _=>xt.fr fL) uq)
   | false=>
    refine bA ?_;generalize upd H3 p0 (.tup [.int o.p,.int o.n])=H4 at sC J0 xG xH qG;refine⟨_,a_,_,a_,xa3 k _ dk _ _ ⟨a_,J0.R.ob,T.jq,T.xh,(xp A').2.2.2.2.2.1,_,a_,xa0 q o ⟨a_,qG,BE,λp np=>?_⟩⟩⟩;have sp:=jh (o:=.tup [.int o.p,.int o.n]) np;have Jp:=J0.same sp;have lk:kvs.length<=1000:=by rw[q? pk];have:=gl.1;show a.1.length<=1000;simp at this;omega
    have nk:aY kvs [.inl o.p,.inl o.n]=none:=by
     cases e:aY kvs [.inl o.p,.inl o.n]with
     |none=>rfl
     |some v=>rw[e,Jt]at ck;cases ck
    refine(xa0 (A' 6) _ ⟨a_,ft.t (k:=[.inl o.p,.inl o.n]) (sp _ _ xH) ja (zm lk),?_⟩);rw[uE _ nk];have r6:=(Jp.R.fl 6 (by decide) (by decide)).1;have f6:Fr (bg id h) Z2 (upd H4 p (.tup [.int o.p,.int o.n])) Z2 (upd (upd H4 p (.tup [.int o.p,.int o.n])) (A' 6) (.dT (kvs++[([.inl o.p,.inl o.n],.ref q)]))):=Fr.put r6 ⟨6,a_⟩;have u4:=uo.fr (Fr.same (P:=λ_=>w?) (xG.trans sp));have BF:=Paired.gy pk λ_ _ ⟨e,b⟩=>(⟨e,(b.fr (Fr.same (P:=λ_=>w?) (xG.trans sp))).fr f6⟩:_/\xt _ Z2 _ _);have J5:=Jp.qed rL rV (cho:=a.1++[((o.p,o.n),o)]) (qk BF ⟨a_,u4.fr f6⟩);have u5:=u4.fr f6;generalize upd (upd H4 p (.tup [.int o.p,.int o.n])) (A' 6) (.dT (kvs++[([.inl o.p,.inl o.n],.ref q)]))=H5 at J5 u5;obtain⟨vs,hv,pv⟩:=J5.hv;have lv:vs.length<=1000:=by rw[q? pv];have:=gl.2.1;show a.2.1.length<=1000;simp at this;omega
    refine⟨_,a_,.inl ⟨a_,_,af.of hv⟩,_,a_,xa1 Vt vs (.ref q) ⟨a_,a_,hv,zm lv,⟨_,a_,?_⟩⟩⟩;rw[cR,m_ (by simp[hd,Jt])];have fV:Fr (bg id h) Z2 H5 Z2 (upd H5 Vt (.lst (vs++[.ref q]))):=Fr.put rV ⟨8,a_⟩;exact J5.qdy rV LV fV (qk (Paired.gy pv λ_ _=>xt.fr fV) (u5.fr fV))
 .rintro U H3 ⟨v,rfl,J⟩
  rw[lx,Z_]at J;obtain⟨vs,hv,pv⟩:=J.hv;obtain⟨ls,hl,pl⟩:=J.hl;refine⟨_,a_,_,a_,xa2 k _ dk _ ⟨a_,J.R.ob,T.jq,T.yp,(by show 7<1000;decide),⟨_,a_,?_⟩⟩⟩;rw[j88];have fo:Fr (bg id h) Z2 H3 Z2 (upd H3 k (.ins t.j6 dk (eW λf=>if f=5 then Lt else A' f))):=Fr.put J.R.r0 ⟨0,a_⟩;have fo':Fr (bg id h) Z2 (upd H3 k (.ins t.j6 dk (eW λf=>if f=5 then Lt else A' f))) (aE Z2 Lt (id,.kp h 5)) (upd H3 k (.ins t.j6 dk (eW λf=>if f=5 then Lt else A' f))):=Fr.Jq rL ⟨9,a_⟩;have ff:=fo.trans fo';have kL:Lt≠k:=fu rL J.R.r0 (by intro z;cases z);have Vk:Vt≠k:=fu rV J.R.r0 (by intro z;cases z);refine g (aE Z2 Lt (id,.kp h 5)) _ (λf=>if f=5 then Lt else A' f) Vt vs ⟨ja,?_,λf a1 b1=>?_⟩ (dU.trans (J.fr.trans ff)) ?_ ?_ ?_ (Paired.gy pv λ_ _=>xt.fr ff)
  .rw[x9 kL.symm];exact J.R.r0
  .by_cases z:f=5
   .subst z;exact⟨xa,.lst ls,(by show upd H3 k _ Lt=_;rw[jd kL];exact hl),ls,a_,Paired.gy pl λ_ _=>xt.fr ff⟩
   .obtain⟨rf,u,hu,q⟩:=J.R.fl f a1 b1;have nL:A' f≠Lt:=fu rf rL (by intro y;cases y;omega);show aE Z2 Lt (id,.kp h 5) (if f=5 then Lt else A' f)=_/\∃u,upd H3 k _ (if f=5 then Lt else A' f)=_/\_;rw[j? z];refine⟨by rw[x9 nL];exact rf,u,by rw[jd (fu rf J.R.r0 (by intro y;cases y;omega))];exact hu,?_⟩;have q':=q.fr ff;unfold eD at q'⊢;split at q'<;>first|exact q'|exact w_ a_ z
  .exact ay.Jq rL J.kr.put
  .rw[x9 LV.symm];exact rV
  .rw[jd Vk];exact hv
theorem Ju {α β:Type}{F:α->β->Prop}:∀{xs:b? α}{ys:b? β}{j:i_},h_ F xs ys->h_ F (xs.eraseIdx j) (ys.eraseIdx j)
 |_,_,_,.nil=>.nil
 |_,_,0,.cons _ t=>t
 |_,_,j+1,.cons h t=>.cons h (Ju t)
theorem Ql {α:Type}[ĝ α](a:α):∀l:b? α,l.erase a=l.eraseIdx (l.idxOf a)
 |[]=>a_
 | b::l=>by
  by_cases z:b=a
  .subst z;simp
  .have e:(b::l).idxOf a=l.idxOf a+1:=by
    rw[abI,show(b==a)=false by simpa using z];rfl
   rw[b?.erase_cons_tail (by simpa using z),e,b?.eraseIdx_cons_succ,Ql a l]
noncomputable def yh (o:O):b? f?:=[o.p,o.n,o.g,o.m]
theorem qH {o u:O}(h:yh o=yh u):o=u:=by cases o;cases u;unfold yh at h;simp at h;simp[h]
theorem Qm (o:O):∀l:b? O,(l.map yh).idxOf (yh o)=l.idxOf o
 |[]=>a_
 |b::l=>by
  rw[A_];by_cases z:b=o
  .subst z;simp
  .rw[abI,abI,show(b==o)=false by simpa using z,show(yh b==yh o)=false by simpa using λy=>z (qH y),Qm o l]
theorem Qn {K:e?}{H:Hp}{Z:aq}:∀{xs:b? V}{os:b? O},h_ (xt H Z) xs os->h_ (kS K H) xs (os.map yh):=λ{xs os} q=>by
 induction q with
 |nil=>exact .nil
 |cons a _ ih=>obtain⟨a,e,_,h⟩:=a;exact .cons ⟨a,e,az.of h⟩ ih
theorem qI {B:Kp}{o:O}(h:B.first=some o):o∈B.wait:=Ř h
theorem j63 {B:Kp}(h:B.first=none):∀m,Kp.go m B=B
 |0=>a_
 |m+1=>by unfold Kp.go;rw[h]
theorem j6r {B:Kp}{o:O}(h:B.first=some o):Kp.go B.wait.length B=Kp.go (B.step o).wait.length (B.step o):=by have e:(B.step o).wait.length=B.wait.length-1:=æ (qI h);have p:0<B.wait.length:=û (qI h);obtain⟨m,hm⟩:∃m,B.wait.length=m+1:=⟨B.wait.length-1,by lia⟩;rw[e,hm];show(match B.first with|none=>B|some o=>Kp.go m (B.step o))=_;rw[h];rfl
theorem jr0 (T:Txt K mg t):zv P w K mg base CX0 6 t.Gy t.GA ["self"] (λvs H Q _=>∃Z id h k A dk B n,vs=[.ref k]/\xw t H Z id h k A dk B/\B.Ok n/\n<=8/\B.aA.length+B.cho.length<=1000/\B.done.length+B.wait.length<=1000/\ay Z H/\∀Z' H' A' r xs,xw t H' Z' id h k A' dk B.ou.xk.1->Fr (bg id h) Z H Z' H'->ay Z' H'->Z' r=some (id,.kp h 8)->H' r=some (.lst xs)->h_ (xt H' Z') xs B.ou.xk.2->Q (.ref r) H'):=by
 refine T.jk5.bF Fw λ_ A _ s H vs Q E hr h=>?_;obtain⟨Z,id,h,k,A',dk,B,n,rfl,R,ag,n8,ll,ld,kr,g⟩:=h;refine⟨_,(@jb _ _ _ _ _ (j7 (i:=1) Fw.nd a_ (o_ a_) (wo (pv 0) T.jq T.uj (Qh T) hr.dn T.Pa .nil jl)) (@jb _ _ _ _ _ (LH ú (jz LX (pv 1) gR (qe _)) (@jb _ _ _ _ _ (qb (fq B? abZ PySem.F.type_list_remove (YV hr.units) (j3 (pv 0) a_) (jc (pv 1) jf))) (@jb _ _ _ _ _ (qb (j8 (pv 0) T.jq T.jh1 (jsy T) hr.dn T.IC .nil jl (jc (pv 1) jf))) (@je _ _ _ (j7 (i:=1) Fw.nd a_ (o_ a_) (wo (pv 0) T.jq T.uj (Qh T) hr.dn T.Pa .nil jl)))))) (@je _ _ _ (jv (wo (pv 0) T.jq T.gi (Qi T) hr.dn T.ua .nil jl))))),?_⟩;refine⟨_,a_,xa1 k dk _ ⟨a_,R.ob,fZ A',xa9 Z id h k A' dk B n ⟨a_,R,ag,λv0 h0=>?_⟩⟩⟩;refine TO (λ U H'=>∃κ' v,U=[some (.ref k),some v]/\xw t H' Z id h k A' dk κ'/\κ'.Ok n/\Fr (bg id h) Z H Z H'/\ay Z H'/\Kp.go κ'.wait.length κ'=B.ou/\κ'.aA=B.aA/\κ'.cho=B.cho/\κ'.done.length+κ'.wait.length<=1000/\((κ'.first=none/\v= .aj)\/∃o,κ'.first=some o/\xt H' Z v o)) (λ_ H'=>match H' (A' 7)with|some (.lst xs)=>xs.length|_=>0) (xa0 B v0 ⟨a_,R,ag,Fr.refl,kr,a_,a_,a_,ld,h0⟩) ?_ ?_
 .rintro U H1 ⟨κ',v,rfl,R1,jP,f1,bK,eg,eu,ec,ld1,hv⟩
  refine⟨_,a_,a_,_,a_,?_⟩;rcases hv with⟨e,rfl⟩|⟨o,e,uo⟩
  .refine w4 ?_;rw[j63 e]at eg;subst eg;refine⟨_,a_,k,dk,_,a_,R1.ob,fZ A',Z,id,h,k,A',dk,_,n,a_,R1,jP,n8,by rw[eu,ec];exact ll,bK,λ Z' H' xI r xs q1 q2 q3 q4 q5 q6=>g Z' H' xI r xs q1 (f1.trans q2) q3 q4 q5 q6⟩
  .obtain⟨q,rfl,nq,hq⟩:=uo;refine bA ?_;obtain⟨xs,hx,px⟩:=R1.wt;have om:=qI e;refine⟨_,a_,xa3 k _ dk _ _ ⟨a_,R1.ob,T.jq,T.zj,(xp A').2.2.2.2.2.2,.inl ⟨a_,_,af.of hx⟩,_,a_,xa3 (A' 7) xs (.ref q) (yh o) (κ'.wait.map yh) ⟨a_,a_,hx,⟨q,a_,az.of hq⟩,Qn px,Q? om,?_⟩⟩⟩;rw[Qm];obtain⟨r7,_⟩:=R1.fl 7 (by decide) (by decide);obtain⟨R2,f2⟩:=R1.put (κ':={κ' with wait:=κ'.wait.erase o}) (f0:=7) (by decide) (by decide) (u0:=.lst (xs.eraseIdx (κ'.wait.idxOf o))) ⟨_,a_,by show h_ _ _ (κ'.wait.erase o);rw[Ql];exact Ju (Paired.gy px λ_ _=>xt.fr (Fr.put (P:=bg id h) r7 ⟨7,a_⟩))⟩ (λf u hf q=>by unfold eD at q⊢;split at q<;>first|exact q|exact w_ a_ hf);have bW:=bK.put (a:=A' 7) (o:=.lst (xs.eraseIdx (κ'.wait.idxOf o)));have sD:xt (upd H1 (A' 7) (.lst (xs.eraseIdx (κ'.wait.idxOf o)))) Z (.ref q) o:=xt.fr f2 ⟨q,a_,nq,hq⟩;have ho:=jP.w o om;generalize upd H1 (A' 7) (.lst (xs.eraseIdx (κ'.wait.idxOf o)))=H2 at R2 f2 bW sD;refine⟨_,a_,xa1 k dk _ ⟨a_,R2.ob,fZ A',_,a_,xb1 Z id h k A' dk _ n q o ⟨a_,R2,sD,ho,jP.x,jP.h,by show κ'.done.length<=1000;omega,bW,λH3 R3 f3 iI=>?_⟩⟩⟩;have Qo:(κ'.step o).Ok n:=jP.step o;refine⟨_,a_,xa1 k dk _ ⟨a_,R3.ob,fZ A',xa9 Z id h k A' dk (κ'.step o) n ⟨a_,R3,Qo,λv1 hv1=>⟨(xa0 (κ'.step o) v1 ⟨a_,R3,Qo,(f1.trans f2).trans f3,iI,by rw[<-j6r e];exact eg,eu,ec,?_,hv1⟩),?_⟩⟩⟩⟩
   .have l1:(κ'.step o).done.length=κ'.done.length+1:=by show(κ'.done++[o]).length=_;rw[p_];rfl
    have l2:(κ'.step o).wait.length=κ'.wait.length-1:=æ om;have:=û om;omega
   .obtain⟨ys,hy,py⟩:=R3.wt;have l2:(κ'.step o).wait.length=κ'.wait.length-1:=æ om;have:=û om;have e1:=q? px;have e2:ys.length=(κ'.step o).wait.length:=q? py;rw[hy,hx];show ys.length<xs.length;omega
 .intro U H Q Q' hQ h;obtain⟨v,e1,e2,c,e3,q⟩:=h;exact⟨v,e1,e2,c,e3,hQ _ _ q⟩
theorem j3c {o:O}:∀{kvs:b? (b? Key×V)}{os:b? O},kvs.map (·.1)=os.map cE->(aY kvs (cE o)).isSome=s? (o∈os):=λ{kvs os} e=>by
 induction kvs generalizing os with
 |nil=>
  cases os with
  |nil=>rfl
  |cons _ _=>simp at e
 | cons kv kvs ih=>
  cases os with
  |nil=>simp at e
  |cons u os=>
   rw[A_,A_]at e;obtain⟨e1,e2⟩:=ĸ e;have ih:=ih e2;by_cases z:u=o
   .subst z;rw[kH e1];simp
   .rw[kI (λy=>z (j4n (e1.symm.trans y))),ih];simp[M_ z]
theorem xw.cy {t:Ad}{H:Hp}{Z:aq}{id:i_}{h:f?}{k dk:c_}{A:i_->c_}{B:Kp}{r:c_}{ro:Role}{o:HO}(R:xw t H Z id h k A dk B)(kr:ay Z H)(nr:H r=none):xw t (upd H r o) (aE Z r ro) id h k A dk B:=R.fr (P:=λ_=>w?) (λ_ z=>z) (Fr.cy nr)
noncomputable def Qp (t:Ad)(κ':Kp->O->Kp×b? O):Sp:=λvs H Q _=>∃Z id h k A dk B n q o,vs=[.ref k,.ref q]/\xw t H Z id h k A dk B/\xt H Z (.ref q) o/\B.Ok n/\n<=8/\zc (n:i_) o=true/\B.ug.length<=900/\B.aA.length+B.cho.length<=900/\B.done.length+B.wait.length<=900/\ay Z H/\∀Z' H' A' r xs,xw t H' Z' id h k A' dk (κ' B o).1->Fr (bg id h) Z H Z' H'->ay Z' H'->Z' r=some (id,.kp h 8)->H' r=some (.lst xs)->h_ (xt H' Z') xs (κ' B o).2->Q (.ref r) H'
theorem js7 (T:Txt K mg t):zv P w K mg base CX0 6 t.GB t.GC ["self","order"] (Qp t Kp.ox):=by
 refine T.jnc.aW (N:=["self","order"]) λ_ A _ s H vs Q E hr h=>?_;obtain⟨Z,id,h,k,A',dk,B,n,q,o,rfl,R,uq,ag,n8,ho,lh,lu,ld,kr,g⟩:=h;refine⟨_,(@jb _ _ _ _ _ (zf (zL (Vs (fM hr) (pv 1) (j3 (pv 0) a_))) (@je _ _ _ (jv (@xf _ _ _ _ jf))) j9) (@jb _ _ _ _ _ (MG (fM hr) (j3 (pv 0) a_) (pv 1) dZ a_) (@jb _ _ _ _ _ (qb (fq B? E_ F_ y8 (j3 (pv 0) a_) (jc (pv 1) jf))) (@je _ _ _ (jv (wo (pv 0) T.jq T.gi (Qi T) hr.dn T.ua .nil jl)))))),?_⟩;obtain⟨_,eq,nq,hq⟩:=uq;cases eq;obtain⟨kvs,hk,ek⟩:=R.hd;have hv:=j3c (o:=o) ek;refine⟨_,a_,_,a_,xa3 k _ dk _ _ ⟨a_,R.ob,T.jq,T.Jc,(xp A').2.2.2.1,xa0 (A' 4) (aY kvs (cE o)) ⟨a_,.inr (xa1 kvs (cE o) q ⟨.inl hk,a_,hq,a_⟩),_,a_,?_⟩⟩⟩;rw[hv];unfold Kp.ox at g;refine bj (λz=>?_) (λz=>?_)
 .have z':o∈B.ug:=n? z;rw[m_ z']at g;refine⟨dC,λr nr=>?_⟩;have f1:Fr (bg id h) Z H (aE Z r (id,.kp h 8)) (upd H r (.lst [])):=Fr.cy nr;refine g _ _ A' r [] (xw.cy R kr nr) f1 kr.cy xa ja .nil
 .have z':¬o∈B.ug:=λy=>z (i? y);rw[j? z']at g;have nk:aY kvs (cE o)=none:=by
   cases e:aY kvs (cE o)with
   |none=>rfl
   |some v=>rw[e,z? z']at hv;cases hv
  have lk:kvs.length<=1000:=by have:=X? Ĕ ek;rw[g_,g_]at this;omega
  refine⟨_,a_,xa3 k _ dk _ _ ⟨a_,R.ob,T.jq,T.Jc,(xp A').2.2.2.1,_,a_,xa0 (A' 4) _ ⟨a_,ft.t (k:=cE o) hk hq (zm lk),?_⟩⟩⟩;rw[uE _ nk];obtain⟨R1,f1⟩:=R.put (κ':={B with ug:=B.ug++[o]}) (f0:=4) (by decide) (by decide) (u0:=.dT (kvs++[(cE o,.bl true)])) ⟨_,a_,by rw[K_,ek,K_];rfl⟩ (λf u hf q=>by unfold eD at q⊢;split at q<;>first|exact q|exact w_ a_ hf);have bK:=kr.put (a:=A' 4) (o:=.dT (kvs++[(cE o,.bl true)]));have oy:xt _ Z (.ref q) o:=xt.fr f1 ⟨q,a_,nq,hq⟩;generalize upd H (A' 4) (.dT (kvs++[(cE o,.bl true)]))=H1 at R1 f1 bK oy;obtain⟨xs,hx,px⟩:=R1.un;have lx:xs.length<=1000:=by rw[q? px];show B.aA.length<=1000;omega
  refine⟨_,a_,xa3 k _ dk _ _ ⟨a_,R1.ob,T.jq,T.yp,(xp A').2.2.2.2.1,.inl ⟨a_,_,af.of hx⟩,_,a_,xa1 (A' 5) xs (.ref q) ⟨a_,a_,hx,zm lx,?_⟩⟩⟩;obtain⟨r5,_⟩:=R1.fl 5 (by decide) (by decide);obtain⟨R2,f2⟩:=R1.put (κ':={B with ug:=B.ug++[o],aA:=B.aA++[o]}) (f0:=5) (by decide) (by decide) (u0:=.lst (xs++[.ref q])) ⟨_,a_,qk (Paired.gy px λ_ _=>xt.fr (Fr.put (P:=bg id h) r5 ⟨5,a_⟩)) (oy.fr (Fr.put (P:=bg id h) r5 ⟨5,a_⟩))⟩ (λf u hf q=>by unfold eD at q⊢;split at q<;>first|exact q|exact w_ a_ hf);have bW:=bK.put (a:=A' 5) (o:=.lst (xs++[.ref q]));dsimp only;generalize upd H1 (A' 5) (.lst (xs++[.ref q]))=H2 at R2 f2 bW;have Jv:Kp.Ok n {B with ug:=B.ug++[o],aA:=B.aA++[o]}:=⟨ag.h,ag.x,λu hu=>by
   rcases v_.mp hu with hu|hu
   .exact ag.u u hu
   .rw[j'.mp hu];exact ho,ag.w,ag.nd⟩;exact⟨_,a_,k,dk,_,a_,R2.ob,fZ A',Z,id,h,k,A',dk,_,n,a_,R2,Jv,n8,by show(B.aA++[o]).length+B.cho.length<=1000;rw[p_];show B.aA.length+1+B.cho.length<=1000;omega,bW,λ Z' H' xI r ys q1 q2 q3 q4 q5 q6=>g Z' H' xI r ys q1 ((f1.trans f2).trans q2) q3 q4 q5 q6⟩
theorem jkp (T:Txt K mg t):zv P w K mg base CX0 7 t.pf t.ui ["self","order"] (Qp t Kp.jN):=by
 refine T.jdd.aW (N:=["self","order"]) λ_ A _ s H vs Q E hr h=>?_;obtain⟨Z,id,h,k,A',dk,B,n,q,o,rfl,R,uq,ag,n8,ho,lh,lu,ld,kr,g⟩:=h;refine⟨_,(@jb _ _ _ _ _ (zf (PW.pt (gD (ze (j8 (pv 0) T.jq T.w6 (Jo T) hr.dn T.gw .nil jl (jc (pv 1) jf))) (gS (jz (Xb hr.units) (pv 1) (j3 (pv 0) a_) (by with_unfolding_all rfl))))) (@je _ _ _ (jv (@xf _ _ _ _ jf))) j9) (@jb _ _ _ _ _ (qb (fq B? E_ F_ y8 (j3 (pv 0) a_) (jc (pv 1) jf))) (@je _ _ _ (jv (wo (pv 0) T.jq T.jiq (jr0 T) hr.dn T.jkt .nil jl))))),?_⟩;obtain⟨_,eq,nq,hq⟩:=uq;cases eq;obtain⟨xs,hx,px⟩:=R.wt;unfold Kp.jN at g;have none_:(B.past o||decide (o∈B.wait))=true->∀r H1,x8 H H1->H1 r=none->Q (.ref r) (upd H1 r (.lst [])):=λz r H1 s1 nr=>by
  rw[m_ z]at g;have f0:Fr (bg id h) Z H Z H1:=Fr.same s1;have f1:Fr (bg id h) Z H1 (aE Z r (id,.kp h 8)) (upd H1 r (.lst [])):=Fr.cy nr;exact g _ _ A' r [] (xw.cy (R.fr (P:=λ_=>w?) (λ_ z=>z) (Fr.same s1)) (kr.same s1) nr) (f0.trans f1) (kr.same s1).cy xa ja .nil
 refine⟨_,a_,xa1 k dk _ ⟨a_,R.ob,fZ A',_,a_,xb1 Z id h k A' dk B n q o ⟨a_,R,hq,ho,ag.x,_,a_,?_⟩⟩⟩;cases hp:B.past o with
 |true=>refine bA (bA ⟨dC,λr nr=>none_ (by rw[hp];rfl) r H (x8.refl _) nr⟩)
 | false=>
  refine w4 ⟨_,a_,_,a_,xa3 k _ dk _ _ ⟨a_,R.ob,T.jq,T.zj,(xp A').2.2.2.2.2.2,xa2 (A' 7) xs (yh o) (B.wait.map yh) ⟨a_,af.of hx,⟨q,a_,az.of hq⟩,Qn px,_,a_,bj (λz=>?_) (λz=>?_)⟩⟩⟩
  .have z':o∈B.wait:=by
    obtain⟨u,hu,e⟩:=H?.mp (n? z);rw[<-qH e];exact hu
   exact⟨dC,λr nr=>none_ (by rw[i? z',ť]) r H (x8.refl _) nr⟩
  .have z':¬o∈B.wait:=λy=>z (i? (Q? y));rw[j? (by rw[hp,z? z'];decide)]at g;have lx:xs.length<=1000:=by rw[q? px];omega
   refine⟨_,a_,xa3 k _ dk _ _ ⟨a_,R.ob,T.jq,T.zj,(xp A').2.2.2.2.2.2,.inl ⟨a_,_,af.of hx⟩,_,a_,xa1 (A' 7) xs (.ref q) ⟨a_,a_,hx,zm lx,?_⟩⟩⟩;obtain⟨r7,_⟩:=R.fl 7 (by decide) (by decide);obtain⟨R2,f2⟩:=R.put (κ':={B with wait:=B.wait++[o]}) (f0:=7) (by decide) (by decide) (u0:=.lst (xs++[.ref q])) ⟨_,a_,qk (Paired.gy px λ_ _=>xt.fr (Fr.put (P:=bg id h) r7 ⟨7,a_⟩)) (xt.fr (Fr.put (P:=bg id h) r7 ⟨7,a_⟩) ⟨q,a_,nq,hq⟩)⟩ (λf u hf q=>by unfold eD at q⊢;split at q<;>first|exact q|exact w_ a_ hf);have bW:=kr.put (a:=A' 7) (o:=.lst (xs++[.ref q]));dsimp only;generalize upd H (A' 7) (.lst (xs++[.ref q]))=H2 at R2 f2 bW;have Jv:Kp.Ok n {B with wait:=B.wait++[o]}:=⟨ag.h,ag.x,ag.u,λu hu=>by
    rcases v_.mp hu with hu|hu
    .exact ag.w u hu
    .rw[j'.mp hu];exact ho,Ê.mpr ⟨ag.nd,by simp,λx hx y hy e=>by rw[j'.mp hy]at e;subst e;exact z' hx⟩⟩;exact⟨_,a_,xa1 k dk _ ⟨a_,R2.ob,fZ A',xa9 Z id h k A' dk _ n ⟨a_,R2,Jv,n8,by show B.aA.length+B.cho.length<=1000;omega,by show B.done.length+(B.wait++[o]).length<=1000;rw[p_];show B.done.length+(B.wait.length+1)<=1000;omega,bW,λ Z' H' xI r ys q1 q2 q3 q4 q5 q6=>g Z' H' xI r ys q1 (f2.trans q2) q3 q4 q5 q6⟩⟩⟩
noncomputable def dg (n bB:f?)(ly ch kd bd ak wy:c_):b? (y?×V):=uk "on_way" (.ref wy) (uk "asked" (.ref ak) (uk "board" (.ref bd) (uk "keepers" (.ref kd) (uk "cheating" (.ref ch) (uk "lying" (.ref ly) (uk "total" (.int bB) (uk "purses" (.int n) [])))))))
theorem Jw {n bB:f?}{ly ch kd bd ak wy:c_}:(dg n bB ly ch kd bd ak wy).lookup ("purses":y?)=some (.int n):=by unfold dg;repeat(first|rw[jj,m_ a_]|rw[jj,j? (by decide+kernel)])
theorem j3k {n bB:f?}{ly ch kd bd ak wy:c_}:(dg n bB ly ch kd bd ak wy).lookup ("lying":y?)=some (.ref ly):=by unfold dg;repeat(first|rw[jj,m_ a_]|rw[jj,j? (by decide+kernel)])
theorem Jx {n bB:f?}{ly ch kd bd ak wy:c_}:(dg n bB ly ch kd bd ak wy).lookup ("cheating":y?)=some (.ref ch):=by unfold dg;repeat(first|rw[jj,m_ a_]|rw[jj,j? (by decide+kernel)])
theorem xJ {n bB:f?}{ly ch kd bd ak wy:c_}:(dg n bB ly ch kd bd ak wy).lookup ("keepers":y?)=some (.ref kd):=by unfold dg;repeat(first|rw[jj,m_ a_]|rw[jj,j? (by decide+kernel)])
theorem BG {n bB:f?}{ly ch kd bd ak wy:c_}:(dg n bB ly ch kd bd ak wy).lookup ("board":y?)=some (.ref bd):=by unfold dg;repeat(first|rw[jj,m_ a_]|rw[jj,j? (by decide+kernel)])
theorem Qq {n bB:f?}{ly ch kd bd ak wy:c_}:(dg n bB ly ch kd bd ak wy).lookup ("asked":y?)=some (.ref ak):=by unfold dg;repeat(first|rw[jj,m_ a_]|rw[jj,j? (by decide+kernel)])
theorem qJ {n bB:f?}{ly ch kd bd ak wy:c_}:(dg n bB ly ch kd bd ak wy).lookup ("on_way":y?)=some (.ref wy):=by unfold dg;repeat(first|rw[jj,m_ a_]|rw[jj,if_neg (by decide+kernel)])
theorem zq {n bB:f?}{ly ch kd bd ak wy:c_}{m:y?}(h:e_ (¬m="on_way"/\¬m="asked"/\¬m="board"/\¬m="keepers"/\¬m="cheating"/\¬m="lying"/\¬m="total"/\¬m="purses") aP4):(dg n bB ly ch kd bd ak wy).lookup m=none:=by obtain⟨h1,h2,h3,h4,h5,h6,h7,h8⟩:=h;unfold dg;rw[jj,j? h1,jj,j? h2,jj,j? h3,jj,j? h4,jj,j? h5,jj,j? h6,jj,j? h7,jj,j? h8];rfl
structure Wd where
 n:i_
 eX:b? f?
 ks:b? (f?×Kp)
 bd:yl
 en:f?
 asked:b? (b? O)
 way:b? (o?×f?×O)
noncomputable def cF (ks:b? (f?×Kp))(h:f?)(B:Kp):b? (f?×Kp):=ks.map λc=>if c.1=h then(h,B)else c
noncomputable def Wd.post (w:Wd)(b:o?)(o:O):Wd:={w with way:=w.way++w.ks.map λc=>(b,c.1,o)}
noncomputable def jx:yl->b? f?->b? f?
 |[],_=>[]
 |p::ps,k=>if p.1=k then p.2 else jx ps k
noncomputable def dh:yl->b? f?->f?->yl
 |[],k,h=>[(k,[h])]
 |p::ps,k,h=>if p.1=k then(p.1,p.2++[h])::ps else p::dh ps k h
noncomputable def Wd.put (w:Wd)(h:f?)(o:O):Wd×o?:=if h∈jx w.bd (yh o)then(w,false)else({w with bd:=dh w.bd (yh o) h},s? (((jx w.bd (yh o)).length:f?)+1=w.en))
noncomputable def Wd.ba (h:f?)(w:Wd)(o:O):Wd:=if(w.put h o).2=true then(w.put h o).1.post false o else(w.put h o).1
noncomputable def Wd.xk (w:Wd)(h:f?)(os:b? O):Wd:=os.foldl (Wd.ba h) w
noncomputable def Wd.keep (w:Wd)(h:f?):g? Kp:=(w.ks.find? λc=>s? (c.1=h)).map (·.2)
noncomputable def Kp.take (B:Kp)(b:o?)(o:O):Kp×b? O:=if b=true then B.ox o else B.jN o
noncomputable def Wd.xK (w:Wd)(i:i_)(l:o?×f?×O)(B:Kp):Wd:=Wd.xk {w with way:=w.way.eraseIdx i,ks:=cF w.ks l.2.1 (B.take l.1 l.2.2).1} l.2.1 (B.take l.1 l.2.2).2
theorem xM (k:b? f?):∀is:yl,qm (bP is) (cx k)=jx is k
 |[]=>a_
 |p::ps=>by
  show(if cx p.1=cx k then p.2 else qm (bP ps) (cx k))=if p.1=k then p.2 else jx ps k;by_cases z:p.1=k
  .rw[m_ z,m_ (by rw[z])]
  .rw[j? z,j? (λy=>z (Jm y)),xM k ps]
theorem Qr (k:b? f?)(h:f?):∀is:yl,mq (bP is) (cx k) h=bP (dh is k h)
 |[]=>a_
 |p::ps=>by
  show(if cx p.1=cx k then(cx p.1,p.2++[h])::bP ps else(cx p.1,p.2)::mq (bP ps) (cx k) h)=bP (if p.1=k then(p.1,p.2++[h])::ps else p::dh ps k h);by_cases z:p.1=k
  .rw[m_ z,m_ (by rw[z])];rfl
  .rw[j? z,j? (λy=>z (Jm y)),Qr k h ps];rfl
noncomputable def sE (b:o?):V:=.str (if b=true then"order"else"paper")
noncomputable def bZ (H:Hp)(Z:aq)(x:V)(l:o?×f?×O):Prop:=∃a q,x= .ref a/\Z a=none/\H a=some (.tup [sE l.1,.int l.2.1,.ref q])/\xt H Z (.ref q) l.2.2
theorem bZ.fr {P:Role->Prop}{Z Z':aq}{H H':Hp}{x:V}{l:o?×f?×O}(f:Fr P Z H Z' H')(h:bZ H Z x l):bZ H' Z' x l:=by
 obtain⟨a,q,e,n,h1,h2⟩:=h;obtain⟨nO,n'⟩:=f a _ h1 λr hr=>by rw[n]at hr;cases hr
 exact(xa0 a q ⟨e,n'.trans n,nO,h2.fr f⟩)
structure WA where
 x:c_
 dx:c_
 bB:f?
 ly:c_
 ch:c_
 kd:c_
 bd:c_
 ak:c_
 wy:c_
 db:c_
 S:c_
noncomputable abbrev WA.fs (W:WA)(n:i_):b? (y?×V):=dg n W.bB W.ly W.ch W.kd W.bd W.ak W.wy
noncomputable def ym (t:Ad)(H:Hp)(Z:aq)(id:i_)(kvs:b? (Key×V))(ks:b? (f?×Kp)):Prop:=h_ (λkv (c:f?×Kp)=>kv.1= .inl c.1/\∃k A dk,kv.2= .ref k/\xw t H Z id c.1 k A dk c.2) kvs ks
noncomputable def mr (H:Hp)(Z:aq)(id:i_)(rs:b? c_)(asked:b? (b? O)):Prop:=rs.length=asked.length/\∀(i:i_)(r:c_)(os:b? O),rs[i]?=some r->asked[i]?=some os->Z r=some (id,.row i)/\∃xs,H r=some (.lst xs)/\h_ (xt H Z) xs os
noncomputable def mv (Z:aq)(id:i_)(kvs:b? (b? Key×V)):Prop:=∀kv∈kvs,∃c,kv.2= .ref c/\Z c=some (id,.sg)
structure qp (t:Ad)(H:Hp)(Z:aq)(id:i_)(W:WA)(w:Wd):Prop where
 ob:H W.x=some (.ins t.j4 W.dx (W.fs w.n))/\Z W.x=some (id,.x)
 ch:H W.ch=some (.lst (w.eX.map V.int))/\Z W.ch=none
 kd:Z W.kd=some (id,.kd)/\∃kvs,H W.kd=some (.dK kvs)/\ym t H Z id kvs w.ks
 bd:Z W.bd=some (id,.bd)/\Z W.S=some (id,.sd)/\∃kvs,vb t H W.bd W.db W.S w.en kvs (bP w.bd)/\mv Z id kvs
 ak:Z W.ak=some (id,.ak)/\∃rs,H W.ak=some (.lst (rs.map V.ref))/\mr H Z id rs w.asked
 wy:Z W.wy=some (id,.wy)/\∃xs,H W.wy=some (.lst xs)/\h_ (bZ H Z) xs w.way
section
variable {t:Ad}{H H':Hp}{Z Z':aq}{id:i_}{W:WA}{w:Wd}{P:Role->Prop}
theorem dq {a:c_}{u:HO}{r:Role}(f:Fr P Z H Z' H')(e:H a=some u)(er:Z a=some r)(n:¬P r):H' a=some u/\Z' a=some r:=by
 obtain⟨e1,r1⟩:=f a u e λr' hr=>by rw[er]at hr;cases hr;exact n
 exact⟨e1,r1.trans er⟩
theorem lg {a:c_}{u:HO}(f:Fr P Z H Z' H')(e:H a=some u)(er:Z a=none):H' a=some u/\Z' a=none:=by
 obtain⟨e1,r1⟩:=f a u e λr' hr=>by rw[er]at hr;cases hr
 exact⟨e1,r1.trans er⟩
theorem ym.fr {kvs:b? (Key×V)}{ks:b? (f?×Kp)}(f:Fr P Z H Z' H')(hP:∀h i,¬P (id,.kp h i))(k:ym t H Z id kvs ks):ym t H' Z' id kvs ks:=Paired.gy k λ_ c ⟨e,k,A,dk,ek,q⟩=>⟨e,xa1 k A dk ⟨ek,q.fr (hP c.1) f⟩⟩
theorem mr.fr {rs:b? c_}{asked:b? (b? O)}(f:Fr P Z H Z' H')(hP:∀i,¬P (id,.row i))(k:mr H Z id rs asked):mr H' Z' id rs asked:=⟨k.1,λi r os e1 e2=>by obtain⟨rr,xs,h,p⟩:=k.2 i r os e1 e2;obtain⟨h',r'⟩:=dq f h rr (hP i);exact⟨r',xs,h',Paired.gy p λ_ _=>xt.fr f⟩⟩
theorem vb.fr {p dx S:c_}{en:f?}{kvs:b? (b? Key×V)}{ps:fX}(f:Fr P Z H Z' H')(rp:Z p=some (id,.bd))(rS:Z S=some (id,.sd))(sg:mv Z id kvs)(n1:¬P (id,.bd))(n2:¬P (id,.sd))(n3:¬P (id,.sg))(Bq:vb t H p dx S en kvs ps):vb t H' p dx S en kvs ps/\Z' p=some (id,.bd)/\Z' S=some (id,.sd)/\mv Z' id kvs:=by
 obtain⟨e1,r1⟩:=dq f Bq.ob rp n1;obtain⟨e2,r2⟩:=dq f Bq.sg rS n2;have hs:∀{kv:b? Key×V}{q:b? Key×b? f?},kv∈kvs->iH H kv q->iH H' kv q/\∃c,kv.2= .ref c/\Z' c=some (id,.sg):=λ{kv q} m ⟨a,c,ec,hc⟩=>by obtain⟨c',Qs,rc⟩:=sg kv m;rw[ec]at Qs;cases Qs;obtain⟨h1,h2⟩:=dq f hc rc n3;exact⟨⟨a,c,ec,h1⟩,c,ec,h2⟩
 have all:∀{xs:b? (b? Key×V)}{ys:fX},(∀x∈xs,x∈kvs)->h_ (iH H) xs ys->h_ (iH H') xs ys/\mv Z' id xs:=λ{xs ys} m q=>by
  induction q with
  |nil=>exact⟨.nil,λ_ z=>by cases z⟩
  |cons h _ ih=>
   obtain⟨i1,i2⟩:=ih λx hx=>m x (q_ _ hx);obtain⟨j1,j2⟩:=hs (m _ p?) h;refine⟨.cons j1 i1,λx hx=>?_⟩;rcases D?.mp hx with rfl|hx
   .exact j2
   .exact i2 x hx
 obtain⟨a1,a2⟩:=all (λ_ h=>h) Bq.hs;exact⟨⟨e1,e2,a1,Bq.un⟩,r1,r2,a2⟩
theorem qp.fr (hP:∀p,¬P (id,p))(f:Fr P Z H Z' H')(w1:qp t H Z id W w):qp t H' Z' id W w:=by obtain⟨rk,kvs,hk,ks⟩:=w1.kd;obtain⟨rb,rS,xN,Bq,sg⟩:=w1.bd;obtain⟨ra,rs,ha,rows⟩:=w1.ak;obtain⟨dW,xs,hw,pw⟩:=w1.wy;obtain⟨i9,rk'⟩:=dq f hk rk (hP _);obtain⟨B',BH,BI,Jy⟩:=Bq.fr f rb rS sg (hP _) (hP _) (hP _);obtain⟨Jz,JA⟩:=dq f ha ra (hP _);obtain⟨qK,cz⟩:=dq f hw dW (hP _);exact⟨dq f w1.ob.1 w1.ob.2 (hP _),lg f w1.ch.1 w1.ch.2,⟨rk',kvs,i9,ks.fr f λ_ _=>hP _⟩,⟨BH,BI,xN,B',Jy⟩,⟨JA,rs,Jz,rows.fr f λ_=>hP _⟩,⟨cz,xs,qK,Paired.gy pw λ_ _=>bZ.fr f⟩⟩
theorem qp.but (f:Fr P Z H Z' H')(w1:qp t H Z id W w)(w':Wd)(n1:¬P (id,.x))(en:w'.n=w.n)(ec:w'.eX=w.eX)(kd:(Z W.kd=some (id,.kd)->(∃kvs,H W.kd=some (.dK kvs)/\ym t H Z id kvs w.ks)->Z' W.kd=some (id,.kd)/\∃kvs,H' W.kd=some (.dK kvs)/\ym t H' Z' id kvs w'.ks))(bd:(Z W.bd=some (id,.bd)->Z W.S=some (id,.sd)->(∃kvs,vb t H W.bd W.db W.S w.en kvs (bP w.bd)/\mv Z id kvs)->Z' W.bd=some (id,.bd)/\Z' W.S=some (id,.sd)/\∃kvs,vb t H' W.bd W.db W.S w'.en kvs (bP w'.bd)/\mv Z' id kvs))(ak:(Z W.ak=some (id,.ak)->(∃rs,H W.ak=some (.lst (rs.map V.ref))/\mr H Z id rs w.asked)->Z' W.ak=some (id,.ak)/\∃rs,H' W.ak=some (.lst (rs.map V.ref))/\mr H' Z' id rs w'.asked))(wy:(Z W.wy=some (id,.wy)->(∃xs,H W.wy=some (.lst xs)/\h_ (bZ H Z) xs w.way)->Z' W.wy=some (id,.wy)/\∃xs,H' W.wy=some (.lst xs)/\h_ (bZ H' Z') xs w'.way)):qp t H' Z' id W w':=by
 refine⟨?_,?_,kd w1.kd.1 w1.kd.2,bd w1.bd.1 w1.bd.2.1 w1.bd.2.2,ak w1.ak.1 w1.ak.2,wy w1.wy.1 w1.wy.2⟩
 .rw[en];exact dq f w1.ob.1 w1.ob.2 n1
 .rw[ec];exact lg f w1.ch.1 w1.ch.2
theorem gK (f:Fr P Z H Z' H')(n1:¬P (id,.kd))(n2:∀h i,¬P (id,.kp h i)){kd:c_}{ks:b? (f?×Kp)}(r:Z kd=some (id,.kd))(h:∃kvs,H kd=some (.dK kvs)/\ym t H Z id kvs ks):Z' kd=some (id,.kd)/\∃kvs,H' kd=some (.dK kvs)/\ym t H' Z' id kvs ks:=by obtain⟨kvs,hk,q⟩:=h;obtain⟨h',r'⟩:=dq f hk r n1;exact⟨r',kvs,h',q.fr f n2⟩
theorem iJ (f:Fr P Z H Z' H')(n1:¬P (id,.bd))(n2:¬P (id,.sd))(n3:¬P (id,.sg)){b db S:c_}{en:f?}{is:yl}(rb:Z b=some (id,.bd))(rS:Z S=some (id,.sd))(h:∃kvs,vb t H b db S en kvs (bP is)/\mv Z id kvs):Z' b=some (id,.bd)/\Z' S=some (id,.sd)/\∃kvs,vb t H' b db S en kvs (bP is)/\mv Z' id kvs:=by obtain⟨kvs,Bq,sg⟩:=h;obtain⟨B',BH,BI,Jy⟩:=Bq.fr f rb rS sg n1 n2 n3;exact⟨BH,BI,kvs,B',Jy⟩
theorem mx (f:Fr P Z H Z' H')(n1:¬P (id,.ak))(n2:∀i,¬P (id,.row i)){ak:c_}{asked:b? (b? O)}(r:Z ak=some (id,.ak))(h:∃rs,H ak=some (.lst (rs.map V.ref))/\mr H Z id rs asked):Z' ak=some (id,.ak)/\∃rs,H' ak=some (.lst (rs.map V.ref))/\mr H' Z' id rs asked:=by obtain⟨rs,hk,q⟩:=h;obtain⟨h',r'⟩:=dq f hk r n1;exact⟨r',rs,h',q.fr f n2⟩
theorem JB (f:Fr P Z H Z' H')(n1:¬P (id,.wy)){wy:c_}{way:b? (o?×f?×O)}(r:Z wy=some (id,.wy))(h:∃xs,H wy=some (.lst xs)/\h_ (bZ H Z) xs way):Z' wy=some (id,.wy)/\∃xs,H' wy=some (.lst xs)/\h_ (bZ H' Z') xs way:=by obtain⟨rs,hk,q⟩:=h;obtain⟨h',r'⟩:=dq f hk r n1;exact⟨r',rs,h',Paired.gy q λ_ _=>bZ.fr f⟩
end
theorem j02 {α β:Type}{F:α->β->Prop}:∀{xs oz:b? α}{ys br:b? β},h_ F xs ys->h_ F oz br->h_ F (xs++oz) (ys++br):=λ{xs oz ys br} q h=>by
 induction q with
 |nil=>exact h
 |cons a _ ih=>exact .cons a ih
theorem big {n:i_}(h:n<=1000000):n<k_:=aal h (by decide)
theorem Qt {n:i_}(h:n<=1000000):n<=k_:=aam (big h)
noncomputable abbrev BJ (H:Hp)(x:c_)(G:Hp):Prop:=∀b u,H b=some u->b≠x->G b=some u
theorem Fr.JC {P:Role->Prop}{Z:aq}{H G:Hp}{x:c_}{r:Role}(h:Z x=some r)(p:P r)(f:BJ H x G):Fr P Z H Z G:=λb u e n=>⟨f b u e λz=>n r (z ▸ h) p,a_⟩
theorem ay.JC {Z:aq}{H G:Hp}{x:c_}{u:HO}(k:ay Z H)(f:BJ H x G)(hx:G x=some u)(nu:qE u):ay Z G:=λb r h=>by
 by_cases z:b=x
 .subst z;exact⟨u,hx,nu⟩
 .obtain⟨v,e,n⟩:=k b r h;exact⟨v,f b v e z,n⟩
noncomputable def fB (id:i_)(p:Part):Role->Prop:=λr=>r=(id,p)
theorem jy {id:i_}{p q:Part}(h:q≠p:=by intro z;cases z):¬fB id p (id,q):=λz=>h (Ó z).2
theorem j81 {a:c_}{o:L?}{kvs:b? (Key×V)}{g:TG}{tb:TS}{D:Ends}{U:St}{H:Hp}(Pv:i_->St->Hp->Prop)(h0:Pv 0 U H)(hl:∀i U H,i<=kvs.length->Pv i U H->H a=some (.aB o (.dK kvs)))(hs:∀i kv U H,kvs[i]?=some kv->Pv i U H->g (kV kv.1) U H λ U2 H2=>tb {D with nx:=Pv (i+1),ct:=Pv (i+1),bk:=D.nx} U2 H2)(hd:∀U H,Pv kvs.length U H->D.nx U H):∃W:i_->i_->St->Hp->Prop,(∃m,W 0 m U H)/\∀i m U H,W i m U H->((uX a o kvs).stop i H/\D.nx U H)\/((uX a o kvs).go i H/\∃N:St->Hp->Prop,(∀U' H',N U' H'->∃m',m'<m/\W (i+1) m' U' H')/\∀x H',(uX a o kvs).dJ i H x H'->g x U H' λ U2 H2=>tb {D with nx:=N,ct:=N,bk:=D.nx} U2 H2):=by
 refine⟨λi m U H=>m=kvs.length-i/\i<=kvs.length/\Pv i U H,⟨kvs.length,by simp,T? _,h0⟩,?_⟩
 rintro i m U H ⟨rfl,hi,p⟩
 have q:=hl i U H hi p;by_cases aw:i<kvs.length
 .refine .inr ⟨⟨aw,q⟩,Pv (i+1),λ U' H' p'=>⟨kvs.length-(i+1),by lia,a_,aw,p'⟩,λx H' y=>?_⟩;obtain⟨e,kv,ek,ex⟩:=y;subst e ex;exact hs i kv U _ ek p
 .have e:i=kvs.length:=by lia
  subst e;exact .inl ⟨⟨r_ _,q⟩,hd U H p⟩
theorem JD (T:Txt K mg t):zv P w K mg base CX0 1 t.GF t.GG ["self"] (λvs H Q _=>∃Z id W Y,vs=[.ref W.x]/\qp t H Z id W Y/\Y.way.length<=100000/\∀r xs,H r=none->h_ (bZ H Z) xs Y.way->Q (.ref r) (upd H r (.lst xs))):=by refine T.jim.aW (N:=["self"]) λ_ A _ s H vs Q E hr h=>?_;obtain⟨Z,id,W,Y,rfl,O,l,k⟩:=h;refine⟨_,(@je _ _ _ (jv (gr ya a_ T.iF boot_list (jc (j3 (pv 0) a_) jf)))),?_⟩;obtain⟨dW,xs,hw,pw⟩:=O.wy;exact⟨_,a_,xa3 W.x _ W.dx _ _ ⟨a_,O.ob.1,T.jk,T.qz,qJ,xa0 W.wy xs ⟨a_,.inl (af.of hw),λr nr=>k r xs nr pw⟩⟩⟩
theorem Qu (T:Txt K mg t):zv P w K mg base CX0 1 t.gj t.gk ["self","word","order"] (λvs H Q _=>∃Z id W Y b q o,vs=[.ref W.x,sE b,.ref q]/\qp t H Z id W Y/\ay Z H/\xt H Z (.ref q) o/\Y.way.length<=100000/\Y.ks.length<=16/\∀H',qp t H' Z id W (Y.post b o)->Fr (fB id .wy) Z H Z H'->ay Z H'->Q .aj H'):=by
 refine T.jcr.bF Oy λ_ A _ s H vs Q E hr h=>?_;obtain⟨Z,id,W,Y,b,q,o,rfl,O,kr,uq,l,l2,k⟩:=h;refine⟨_,(@je _ _ _ (WL (iR ú a_ (WQ (j3 (pv 0) a_)) (jr (i:=3) Oy.nd a_ (o_ a_)) (@je _ _ _ (qb (fq B? E_ F_ y8 (j3 (pv 0) a_) (jc (@iU _ _ _ _ _ (@cq _ _ _ _ _ _ _ (pv 1) (pv 3) (pv 2) a_ a_ a_)) jf))))))),?_⟩;obtain⟨rk,kvs,kd,ks⟩:=O.kd;obtain⟨dW,way,wy,pw⟩:=O.wy;have ob:=O.ob.1;have kw:W.kd≠W.wy:=fu rk dW (by intro z;cases z);have kx:W.x≠W.kd:=fu O.ob.2 rk (by intro z;cases z);have wx:W.x≠W.wy:=fu O.ob.2 dW (by intro z;cases z);have lk:kvs.length=Y.ks.length:=q? ks;have lw:way.length=Y.way.length:=q? pw;refine⟨_,a_,xa3 W.x _ W.dx _ _ ⟨a_,ob,T.jk,T.zt,xJ,xa0 W.kd kvs ⟨a_,kd,λoo=>j81 (λi U H'=>∃v ts,U=[some (.ref W.x),some (sE b),some (.ref q),v]/\ts.length=i/\H' W.wy=some (.lst (way++ts))/\BJ (upd H W.kd (.aB oo (.dK kvs))) W.wy H'/\h_ (λx (c:f?×Kp)=>∃a,x= .ref a/\H a=none/\H' a=some (.tup [sE b,.int c.1,.ref q])) ts (Y.ks.take i)) ?_ ?_ ?_ ?_⟩⟩⟩
 .exact(xa0 none [] ⟨a_,a_,(by rw[â,jd kw.symm];exact wy),(λb u e _=>e),.nil⟩)
 .rintro i U H' _ ⟨v,ts,_,_,_,f,_⟩
  exact f _ _ ja kw
 .rintro i kv U H' ek ⟨v,ts,rfl,lt,hw,f,pt⟩
  obtain⟨c,ec,e1,_⟩:=qo ks ek;have ob':H' W.x=some (.ins t.j4 W.dx (W.fs Y.n)):=f _ _ (by rw[jd kx];exact ob) wx;have hi:=(l?.mp ek).1;refine⟨_,a_,xa3 W.x _ W.dx _ _ ⟨a_,ob',T.jk,T.qz,qJ,.inl ⟨a_,_,af.of hw⟩,_,a_,_,a_,_,a_,oq,λp np=>?_⟩⟩;have sp:=jh (o:=.tup [sE b,kV kv.1,.ref q]) np;have jO:H p=none:=by
   cases e:H p with
   |none=>rfl
   | some u=>
    exfalso;by_cases z:p=W.wy
    .rw[z,hw]at np;cases np
    .by_cases z2:p=W.kd
     .rw[z2,f _ _ ja kw]at np;cases np
     .have:=f p u (by rw[jd z2];exact e) z;rw[np]at this;cases this
  have pw_:p≠W.wy:=λz=>by rw[z,hw]at np;cases np
  refine(xa1 W.wy _ _ ⟨a_,a_,sp _ _ hw,big (by rw[p_,lt];omega),xa0 _ (ts++[.ref p]) ⟨a_,?_,?_,λb' u e bw=>?_,?_⟩⟩)
  .rw[p_,lt];rfl
  .rw[ja,aa8]
  .rw[jd bw];exact sp _ _ (f _ _ e bw)
  .rw[take_snoc ec];refine qk (Paired.gy pt λ_ _ ⟨a,e,n,h'⟩=>⟨a,e,n,?_⟩) ⟨p,a_,jO,?_⟩
   .rw[jd (λz=>by rw[z,hw]at h';cases h')];exact sp _ _ h'
   .rw[jd pw_,ja,e1];rfl
 .rintro U H' ⟨v,ts,rfl,lt,hw,f,pt⟩
  have fin:BJ H W.wy (upd H' W.kd (.dK kvs)):=λb' u e bw=>by
   by_cases z:b'=W.kd
   .subst z;rw[kd]at e;rw[ja,<-e]
   .rw[jd z];exact f _ _ (by rw[jd z];exact e) bw
  have qK:upd H' W.kd (.dK kvs) W.wy=some (.lst (way++ts)):=by rw[jd kw.symm];exact hw
  refine(xa1 W.kd oo (.dK kvs) ⟨f _ _ ja kw,λo' u' z=>?_,xv,?_⟩)
  .have z':H W.kd=some (.aB o' u'):=z;rw[kd]at z';cases z'
  have fr:Fr (fB id .wy) Z H Z (upd H' W.kd (.dK kvs)):=Fr.JC dW a_ fin;rw[lk,Z_]at pt;refine k _ (O.but fr (Y.post b o) jy a_ a_ (gK fr jy (λ_ _=>jy)) (iJ fr jy jy jy) (mx fr jy (λ_=>jy)) (λ_ _=>⟨dW,_,qK,?_⟩)) fr (kr.JC fin qK (by exact xv));have up:=uq.fr fr;have q2:h_ (bZ (upd H' W.kd (.dK kvs)) Z) ts (Y.ks.map λc=>(b,c.1,o)):=by
   clear qK lt hw;have gen:∀{xs:b? V}{cs:b? (f?×Kp)},h_ (λx (c:f?×Kp)=>∃a,x= .ref a/\H a=none/\H' a=some (.tup [sE b,.int c.1,.ref q])) xs cs->h_ (bZ (upd H' W.kd (.dK kvs)) Z) xs (cs.map λc=>(b,c.1,o)):=λ{xs cs} h=>by
    induction h with
    |nil=>exact .nil
    |cons a _ ih=>obtain⟨p,e,n,hp⟩:=a;refine .cons (xa0 p q ⟨e,kr.none n,?_,up⟩) ih;rw[jd (λz=>by rw[z,kd]at n;cases n)];exact hp
   exact gen pt
  exact j02 (Paired.gy pw λ_ _=>bZ.fr fr) q2
noncomputable def sF (id:i_):Role->Prop:=λr=>r=(id,.wy)\/r=(id,.sd)\/r=(id,.sg)
theorem qL {id:i_}{p:Part}(h1:p≠.wy)(h2:p≠.sd)(h3:p≠.sg):¬sF id (id,p):=λz=>by
 rcases z with z|z|z
 .exact h1 (Ó z).2
 .exact h2 (Ó z).2
 .exact h3 (Ó z).2
structure Sz (Y:Wd)(a b c:i_):Prop where
 bd:Y.bd.length<=a
 hs:∀x∈Y.bd,x.2.length<=b
 wy:Y.way.length<=c
 ks:Y.ks.length<=16
theorem Qv {k:b? f?}{h:f?}:∀{is:yl}{a b:i_},is.length<=a->(∀x∈is,x.2.length<=b)->(dh is k h).length<=a+1/\∀x∈dh is k h,x.2.length<=b+1
 |[],a,b,_,_=>⟨by show 1<=a+1;lia,λx hx=>by rw[j'.mp hx];show 1<=b+1;lia⟩
 | p::ps,a,b,h1,h2=>by
  unfold dh;split
  .refine⟨by rw[C?]at h1⊢;lia,λx hx=>?_⟩;rcases D?.mp hx with rfl|hx
   .have:=h2 p p?;show(p.2++[h]).length<=b+1;rw[p_];show p.2.length+1<=b+1;lia
   .have:=h2 x (q_ _ hx);lia
  .rw[C?]at h1;obtain⟨i1,i2⟩:=Qv (k:=k) (h:=h) (is:=ps) (a:=a-1) (b:=b) (by lia) (λx hx=>h2 x (q_ _ hx));refine⟨by rw[C?];lia,λx hx=>?_⟩;rcases D?.mp hx with rfl|hx
   .have:=h2 x p?;lia
   .exact i2 x hx
theorem Sz.put {Y:Wd}{a b c:i_}(z:Sz Y a b c)(h:f?)(o:O):Sz (Y.put h o).1 (a+1) (b+1) c:=by
 unfold Wd.put;split
 .exact⟨ţ z.bd,λx hx=>ţ (z.hs x hx),z.wy,z.ks⟩
 .obtain⟨i1,i2⟩:=Qv (k:=yh o) (h:=h) z.bd z.hs;exact⟨i1,i2,z.wy,z.ks⟩
theorem Sz.ba {Y:Wd}{a b c:i_}(z:Sz Y a b c)(h:f?)(o:O):Sz (Y.ba h o) (a+1) (b+1) (c+16):=by
 have p:=z.put h o;unfold Wd.ba;split
 .refine⟨p.bd,p.hs,?_,p.ks⟩;show((Y.put h o).1.way++_).length<=c+16;rw[p_,g_];have:=p.wy;have:=p.ks;lia
 .exact⟨p.bd,p.hs,by have:=p.wy;lia,p.ks⟩
theorem Sz.mono {Y:Wd}{a b c a' b' c':i_}(z:Sz Y a b c)(h1:a<=a')(h2:b<=b')(h3:c<=c'):Sz Y a' b' c':=⟨P_ z.bd h1,λx hx=>P_ (z.hs x hx) h2,P_ z.wy h3,z.ks⟩
theorem Qw (Y:Wd)(h:f?){os:b? O}{i:i_}{o:O}(e:os[i]?=some o):Y.xk h (os.take (i+1))=(Y.xk h (os.take i)).ba h o:=by unfold Wd.xk;rw[take_snoc e,aaY];rfl
theorem Sz.xk {Y:Wd}{a b c:i_}(z:Sz Y a b c)(h:f?){os:b? O}:∀i,i<=os.length->Sz (Y.xk h (os.take i)) (a+i) (b+i) (c+16*i)
 |0,_=>z
 |i+1,hi=>by rw[Qw Y h (u? (show i<os.length by lia))];exact((Sz.xk z h i (by lia)).ba h _).mono (by lia) (by lia) (by lia)
theorem JE {k:b? f?}:∀{is:yl},jx is k=[]\/∃x∈is,jx is k=x.2
 |[]=>.inl a_
 | p::ps=>by
  unfold jx;split
  .exact .inr ⟨p,p?,a_⟩
  .rcases JE (k:=k) (is:=ps)with h|⟨x,hx,e⟩
   .exact .inl h
   .exact .inr ⟨x,q_ _ hx,e⟩
theorem Sz.hl {Y:Wd}{a b c:i_}(z:Sz Y a b c)(k:b? f?):(jx Y.bd k).length<=b:=by
 rcases JE (k:=k) (is:=Y.bd)with h|⟨x,hx,e⟩
 .rw[h];exact T? _
 .rw[e];exact z.hs x hx
open Classical in
noncomputable def lj (Z : aq) (id:i_) (kvs bD:b? (b? Key × V)) : aq:=λa=>if ∃ kv ∈ bD,kv.2 = .ref a then some (id,.sg) else if ∃ kv ∈ kvs,kv.2 = .ref a then none else Z a
theorem JF (T:Txt K mg t):zv P w K mg base CX0 2 t.GV t.GW ["self","house","orders"] (λvs H Q _=>∃Z id W Y h r xs os a b c,vs=[.ref W.x,.int h,.ref r]/\qp t H Z id W Y/\ay Z H/\H r=some (.lst xs)/\(∀ro,Z r=some ro->¬sF id ro)/\h_ (xt H Z) xs os/\Sz Y a b c/\a+os.length<=1000/\b+os.length<=1000/\c+16*os.length<=100000/\∀Z' H',qp t H' Z' id W (Y.xk h os)->Fr (sF id) Z H Z' H'->ay Z' H'->Q .aj H'):=by
 refine T.jgo.bF Oz λ_ A _ s H vs Q E hr h=>?_;obtain⟨Z,id,W,Y,h,r,xs,os,a,b,c,rfl,O,kr,hx,nr,px,sz,la,lb,lc,k⟩:=h;refine⟨_,(@je _ _ _ (iR ú a_ (@pz _ _ _ _ (pv 2)) (jr (i:=3) Oz.nd a_ (o_ a_)) (@je _ _ _ (zf (ze (j8 (j3 (pv 0) a_) T.yx T.jpy (jwg T) hr.dn T.jq1 .nil jl (@y6 _ _ _ _ _ (pv 1) (pv 3) a_ a_))) (@je _ _ _ (qb (j8 (pv 0) T.jk T.we (Qu T) hr.dn T.gg .nil jl (@y6 _ _ _ _ _ (zk (v:=.str "paper") a_ T.PY.choose_spec ⟨_,a_⟩) (pv 3) a_ a_)))) j9)))),?_⟩;have lx:xs.length=os.length:=q? px;refine⟨_,a_,r,a_,⟨_,af.of hx⟩,oU (K:=K) (a:=r) (xs:=xs) (λi U H'=>∃v Z',U=[some (.ref W.x),some (.int h),some (.ref r),v]/\qp t H' Z' id W (Y.xk h (os.take i))/\Fr (sF id) Z H Z' H'/\ay Z' H') (xa0 none Z ⟨a_,O,Fr.refl,kr⟩) (λi U H' _ ⟨_,Z',_,_,f,_⟩=>af.of (f _ _ hx nr).1) ?_ ?_⟩
 .rintro i x U H1 ex ⟨v,Z1,rfl,O1,f1,bK⟩
  obtain⟨o,eo,uo⟩:=qo px ex;have uo1:=uo.fr f1;obtain⟨q,rfl,nq,hq⟩:=uo1;have hi:=(l?.mp eo).1;have z1:=sz.xk h (os:=os) i (by omega);rw[Qw Y h eo];generalize Y.xk h (os.take i)=Y1 at O1 z1⊢;obtain⟨rb,rS,kvs,Bq,sg⟩:=O1.bd;have ek:qm (bP Y1.bd) (cE o)=jx Y1.bd (yh o):=xM (yh o) Y1.bd;have lk:kvs.length<=1000:=by rw[q? Bq.hs,bP,g_];have:=z1.bd;omega
  have lh:=z1.hl (yh o);refine⟨_,a_,xa3 W.x _ W.dx _ _ ⟨a_,O1.ob.1,T.jk,T.va,BG,xa1 W.bd W.db _ ⟨a_,Bq.ob,xC _ _ (by decide+kernel) (by decide+kernel),_,a_,_,a_,xa4 W.bd W.db W.S Y1.en kvs (bP Y1.bd) q (cE o) h ⟨a_,Bq,hq,lk,by rw[ek];omega,λhm H2 s2=>?_,λhm bD H2 B2 k2 JG=>?_⟩⟩⟩⟩
  .rw[ek]at hm;refine⟨_,a_,w4 (xa0 _ Z1 ⟨a_,?_,f1.trans (Fr.same s2),bK.same s2⟩)⟩;have e:Y1.ba h o=Y1:=by
    unfold Wd.ba Wd.put;rw[m_ hm];rfl
   rw[e];exact O1.fr (P:=λ_=>w?) (λ_ z=>z) (Fr.same s2)
  .rw [ek]at hm;rw[ek];have JH:∀{a:c_},(∃kv∈kvs,kv.2= .ref a)->Z1 a=some (id,.sg):=λ{a} ⟨kv,m,e⟩=>by
    obtain⟨c,ec,rc⟩:=sg kv m;rw[e]at ec;cases ec;exact rc
   have f2:Fr (sF id) Z1 H1 (lj Z1 id kvs bD) H2:=λa u e n=>by have n1:¬∃kv∈kvs,kv.2= .ref a:=λz=>n _ (JH z) (.inr (.inr a_));have n2:NotIn kvs a:=λkv m e=>n1 ⟨kv,m,e⟩;have n3:¬∃kv∈bD,kv.2= .ref a:=λ⟨kv,m,e'⟩=>JG a u e n2 kv m e';refine⟨k2 a u e (λz=>n _ (z ▸ rS) (.inr (.inl a_))) n2,?_⟩;unfold lj;rw[j? n3,j? n1]
   have bW:ay (lj Z1 id kvs bD) H2:=λa ro e=>by
    unfold lj at e;split at e
    .rename_i hm';obtain⟨kv,m,ev⟩:=hm';obtain⟨j,hj,ej⟩:=Ý.mp m;obtain⟨pp,_,_,c,ec,hc⟩:=qo B2.hs (by rw[u? hj,ej]);rw[ev]at ec;cases ec;exact⟨_,hc,xv⟩
    .split at e
     .cases e
     .rename_i n1;obtain⟨u,hu,nu⟩:=bK a ro e;by_cases z:a=W.S
      .subst z;exact⟨_,B2.sg,xv⟩
      .exact⟨u,k2 a u hu z (λkv m e=>n1 ⟨kv,m,e⟩),nu⟩
   have O2:qp t H2 (lj Z1 id kvs bD) id W {Y1 with bd:=dh Y1.bd (yh o) h}:=by
    refine O1.but f2 _ (qL (by intro z;cases z) (by intro z;cases z) (by intro z;cases z)) a_ a_ (gK f2 (qL (by intro z;cases z) (by intro z;cases z) (by intro z;cases z)) λ_ _=>qL (by intro z;cases z) (by intro z;cases z) (by intro z;cases z)) (λBH BI _=>?_) (mx f2 (qL (by intro z;cases z) (by intro z;cases z) (by intro z;cases z)) λ_=>qL (by intro z;cases z) (by intro z;cases z) (by intro z;cases z)) (λcz qK=>?_)
    .have e:=Qr (yh o) h Y1.bd;rw[show cx (yh o)=cE o from a_]at e;rw[e]at B2;have nS:∀{a:c_}{r:Role}{u:HO},Z1 a=some r->H1 a=some u->r≠(id,.sg)->lj Z1 id kvs bD a=some r:=λ{a r u} er eu n=>by
      have n1:¬∃kv∈kvs,kv.2= .ref a:=λz=>n (s_ (er.symm.trans (JH z)));have n3:¬∃kv∈bD,kv.2= .ref a:=λ⟨kv,m,e'⟩=>JG a u eu (λkv m e=>n1 ⟨kv,m,e⟩) kv m e';unfold lj;rw[j? n3,j? n1];exact er
     refine⟨nS rb Bq.ob (by intro z;cases z),nS rS Bq.sg (by intro z;cases z),bD,B2,λkv m=>?_⟩;obtain⟨j,hj,ej⟩:=Ý.mp m;obtain⟨pp,_,_,c,ec,hc⟩:=qo B2.hs (by rw[u? hj,ej]);refine⟨c,ec,?_⟩;unfold lj;rw[m_ ⟨kv,m,ec⟩]
    .obtain⟨ws,h1,p1⟩:=qK;have n1:¬∃kv∈kvs,kv.2= .ref W.wy:=λz=>by
      have:=JH z;rw[cz]at this;cases this
     have n2:NotIn kvs W.wy:=λkv m e=>n1 ⟨kv,m,e⟩;have n3:¬∃kv∈bD,kv.2= .ref W.wy:=λ⟨kv,m,e'⟩=>JG _ _ h1 n2 kv m e';refine⟨?_,ws,k2 _ _ h1 (fu cz rS (by intro z;cases z)) n2,Paired.gy p1 λ_ _=>bZ.fr f2⟩;unfold lj;rw[j? n3,j? n1];exact cz
   have ev:Y1.put h o=({Y1 with bd:=dh Y1.bd (yh o) h},s? (((jx Y1.bd (yh o)).length:f?)+1=Y1.en)):=by unfold Wd.put;rw[j? hm]
   refine⟨_,a_,bj (λz=>?_) (λz=>?_)⟩
   .have zp:=z1.put h o;rw[ev]at zp;have xO:xt H2 (lj Z1 id kvs bD) (.ref q) o:=xt.fr f2 ⟨q,a_,nq,hq⟩;refine⟨_,a_,xa1 W.x W.dx _ ⟨a_,O2.ob.1,zq,_,a_,xa6 _ id W _ false q o ⟨a_,O2,bW,xO,by show Y1.way.length<=100000;have:=z1.wy;omega,zp.ks,λH3 O3 f3 iI=>(xa0 _ _ ⟨a_,?_,(f1.trans f2).trans (f3.mono λr hr=>.inl hr),iI⟩)⟩⟩⟩;have e:Y1.ba h o=Wd.post {Y1 with bd:=dh Y1.bd (yh o) h} false o:=by
     unfold Wd.ba;rw[ev,m_ z]
    rw[e];exact O3
   .refine(xa0 _ _ ⟨a_,?_,f1.trans f2,bW⟩);have e:Y1.ba h o={Y1 with bd:=dh Y1.bd (yh o) h}:=by
     unfold Wd.ba;rw[ev,j? z]
    rw[e];exact O2
 .rintro U H1 ⟨v,Z1,rfl,O1,f1,bK⟩
  rw[lx,Z_]at O1;exact k Z1 H1 O1 f1 bK
theorem sH (ks:b? (f?×Kp))(h:f?)(B:Kp):(cF ks h B).length=ks.length:=g_ ..
theorem Qx {t:Ad}{H:Hp}{Z:aq}{id:i_}{h:f?}{B:Kp}:∀{kvs:b? (Key×V)}{ks:b? (f?×Kp)},ym t H Z id kvs ks->(ks.find? λc=>s? (c.1=h)).map (·.2)=some B->∃k A dk,aY kvs (.inl h)=some (.ref k)/\xw t H Z id h k A dk B:=λ{kvs ks} q e=>by
 unfold ym at q;induction q with
 |nil=>cases e
 |@cons kv c kvs ks a r ih=>
  obtain⟨e1,k,A,dk,e2,R⟩:=a;by_cases z:c.1=h
  .rw[Ą,i? z]at e;obtain rfl:c.2=B:=s_ e;subst z;exact(xa1 k A dk ⟨by rw[kH (by rw[e1]),e2],R⟩)
  .rw[Ą,z? z]at e;obtain⟨k',A',dk',v,R'⟩:=ih e;exact(xa1 k' A' dk' ⟨by rw[kI (λy=>z (S_.inj (e1.symm.trans y)))];exact v,R'⟩)
theorem j3b {t:Ad}{H H':Hp}{Z Z':aq}{id:i_}{h:f?}{κ':Kp}{k:c_}{A':i_->c_}{dk:c_}(f:Fr (bg id h) Z H Z' H')(R':xw t H' Z' id h k A' dk κ'):∀{kvs:b? (Key×V)}{ks:b? (f?×Kp)},(ks.map (·.1)).Nodup->aY kvs (.inl h)=some (.ref k)->ym t H Z id kvs ks->ym t H' Z' id kvs (cF ks h κ'):=λ{kvs ks} nd ev q=>by
 unfold ym at q;induction q with
 |nil=>exact .nil
 | @cons kv c kvs ks a r ih=>
  obtain⟨e1,k0,A,dk0,e2,R⟩:=a;rw[A_,W']at nd;show h_ _ (kv::kvs) ((if c.1=h then(h,κ')else c)::cF ks h κ');have oth:∀{kvs:b? (Key×V)}{ks:b? (f?×Kp)},h∉ks.map (·.1)->ym t H Z id kvs ks->ym t H' Z' id kvs (cF ks h κ'):=λ{kvs ks} nh q=>by
   induction q with
   |nil=>exact .nil
   |cons a _ ih=>rename_i b _ _ _;rw[A_,D?]at nh;obtain⟨x1,x2,x3,x4,x5,x6⟩:=a;have nb:¬b.1=h:=λz=>nh (.inl z.symm);show h_ _ (_::_) ((if b.1=h then(h,κ')else b)::cF _ h κ');rw[j? nb];exact .cons ⟨x1,xa1 x2 x3 x4 ⟨x5,x6.fr (λi ⟨j,e⟩=>nb (by cases e;rfl)) f⟩⟩ (ih λz=>nh (.inr z))
  by_cases z:c.1=h
  .subst z;rw[m_ a_];rw[kH (by rw[e1])]at ev;exact .cons ⟨e1,xa1 k A' dk ⟨s_ ev,R'⟩⟩ (oth nd.1 r)
  .rw[j? z];refine .cons ⟨e1,xa1 k0 A dk0 ⟨e2,R.fr (λi ⟨j,e⟩=>z (by cases e;rfl)) f⟩⟩ (ih nd.2 ?_);rw[kI (λy=>z (S_.inj (e1.symm.trans y)))]at ev;exact ev
theorem qp.Qy {t:Ad}{H H':Hp}{Z Z':aq}{id:i_}{W:WA}{Y:Wd}{h:f?}{κ':Kp}{k:c_}{A':i_->c_}{dk:c_}(f:Fr (bg id h) Z H Z' H')(O:qp t H Z id W Y)(nd:(Y.ks.map (·.1)).Nodup)(ek:∀kvs,H W.kd=some (.dK kvs)->aY kvs (.inl h)=some (.ref k))(R':xw t H' Z' id h k A' dk κ'):qp t H' Z' id W {Y with ks:=cF Y.ks h κ'}:=by have no:∀{p:Part},(∀i,p≠.kp h i)->¬bg id h (id,p):=λhp ⟨i,e⟩=>hp i (Ó e).2;refine O.but f _ (no λ_ z=>by cases z) a_ a_ (λrk hk=>?_) (iJ f (no λ_ z=>by cases z) (no λ_ z=>by cases z) (no λ_ z=>by cases z)) (mx f (no λ_ z=>by cases z) λ_=>no λ_ z=>by cases z) (JB f (no λ_ z=>by cases z));obtain⟨kvs,h1,q⟩:=hk;obtain⟨h2,r2⟩:=dq f h1 rk (no λ_ z=>by cases z);exact⟨r2,kvs,h2,j3b f R' nd (ek kvs h1) q⟩
theorem yc (T:Txt K mg t):zv P w K mg base CX0 2 t.GJ t.GK ["self","house"] (λvs H Q _=>∃Z id W Y h B,vs=[.ref W.x,.int h]/\qp t H Z id W Y/\Y.keep h=some B/\∀k A dk,xw t H Z id h k A dk B->Q (.ref k) H):=by
 refine T.jf9.aW (N:=["self","house"]) λ_ A _ s H vs Q E hr h=>?_;obtain⟨Z,id,W,Y,h,B,rfl,O,e,g⟩:=h;refine⟨_,(@jb _ _ _ _ _ (zf (PW.pt (gD (xq (ze (jm (Ji T) hr.dn a_ T.Iw T.Bo.kp T.Iy .nil jl (jc (pv 1) jf)))) (gS (zL (D0 (fM hr) (pv 1) (j3 (pv 0) a_)))))) ql j9) (@je _ _ _ (jv (MF (fM hr) (j3 (pv 0) a_) (pv 1) (λ_ _=>a_))))),?_⟩;obtain⟨rk,kvs,hk,ks⟩:=O.kd;obtain⟨k,A',dk,ev,R⟩:=Qx ks e;refine⟨_,a_,h,a_,_,a_,w4 ?_⟩;refine⟨_,a_,_,a_,xa3 W.x _ W.dx _ _ ⟨a_,O.ob.1,T.jk,T.zt,xJ,xa0 W.kd (some (.ref k)) ⟨a_,.inl (xa0 kvs (.inl h) ⟨.inl hk,a_,ev.symm⟩),_,a_,w4 ?_⟩⟩⟩;exact⟨_,a_,xa3 W.x _ W.dx _ _ ⟨a_,O.ob.1,T.jk,T.zt,xJ,_,a_,xa0 W.kd (.ref k) ⟨a_,.inl (xa0 kvs (.inl h) ⟨.inl hk,a_,ev.symm⟩),g k A' dk R⟩⟩⟩
theorem ju0 (T:Txt K mg t):zv P w K mg base CX0 3 t.GN t.GO ["self","house"] (λvs H Q _=>∃Z id W Y h B,vs=[.ref W.x,.int h]/\qp t H Z id W Y/\Y.keep h=some B/\B.held.length<=1000/\∀r,H r=none->Q (.ref r) (upd H r (.lst (B.held.map V.int)))):=by refine T.jpv.aW (N:=["self","house"]) λ_ A _ s H vs Q E hr h=>?_;obtain⟨Z,id,W,Y,h,B,rfl,O,e,l,g⟩:=h;refine⟨_,(@je _ _ _ (jv (gr ya a_ T.iF boot_list (jc (j3 (j8 (pv 0) T.jk T.zr (yc T) hr.dn T.xj .nil jl (jc (pv 1) jf)) a_) jf)))),?_⟩;exact⟨_,a_,xa1 W.x W.dx _ ⟨a_,O.ob.1,zq,_,a_,xa5 Z id W Y h B ⟨a_,O,e,λk A' dk R=>(xa3 k _ dk _ _ ⟨a_,R.ob,T.jq,T.yf,(xp A').1,xa0 (A' 1) _ ⟨a_,.inl (af.of R.he),g⟩⟩)⟩⟩⟩
theorem Qz (T:Txt K mg t):zv P w K mg base CX0 3 t.GP t.GQ ["self","house"] (λvs H Q _=>∃Z id W Y h B,vs=[.ref W.x,.int h]/\qp t H Z id W Y/\Y.keep h=some B/\B.done.length<=1000/\∀r xs,H r=none->h_ (xt H Z) xs B.done->Q (.ref r) (upd H r (.lst xs))):=by refine T.jij.aW (N:=["self","house"]) λ_ A _ s H vs Q E hr h=>?_;obtain⟨Z,id,W,Y,h,B,rfl,O,e,l,g⟩:=h;refine⟨_,(@je _ _ _ (jv (gr ya a_ T.iF boot_list (jc (j3 (j8 (pv 0) T.jk T.zr (yc T) hr.dn T.xj .nil jl (jc (pv 1) jf)) a_) jf)))),?_⟩;refine⟨_,a_,xa1 W.x W.dx _ ⟨a_,O.ob.1,zq,_,a_,xa5 Z id W Y h B ⟨a_,O,e,λk A' dk R=>?_⟩⟩⟩;obtain⟨xs,hx,px⟩:=R.dn;exact(xa3 k _ dk _ _ ⟨a_,R.ob,T.jq,T.Jb,(xp A').2.2.1,xa0 (A' 3) xs ⟨a_,.inl (af.of hx),λr nr=>g r xs nr px⟩⟩)
theorem QA (T:Txt K mg t):zv P w K mg base CX0 3 t.ph t.kq ["self","purse"] (λvs H Q _=>∃Z id W Y p,vs=[.ref W.x,.int p]/\qp t H Z id W Y/\0<=p/\p<(Y.n:f?)/\Q .aj H):=by refine T.jdx.aW (N:=["self","purse"]) λ_ A _ s H vs Q E hr h=>?_;obtain⟨Z,id,W,Y,p,rfl,O,p0,p1,g⟩:=h;refine⟨_,(@je _ _ _ (zf (xq (ze (jm (qx T) hr.dn a_ T.za T.qq.kp T.zb .nil jl (@cq _ _ _ _ _ _ _ (pv 1) jn (xx kF (j3 (pv 0) a_) jn) a_ a_ a_)))) ql j9)),?_⟩;refine⟨_,a_,_,a_,xa3 W.x _ W.dx _ _ ⟨a_,O.ob.1,T.jk,T.vz,Jw,xa0 _ _ ⟨a_,a_,xa1 p 0 ((Y.n:f?)-1) ⟨a_,_,a_,?_⟩⟩⟩⟩;rw[i? (show 0<=p/\p<=(Y.n:f?)-1 from⟨p0,by omega⟩)];exact w4 g
theorem jko (T:Txt K mg t):zv P w K mg base (de P w) 4 t.uf t.ko ["self","purse","goal"] (λvs H Q E=>∃Z id W Y p q,vs=[.ref W.x,.int p,.int q]/\qp t H Z id W Y/\(0<=p/\p<(Y.n:f?))/\(0<=q/\q<(Y.n:f?))/\q≠p/\(p∈Y.eX->∀d H',x8 H H'->E (.ref t.xm) (some d) H')/\(p∉Y.eX->Q .aj H)):=by
 refine T.jdz.Yv (N:=["self","purse","goal"]) λ_ A _ s H vs Q E hr h=>?_;obtain⟨Z,id,W,Y,p,q,rfl,O,hp,hq,nq,gx,g⟩:=h;refine⟨_,(@jb _ _ _ _ _ (qb (j8 (pv 0) T.jk T.gf (QA T) hr.dn T.pq .nil jl (jc (pv 1) jf))) (@jb _ _ _ _ _ (qb (j8 (pv 0) T.jk T.gf (QA T) hr.dn T.pq .nil jl (jc (pv 2) jf))) (@je _ _ _ (zf (PW.pt (gD (jz Mr (pv 1) (j3 (pv 0) a_) (by with_unfolding_all rfl)) (gS (jz fH (pv 2) (pv 1) (qe _))))) (@je _ _ _ (YG a_ T.P2 T.OU (jmi T) hr.dn T.je3 (jc (pv 1) jf))) j9)))),?_⟩;refine⟨_,a_,xa1 W.x W.dx _ ⟨a_,O.ob.1,zq,_,a_,xa3 Z id W Y p ⟨a_,O,hp.1,hp.2,?_⟩⟩⟩;refine⟨_,a_,xa1 W.x W.dx _ ⟨a_,O.ob.1,zq,_,a_,xa3 Z id W Y q ⟨a_,O,hq.1,hq.2,?_⟩⟩⟩;refine⟨_,a_,_,a_,xa3 W.x _ W.dx _ _ ⟨a_,O.ob.1,T.jk,T.yq,Jx,xa0 W.ch _ ⟨a_,.inl (af.of O.ch.1),a_,qD _,_,a_,?_⟩⟩⟩;refine bj (λz=>?_) (λz=>?_)
 .rw[j? (by decide),jL]at z;refine bA ⟨_,a_,oh,λea oa=>(xa0 ea _ ⟨a_,ja,λd hd=>?_⟩)⟩;obtain⟨g1,g2,g3,g4⟩:=qbg (Yq:=pS ea t.xm d) (Zq:=.xd [("purse",.int p)]) oa hd;exact⟨a_,d,g2,gx (n? z) d _ g3⟩
 .rw[j? (by decide),jL]at z;refine⟨_,a_,_,a_,a_,_,a_,bj (λy=>?_) (λ_=>g λy=>z (i? y))⟩;exact w_ (V.int.inj (n? y)) nq
theorem QB (T:Txt K mg t):zv P w K mg base CX0 5 t.pe t.ue ["self","order"] (λvs H Q _=>∃Z id W Y q o,vs=[.ref W.x,.ref q]/\qp t H Z id W Y/\H q=some (.tup (bO o))/\zc Y.n o=true/\Q .aj H):=by refine T.jdv.aW (N:=["self","order"]) λ_ A _ s H vs Q E hr h=>?_;obtain⟨Z,id,W,Y,q,o,rfl,O,hq,ho,g⟩:=h;refine⟨_,(@je _ _ _ (zf (xq (ze (xb (Bw T) hr.dn a_ T.Bp T.xA.kp T.Iz jl (jc (pv 1) jf) (xc (j3 (pv 0) a_) uu)))) ql j9)),?_⟩;refine⟨_,a_,_,a_,xa3 W.x _ W.dx _ _ ⟨a_,O.ob.1,T.jk,T.vz,Jw,xa1 q o (Y.n:f?) ⟨a_,hq,_,a_,?_⟩⟩⟩;rw[ho];exact w4 g
theorem JI (T:Txt K mg t):zv P w K mg base CX0 3 t.GH t.GI ["self"] (λvs H Q _=>∃Z id W Y,vs=[.ref W.x]/\qp t H Z id W Y/\Y.bd.length<64/\(Y.bd.map (·.1)).Nodup/\(∀x∈Y.bd,x.1≠[])/\∀(r:c_)(aZ:b? V)(bo:b? (b? f?))(H':Hp),H r=none->x8 H H'->bo.Perm (xu Y.bd Y.en)->bo.Pairwise (λa b=>HT.lexLt a b=true)->h_ (cD H') aZ bo->H' r=some (.lst aZ)->Q (.ref r) H'):=by
 refine T.jk3.aW (N:=["self"]) λ_ A _ s H vs Q E hr h=>?_;obtain⟨Z,id,W,Y,rfl,O,l,nd,ne,g⟩:=h;refine⟨_,(@je _ _ _ (jv (wo (j3 (pv 0) a_) T.yx T.jib (jqa T) hr.dn T.ji5 .nil jl))),?_⟩;obtain⟨rb,rS,kvs,Bq,sg⟩:=O.bd;have lk:kvs.length<64:=by rw[q? Bq.hs,bP,g_];exact l
 exact⟨_,a_,xa3 W.x _ W.dx _ _ ⟨a_,O.ob.1,T.jk,T.va,BG,xa1 W.bd W.db _ ⟨a_,Bq.ob,xC _ _ (by decide+kernel) (by decide+kernel),xa5 W.bd W.db W.S Y.en kvs Y.bd ⟨a_,Bq,lk,nd,ne,g⟩⟩⟩⟩
theorem QC {K:e?}{H:Hp}{Z:aq}:∀{xs:b? V}{os:b? O},h_ (xt H Z) xs os->i7 K H xs (os.map yh):=λ{xs os} q=>by
 induction q with
 |nil=>exact .nil
 |cons a _ ih=>obtain⟨a,e,_,h⟩:=a;exact .cons ⟨a,e,az.of h⟩ ih
theorem jte (T:Txt K mg t):zv P w K mg base CX0 3 t.GR t.GS ["self","house"] (λvs H Q _=>∃Z id W Y h B,vs=[.ref W.x,.int h]/\qp t H Z id W Y/\Y.keep h=some B/\B.wait.length<64/\B.wait.Nodup/\∀(r:c_)(aZ:b? V)(bo:b? (b? f?)),H r=none->bo.Perm (B.wait.map yh)->bo.Pairwise (λa b=>HT.lexLt a b=true)->i7 K H aZ bo->Q (.ref r) (upd H r (.lst aZ))):=by
 refine T.jni.aW (N:=["self","house"]) λ_ A _ s H vs Q E hr h=>?_;obtain⟨Z,id,W,Y,h,B,rfl,O,e,l,nd,g⟩:=h;refine⟨_,(@je _ _ _ (jv (jo W9 a_ T.qB boot_sorted (jc (j3 (j8 (pv 0) T.jk T.zr (yc T) hr.dn T.xj .nil jl (jc (pv 1) jf)) a_) jf)))),?_⟩;refine⟨_,a_,xa1 W.x W.dx _ ⟨a_,O.ob.1,zq,_,a_,xa5 Z id W Y h B ⟨a_,O,e,λk A' dk R=>?_⟩⟩⟩;obtain⟨xs,hx,px⟩:=R.wt;refine(xa3 k _ dk _ _ ⟨a_,R.ob,T.jq,T.zj,(xp A').2.2.2.2.2.2,xa1 (A' 7) xs (B.wait.map yh) ⟨a_,af.of hx,QC px,by rw[q? px];exact l,à _ (λa b cV z=>cV (qH z)) nd,λt ht z=>?_,λq aZ bo nq _ p2 p3 p4=>g q aZ bo nq p2 p4 p3⟩⟩);obtain⟨o,_,rfl⟩:=H?.mp ht;cases z
theorem js2 (T:Txt K mg t):zv P w K mg base CX0 6 t.GZ t.G0 ["self","order","house"] (λvs H Q _=>∃Z id W Y q o h B,vs=[.ref W.x,.ref q,.int h]/\qp t H Z id W Y/\ay Z H/\xt H Z (.ref q) o/\zc Y.n o=true/\o.p∈Y.eX/\Y.keep h=some B/\Y.way.length<=100000/\∀H',qp t H' Z id W {Y with way:=Y.way++[(true,h,o)]}->Fr (fB id .wy) Z H Z H'->ay Z H'->Q .aj H'):=by
 refine T.jm4.aW (N:=["self","order","house"]) λ_ A _ s H vs Q E hr h=>?_;obtain⟨Z,id,W,Y,q,o,h,B,rfl,O,kr,uq,ho,oc,ek,l,g⟩:=h;refine⟨_,(@jb _ _ _ _ _ (qb (j8 (pv 0) T.jk T.gh (QB T) hr.dn T.ky .nil jl (jc (pv 1) jf))) (@jb _ _ _ _ _ (zf (jz Ae (gb gY (pv 1) jn (λ_ _=>a_)) (j3 (pv 0) a_) (by with_unfolding_all rfl)) ql j9) (@jb _ _ _ _ _ (qb (j8 (pv 0) T.jk T.zr (yc T) hr.dn T.xj .nil jl (jc (pv 2) jf))) (@je _ _ _ (qb (fq B? E_ F_ y8 (j3 (pv 0) a_) (jc (@iU _ _ _ _ _ (@cq _ _ _ _ _ _ _ (zk (v:=.str "order") a_ T.Ja.choose_spec ⟨_,a_⟩) (pv 2) (pv 1) a_ a_ a_)) jf))))))),?_⟩;have xP:=uq;obtain⟨_,eq,nq,hq⟩:=xP;cases eq;refine⟨_,a_,xa1 W.x W.dx _ ⟨a_,O.ob.1,zq,_,a_,xa5 Z id W Y q o ⟨a_,O,hq,ho,?_⟩⟩⟩;refine⟨_,a_,xa2 q (bO o) 0 (.int o.p) ⟨a_,a_,az.of hq,a_,_,a_,xa3 W.x _ W.dx _ _ ⟨a_,O.ob.1,T.jk,T.yq,Jx,xa0 W.ch _ ⟨a_,.inl (af.of O.ch.1),a_,qD _,_,a_,?_⟩⟩⟩⟩;rw[m_ a_,jL,i? oc];refine w4 ?_;refine⟨_,a_,xa1 W.x W.dx _ ⟨a_,O.ob.1,zq,_,a_,xa5 Z id W Y h B ⟨a_,O,ek,λk A' dk R=>?_⟩⟩⟩;obtain⟨dW,xs,hw,pw⟩:=O.wy;refine⟨_,a_,xa3 W.x _ W.dx _ _ ⟨a_,O.ob.1,T.jk,T.qz,qJ,.inl ⟨a_,_,af.of hw⟩,_,a_,_,a_,oq,λp np=>?_⟩⟩;have sp:=jh (o:=.tup [.str "order",.int h,.ref q]) np;have lx:xs.length<=1000000:=by rw[q? pw];omega
 refine(xa1 W.wy xs (.ref p) ⟨a_,a_,sp _ _ hw,big lx,?_⟩);have O1:=O.fr (P:=λ_=>w?) (λ_ z=>z) (Fr.same sp);have bK:=kr.same sp;have f2:Fr (fB id .wy) Z (upd H p (.tup [.str "order",.int h,.ref q])) Z (upd (upd H p (.tup [.str "order",.int h,.ref q])) W.wy (.lst (xs++[.ref p]))):=Fr.put dW a_;have f0:Fr (fB id .wy) Z H Z (upd H p (.tup [.str "order",.int h,.ref q])):=Fr.same sp;refine g _ (O1.but f2 _ jy a_ a_ (gK f2 jy (λ_ _=>jy)) (iJ f2 jy jy jy) (mx f2 jy (λ_=>jy)) (λ_ _=>⟨dW,_,ja,?_⟩)) (f0.trans f2) bK.put;have jO:=kr.none np;refine qk (Paired.gy pw λ_ _=>bZ.fr (f0.trans f2)) (xa0 p q ⟨a_,jO,?_,uq.fr (f0.trans f2)⟩);rw[jd (BC jO dW),ja];rfl
theorem jxc {α β:Type}{F:α->β->Prop}{xs:b? α}{ys:b? β}{j:i_}(h:h_ F xs ys):h_ F (xs.eraseIdx j) (ys.eraseIdx j):=Ju h
structure xQ (B:Kp)(m:i_):Prop where
 hd:B.ug.length<=m
 uc:B.aA.length+B.cho.length<=m
 dw:B.done.length+B.wait.length<=m
theorem jt9 (T:Txt K mg t):zv P w K mg base CX0 8 t.Hc t.Hd ["self","at"] (λvs H Q _=>∃Z id W Y i l B a b c,vs=[.ref W.x,.int (i:i_)]/\qp t H Z id W Y/\ay Z H/\Y.way[i]?=some l/\Y.keep l.2.1=some B/\(Y.ks.map (·.1)).Nodup/\B.Ok Y.n/\Y.n<=8/\zc Y.n l.2.2=true/\xQ B 900/\Sz Y a b c/\a+(B.take l.1 l.2.2).2.length<=1000/\b+(B.take l.1 l.2.2).2.length<=1000/\c+16*(B.take l.1 l.2.2).2.length<=100000/\∀Z' H' x,qp t H' Z' id W (Y.xK i l B)->Fr (λr=>r.1=id) Z H Z' H'->ay Z' H'->bZ H' Z' x l->Q x H'):=by
 refine T.jpo.bF wu λ_ A _ s H vs Q E hr h=>?_;obtain⟨Z,id,W,Y,i,l,B,a,b,c,rfl,O,kr,el,ek,nd,ag,n8,ho,lq,sz,la,lb,lc,g⟩:=h;refine⟨_,(@jb _ _ _ _ _ (zf (xq (ze (jm (qx T) hr.dn a_ T.za T.qq.kp T.zb .nil jl (@cq _ _ _ _ _ _ _ (pv 1) jn (xx kF (jo jw a_ T.cC boot_len (jc (j3 (pv 0) a_) jf)) jn) a_ a_ a_)))) ql j9) (@jb _ _ _ _ _ (j7 (i:=2) wu.nd a_ (o_ a_) (fq B? acx PySem.F.type_list_pop UX (j3 (pv 0) a_) (jc (pv 1) jf))) (@jb _ _ _ _ _ (iP (pv 2) (kD a_ (ju (jr (i:=3) wu.nd a_ (o_ a_)) (ju (jr (i:=4) wu.nd a_ (o_ a_)) (ju (jr (i:=5) wu.nd a_ (o_ a_)) iO))))) (@jb _ _ _ _ _ (j7 (i:=6) wu.nd a_ (o_ a_) (MF (fM hr) (j3 (pv 0) a_) (pv 4) (λ_ _=>a_))) (@jb _ _ _ _ _ (zf (jz fH (pv 3) (zk (v:=.str "order") a_ T.Ja.choose_spec ⟨_,a_⟩) (qe _)) (@je _ _ _ (qb (j8 (pv 0) T.jk T.vc (JF T) hr.dn T.w9 .nil jl (@y6 _ _ _ _ _ (pv 4) (j8 (pv 6) T.jq T.jk4 (js7 T) hr.dn T.jmy .nil jl (jc (pv 5) jf)) a_ a_)))) (@je _ _ _ (qb (j8 (pv 0) T.jk T.vc (JF T) hr.dn T.w9 .nil jl (@y6 _ _ _ _ _ (pv 4) (j8 (pv 6) T.jq T.jco (jkp T) hr.dn T.jd9 .nil jl (jc (pv 5) jf)) a_ a_))))) (@je _ _ _ (jv (pv 2)))))))),?_⟩;obtain⟨dW,xs,hw,pw⟩:=O.wy;have lx:xs.length=Y.way.length:=q? pw;have hi:=(l?.mp el).1;have wl:=sz.wy;refine⟨_,a_,_,a_,xa3 W.x _ W.dx _ _ ⟨a_,O.ob.1,T.jk,T.qz,qJ,xa0 W.wy xs ⟨a_,.inl (af.of hw),xa0 _ _ ⟨a_,a_,xa1 (i:f?) 0 ((xs.length:f?)-1) ⟨a_,_,a_,?_⟩⟩⟩⟩⟩;rw[i? (show 0<=(i:f?)/\(i:f?)<=(xs.length:f?)-1 by omega)];refine w4 ?_;obtain⟨x,ex,ux⟩:=AJ pw el;refine⟨_,a_,xa3 W.x _ W.dx _ _ ⟨a_,O.ob.1,T.jk,T.qz,qJ,.inl ⟨a_,_,af.of hw⟩,_,a_,xa3 W.wy xs (i:f?) i x ⟨a_,a_,hw,by omega,by omega,?_,ex,?_⟩⟩⟩
 .unfold acp;simp;omega
 have f1:Fr (fB id .wy) Z H Z (upd H W.wy (.lst (xs.eraseIdx i))):=Fr.put dW a_;have O1:qp t (upd H W.wy (.lst (xs.eraseIdx i))) Z id W {Y with way:=Y.way.eraseIdx i}:=O.but f1 _ jy a_ a_ (gK f1 jy (λ_ _=>jy)) (iJ f1 jy jy jy) (mx f1 jy (λ_=>jy)) (λ_ _=>⟨dW,_,ja,jxc (Paired.gy pw λ_ _=>bZ.fr f1)⟩);have bK:=kr.put (a:=W.wy) (o:=.lst (xs.eraseIdx i));have QD:=ux.fr f1;generalize upd H W.wy (.lst (xs.eraseIdx i))=H1 at f1 O1 bK QD;obtain⟨la',q,rfl,nl,hl,uq⟩:=QD;refine⟨_,a_,xa0 la' _ ⟨a_,az.of hl,a_,xa0 _ _ ⟨a_,xa0 _ _ ⟨a_,xa0 _ _ ⟨a_,a_,?_⟩⟩⟩⟩⟩;obtain⟨rk,kvs,hk,ks⟩:=O1.kd;obtain⟨k,A',dk,ev,R⟩:=Qx ks ek;refine⟨_,a_,xa3 W.x _ W.dx _ _ ⟨a_,O1.ob.1,T.jk,T.zt,xJ,_,a_,xa0 W.kd (.ref k) ⟨a_,.inl (xa0 kvs (.inl l.2.1) ⟨.inl hk,a_,ev.symm⟩),?_⟩⟩⟩;obtain⟨wb,h,o⟩:=l;cases wb with
 |true=>
  refine⟨_,a_,a_,_,a_,bA ?_⟩;refine⟨_,a_,xa1 W.x W.dx _ ⟨a_,O1.ob.1,zq,_,a_,_,a_,xa1 k dk _ ⟨a_,R.ob,fZ A',_,a_,xb1 Z id h k A' dk B Y.n q o ⟨a_,R,uq,ag,n8,ho,lq.hd,lq.uc,lq.dw,bK,λ Z2 H2 A2 r ys R2 f2 bW rr fE pr=>?_⟩⟩⟩⟩;have O2:=O1.Qy f2 nd (λbD i9=>by rw[hk]at i9;cases i9;exact ev) R2;have z2:Sz {{Y with way:=Y.way.eraseIdx i}with ks:=cF Y.ks h (Kp.ox B o).1} a b c:=⟨sz.bd,sz.hs,P_ (ō _ _) sz.wy,by show(cF _ _ _).length<=16;rw[sH];exact sz.ks⟩;refine(xb2 Z2 id W _ h r ys ((Kp.ox B o).2) a b c ⟨a_,O2,bW,fE,λro e=>?_,pr,z2,la,lb,lc,λ Z3 H3 O3 f3 iI=>?_⟩)
  .rw[rr]at e;cases e;exact qL (by intro z;cases z) (by intro z;cases z) (by intro z;cases z)
  .have fr:Fr (λr=>r.1=id) Z H Z3 H3:=((f1.mono λr hr=>by rw[hr]).trans (f2.mono λr ⟨j,hr⟩=>by rw[hr])).trans (f3.mono λr hr=>by rcases hr with hr|hr|hr<;>rw[hr]);exact⟨_,a_,g Z3 H3 _ O3 fr iI (bZ.fr fr ux)⟩
 |false=>
  refine⟨_,a_,a_,_,a_,w4 ?_⟩;refine⟨_,a_,xa1 W.x W.dx _ ⟨a_,O1.ob.1,zq,_,a_,_,a_,xa1 k dk _ ⟨a_,R.ob,fZ A',_,a_,xb1 Z id h k A' dk B Y.n q o ⟨a_,R,uq,ag,n8,ho,lq.hd,lq.uc,lq.dw,bK,λ Z2 H2 A2 r ys R2 f2 bW rr fE pr=>?_⟩⟩⟩⟩;have O2:=O1.Qy f2 nd (λbD i9=>by rw[hk]at i9;cases i9;exact ev) R2;have z2:Sz {{Y with way:=Y.way.eraseIdx i}with ks:=cF Y.ks h (Kp.jN B o).1} a b c:=⟨sz.bd,sz.hs,P_ (ō _ _) sz.wy,by show(cF _ _ _).length<=16;rw[sH];exact sz.ks⟩;refine(xb2 Z2 id W _ h r ys ((Kp.jN B o).2) a b c ⟨a_,O2,bW,fE,λro e=>?_,pr,z2,la,lb,lc,λ Z3 H3 O3 f3 iI=>?_⟩)
  .rw[rr]at e;cases e;exact qL (by intro z;cases z) (by intro z;cases z) (by intro z;cases z)
  .have fr:Fr (λr=>r.1=id) Z H Z3 H3:=((f1.mono λr hr=>by rw[hr]).trans (f2.mono λr ⟨j,hr⟩=>by rw[hr])).trans (f3.mono λr hr=>by rcases hr with hr|hr|hr<;>rw[hr]);exact⟨_,a_,g Z3 H3 _ O3 fr iI (bZ.fr fr ux)⟩
noncomputable def Kp.sI (B:Kp)(p:f?)(os:b? O):f?:=gI B.held p-((os.filter λo=>!B.past o).map λo=>o.m).sum
theorem jow (T:Txt K mg t):zv P w K mg base CX0 2 t.Gs t.Gu ["self","purse","orders"] (λvs H Q _=>∃Z id h k A dk B n p r xs os,vs=[.ref k,.int p,.ref r]/\xw t H Z id h k A dk B/\B.Ok n/\0<=p/\p<(n:f?)/\H r=some (.lst xs)/\h_ (xt H Z) xs os/\(∀o∈os,zc (n:i_) o=true)/\os.length<=1000/\∀H',x8 H H'->Q (.int (B.sI p os)) H'):=by
 refine T.jh0.aW (N:=["self","purse","orders"]) λ_ A _ s H vs Q E hr h=>?_;obtain⟨Z,id,h,k,A',dk,B,n,p,r,xs,os,rfl,R,ag,p0,p1,hx,px,ho,ll,g⟩:=h;refine⟨_,(@je _ _ _ (jv (xx kF (gb yr (j3 (pv 0) a_) (pv 1) (λ_ _=>a_)) (jo (MZ a_) a_ T.P8 boot_sum (jc (kJ (N':=["order","self"]) (ix:=[none,some 0]) (xr (by kernel_rfl)) a_ (@pz _ _ _ _ (pv 2)) (λ_ _ _ _=>(jr (i:=0) ZN a_ (o_ a_) (.inr a_))) (λ_ _ _ _=>(rO (xq (ze (j8 (pv 1) T.jq T.w6 (Jo T) hr.dn T.gw .nil jl (jc (pv 0) jf)))))) (λ_ _ _ _=>(gb (Nw (K:=K) a_) (pv 0) jn (λ_ _=>a_)))) jf))))),?_⟩;have e:=jM (xs:=B.held) p0 (by rw[ag.h];exact p1);refine⟨_,a_,xa3 k _ dk _ _ ⟨a_,R.ob,T.jq,T.yf,(xp A').1,_,a_,xa2 (A' 1) _ p (.int (gI B.held p)) ⟨a_,a_,af.of R.he,fW p0 (by rw[y_,e];rfl),?_⟩⟩⟩;refine⟨_,a_,r,a_,⟨_,af.of hx⟩,pF (K:=K) (a:=r) (xs:=xs) (λi ys U H'=>∃v,U=[v,some (.ref k)]/\H'=H/\ys=(((os.take i).filter λo=>!B.past o).map λo=>o.m).map V.int) ⟨none,a_,a_,a_⟩ ?_ ?_ ?_⟩
 .rintro i ys U H' hi ⟨v,rfl,rfl,rfl⟩
  refine⟨af.of hx,iG ?_⟩;rw[g_,g_];refine P_ (ê _ _) ?_;rw[Ñ];omega
 .rintro i x ys U H' ex ⟨v,rfl,rfl,rfl⟩
  obtain⟨o,eo,uo⟩:=qo px ex;obtain⟨q,rfl,hq⟩:=uo.ref;have om:o∈os:=u_ eo;refine⟨_,a_,xa1 k dk _ ⟨a_,R.ob,fZ A',_,a_,xb1 Z id h k A' dk B n q o ⟨a_,R,hq,ho o om,ag.x,_,a_,?_⟩⟩⟩;rw[take_snoc eo,ı,K_,K_];cases hp:B.past o with
  |true=>refine w4 ⟨_,a_,a_,?_⟩;simp[hp]
  |false=>refine bA ⟨_,a_,xa2 q (bO o) 3 (.int o.m) ⟨a_,a_,az.of hq,a_,_,a_,a_,?_⟩⟩;simp[hp]
 .rintro ys U H' ⟨v,rfl,rfl,rfl⟩ l nl
  rw[q? px,Z_];refine(xa0 l _ ⟨a_,af.of ja,xa0 _ _ ⟨a_,a_,g _ (jh nl)⟩⟩)
noncomputable def Wd.carried (Y:Wd)(o:O):o?:=s? (Y.en<=((jx Y.bd (yh o)).length:f?))
theorem j85 {ns:b? f?}{M:f?}(h1:M∈ns)(h2:∀a∈ns,a<=M):ns.max?=some M:=b?.max?_eq_some_iff.mpr ⟨h1,h2⟩
noncomputable def Wd.asks (Y:Wd)(o:O)(row:b? O):Wd:=Wd.post {Y with asked:=Y.asked.set o.p.toNat (row++[o])} true o
theorem qa9 {a:c_}{o:L?}{kvs:b? (Key×V)}{g:TG}{ti:TT}{te:TE}{U0:St}{H0:Hp}{Q:VK}(Pv:i_->b? V->St->Hp->Prop)(h0:Pv 0 [] U0 H0)(hl:∀i ys U H,i<=kvs.length->Pv i ys U H->H a=some (.aB o (.dK kvs))/\ys.length<=k_)(hs:∀i kv ys U H,kvs[i]?=some kv->Pv i ys U H->g kv.2 U H λ U2 H2=>ti U2 H2 λc H3=>if c=true then te U2 H3 λy H4=>Pv (i+1) (ys++[y]) U2 H4 else Pv (i+1) ys U2 H3)(hd:∀ys U H,Pv kvs.length ys U H->∀p,H p=none->Q (.ref p) (upd H p (.lst ys))):∃W:i_->i_->b? V->St->Hp->Prop,(∃m,W 0 m [] U0 H0)/\∀i m ys U H,W i m ys U H->ys.length<=k_/\(((uY a o kvs).stop i H/\rP Q ys H)\/((uY a o kvs).go i H/\∃N:b? V->St->Hp->Prop,(∀br U' H',N br U' H'->∃m',m'<m/\W (i+1) m' br U' H')/\∀x H',(uY a o kvs).dJ i H x H'->g x U H' λ U2 H2=>ti U2 H2 λb H3=>if b=true then te U2 H3 λy H4=>N (ys++[y]) U2 H4 else N ys U2 H3)):=by
 refine⟨λi m ys U H=>m=kvs.length-i/\i<=kvs.length/\Pv i ys U H,⟨kvs.length,by simp,T? _,h0⟩,?_⟩
 rintro i m ys U H ⟨rfl,hi,p⟩
 obtain⟨q,hz⟩:=hl i ys U H hi p;refine⟨hz,?_⟩;by_cases aw:i<kvs.length
 .refine .inr ⟨⟨aw,q⟩,Pv (i+1),λbr U' H' p'=>⟨kvs.length-(i+1),by lia,a_,aw,p'⟩,λx H' y=>?_⟩;obtain⟨e,kv,ek,ex⟩:=y;subst e ex;exact hs i kv ys U _ ek p
 .have e:i=kvs.length:=by lia
  subst e;exact .inl ⟨⟨r_ _,q⟩,hd ys U H p⟩
theorem j7p {H:Hp}{Z:aq}{xs:b? V}{os:b? O}{o:O}(p:h_ (xt H Z) xs os)(e:os.getLast?=some o):∃x,mZ xs (-1)=some x/\xt H Z x o:=by rw[b?.getLast?_eq_getElem?]at e;obtain⟨x,ex,u⟩:=AJ p e;have l:=q? p;have lt:=(l?.mp e).1;refine⟨x,?_,u⟩;unfold mZ mY;rw[j? (by decide),m_ (by lia)];show xs[(-1+(xs.length:f?)).toNat]?=some x;rw[show(-1+(xs.length:f?)).toNat=os.length-1 by lia];exact ex
structure Wd.Ok (Y:Wd):Prop where
 n8:Y.n<=8
 al:Y.asked.length=Y.n
 ao:∀row∈Y.asked,(∀o∈row,zc Y.n o=true)
 ks:∀c∈Y.ks,c.2.Ok Y.n
 nd:(Y.ks.map (·.1)).Nodup
 k0:0<Y.ks.length
 k1:Y.ks.length<=16
noncomputable def j9n (t:Ad):Sp:=λvs H Q E=>∃Z id W Y p g m row,vs=[.ref W.x,.int p,.int g,.int m]/\qp t H Z id W Y/\ay Z H/\Y.Ok/\(0<=p/\p<(Y.n:f?))/\(0<=g/\g<(Y.n:f?))/\g≠p/\(1<=m/\m<=1000)/\Y.asked[p.toNat]?=some row/\row.length<=90/\Y.way.length<=90000/\(p∈Y.eX->∀d H',x8 H H'->E (.ref t.xm) (some d) H')/\(∀o,row.getLast?=some o->Y.carried o=false->∀H',x8 H H'->E (.ref t.jK) none H')/\((∀o,row.getLast?=some o->Y.carried o=true)->∀M,(Y.ks.map λc=>c.2.sI p row).max?=some M->(M<m->∀H',x8 H H'->E (.ref t.vy) none H')/\(m<=M->∀H' q,qp t H' Z id W (Y.asks ⟨p,row.length,g,m⟩ row)->Fr (λr=>r.1=id) Z H Z H'->ay Z H'->xt H' Z (.ref q) ⟨p,row.length,g,m⟩->Q (.ref q) H'))
set_option maxHeartbeats 0 in
theorem QE (T:Txt K mg t) : zv P w K mg base (de P w) 6 t.GX t.GY ["self","purse","goal","much"] (j9n t):=by
 refine T.jrh.Yu Fx λ_ A _ s H vs Q E hr h=>?_
 obtain ⟨Z,id,W,Y,p,g,m,row,rfl,O,kr,ag,hp,hg,ng,hm,eY,JJ,xR,e0,e1,e2⟩:=h
 refine ⟨_,(@jb _ _ _ _ _ (qb (j8 (pv 0) T.jk T.jcs (jko T) hr.dn T.jdy .nil Yt (@y6 _ _ _ _ _ (pv 1) (pv 2) a_ a_)))
  (@jb _ _ _ _ _ (zf (xq (ze (jm (qx T) hr.dn a_ T.za T.qq.kp T.zb .nil jl (@cq _ _ _ _ _ _ _ (pv 3) jn (zk (v:=.int 1000) a_ T.PV.choose_spec ⟨_,a_⟩) a_ a_ a_)))) ql j9)
  (@jb _ _ _ _ _ (j7 (i:=4) Fx.nd a_ (ad0 a_) (gb yr (j3 (pv 0) a_) (pv 1) (λ_ _=>a_)))
  (@jb _ _ _ _ _ (zf (PW.pt (gD (jz tM (jo jw a_ T.cC boot_len (jc (pv 4) jf)) (zk (v:=.int 99) a_ T.PX.choose_spec ⟨_,a_⟩) (qe _)) (gS (PW.pt (kB (L0 (pv 4) (λ_=>a_)) (lJ (xq (ze (j8 (j3 (pv 0) a_) T.yx T.yw (uh T) hr.dn T.vg .nil jl (jc (gb yr (pv 4) (TU TZ jn) (λ_ _=>a_)) jf)))))))))) (@je _ _ _ (NN a_ T.P5 T.jyn (jc gd jf))) j9)
  (@jb _ _ _ _ _ (zf (jz tM (pv 3) (jo (YR a_) a_ T.qar boot_max (jc (Er (kJ (N':=["keeper","purse","asked"]) (ix:=[none,some 1,some 4]) (xr (by kernel_rfl)) a_ (WU (US Ć aaU PySem.F.type_dict_values WR (j3 (pv 0) a_))) (λ_ _ _ _=>(jr (i:=0) ZO a_ (o_ a_) (.inr a_))) (λ_ _ _ _=>lY) (λ_ _ _ _=>(j8 (pv 0) T.jq T.jgg (jow T) hr.dn T.jh2 .nil jl (@y6 _ _ _ _ _ (pv 1) (pv 2) a_ a_))))) jf)) (qe _)) (@je _ _ _ (NN a_ T.P4 T.jxa (jc gd jf))) j9)
  (@jb _ _ _ _ _ (@j7 _ _ 5 _ _ _ _ Fx.nd a_ (o_ a_) (@iU _ _ _ _ _ (@Ot _ _ _ _ _ _ _ _ _ (pv 1) (jo jw a_ T.cC boot_len (jc (pv 4) jf)) (pv 2) (pv 3) a_ a_ a_ a_)) (by rfl) (by first | exact .inl a_ | exact .inr rfl))
  (@jb _ _ _ _ _ (qb (fq B? E_ F_ y8 (pv 4) (jc (pv 5) jf)))
  (@jb _ _ _ _ _ (qb (j8 (pv 0) T.jk T.we (Qu T) hr.dn T.gg .nil jl (@y6 _ _ _ _ _ (zk (v:=.str "order") a_ T.Ja.choose_spec ⟨_,a_⟩) (pv 5) a_ a_)))
  (@je _ _ _ (jv (pv 5))))))))))),?_⟩
 obtain ⟨ra,rs,ha,fb⟩:=O.ak
 obtain ⟨r,er⟩ : ∃ r,rs[p.toNat]? = some r:=⟨_,u? (by rw [fb.1]; exact (l?.mp eY).1)⟩
 obtain ⟨rr,xs,ig,px⟩:=fb.2 _ _ _ er eY
 obtain ⟨rk,kvs,QG,QH⟩:=O.kd
 have lk:kvs.length = Y.ks.length:=q? QH
 have lx:xs.length = row.length:=q? px
 refine fY λN hN=>⟨_,a_,xa1 W.x W.dx _ ⟨a_,O.ob.1,zq,_,a_,_,a_,xa5 Z id W Y p g ⟨a_,O,hp,hg,ng,e0,λnc=>?_⟩⟩⟩
 refine hN _ _ (fY λN hN=>⟨_,a_,xa1 m 1 1000 ⟨a_,_,a_,?_⟩⟩)
 rw [i? hm]
 refine w4 ?_
 refine hN _ _ (fY λN hN=>⟨_,a_,xa3 W.x _ W.dx _ _ ⟨a_,O.ob.1,T.jk,T.Jd,Qq,_,a_,xa2 W.ak _ p (.ref r) ⟨a_,a_,af.of ha,fW hp.1 (by rw [y_,er]; rfl),?_⟩⟩⟩)
 refine hN [some (.ref W.x),some (.int p),some (.int g),some (.int m),some (.ref r),none] _ (fY λN hN=>⟨_,a_,xa0 r xs ⟨a_,.inl (af.of ig),xa0 _ _ ⟨a_,a_,_,a_,bj (λz=>w_ (n? z) (by show ¬ (99:f?) < (xs.length:f?); omega)) (λ_=>?_)⟩⟩⟩)
 refine' (λkey=>_:(∀ HC,x8 H HC -> (∀ o,row.getLast? = some o -> Y.carried o = true) -> (_:Hp -> Prop) HC) -> _) _
 rotate_left
 .cases fc:row.getLast?
  case some o=>
   obtain ⟨x,ex,ux⟩:=j7p px fc
   have x0:(!xs.isEmpty) = true:=by
    cases xs with
    | nil=>cases ex
    | cons _ _=>rfl
   refine ⟨_,a_,true,.inl ⟨_,af.of ig,x0.symm⟩,bA ?_⟩
   obtain ⟨q0,rfl,qG⟩:=ux.ref
   obtain ⟨rb,rS,xN,Bq,sg⟩:=O.bd
   refine ⟨_,a_,xa3 W.x _ W.dx _ _ ⟨a_,O.ob.1,T.jk,T.va,BG,xa1 W.bd W.db _ ⟨a_,Bq.ob,xC _ _ (by decide +kernel) (by decide +kernel),_,a_,_,a_,xa2 r xs (-1) (.ref q0) ⟨a_,a_,af.of ig,ex,xa9 W.bd W.db W.S Y.en xN (bP Y.bd) q0 (cE o) ⟨a_,Bq.rd,qG,λHC lB=>⟨_,a_,?_⟩⟩⟩⟩⟩⟩
   have ec:s? (Y.en <= ((qm (bP Y.bd) (cE o)).length:f?)) = Y.carried o:=by
    unfold Wd.carried
    rw [show qm (bP Y.bd) (cE o) = jx Y.bd (yh o) from xM (yh o) Y.bd]
   rw [ec]
   cases hc : Y.carried o with
   | false=>exact bA ⟨oh,e1 o fc hc _ lB⟩
   | true=>
    refine w4 ?_
    have jQ : ∀ o',row.getLast? = some o' -> Y.carried o' = true:=λo' e=>by rw [fc] at e; cases e; exact hc
    exact key HC lB jQ
  case none=>
   have e0:row = []:=b?.getLast?_eq_none_iff.mp fc
   have x0:xs = []:=Ŏ.mp (by rw [lx,e0]; rfl)
   refine ⟨_,a_,false,.inl ⟨_,af.of ig,by rw [x0]; rfl⟩,w4 ?_⟩
   have jQ : ∀ o,row.getLast? = some o -> Y.carried o = true:=λo e=>by rw [fc] at e; cases e
   exact key H (x8.refl _) jQ
 .rintro HC lB jQ
  have OC:=O.fr (P:=λ_=>w?) (λ_ z=>z) (Fr.same lB)
  have kd:=lB _ _ QG
  have ksR:ym t HC Z id kvs Y.ks:=ym.fr (P:=λ_=>w?) (Fr.same lB) (λ_ _ z=>z) QH
  have hrC:=lB _ _ ig
  have pxC:h_ (xt HC Z) xs row:=Paired.gy px λ_ _=>xt.fr (P:=λ_=>w?) (Fr.same lB)
  refine hN _ _ (fY λN hN=>⟨_,a_,_,a_,xa3 W.x _ W.dx _ _ ⟨a_,OC.ob.1,T.jk,T.zt,xJ,.inr (.inr (.inl ⟨a_,.inl ⟨_,kd⟩⟩)),xa0 W.kd kvs ⟨a_,a_,kd,λvw hvw=>?_⟩⟩⟩)
  have sv:=jh (o:=kQ vw W.kd) hvw
  have BK:=sv _ _ kd
  have QI:ym t (upd HC vw (kQ vw W.kd)) Z id kvs Y.ks:=ym.fr (P:=λ_=>w?) (Fr.same sv) (λ_ _ z=>z) ksR
  have su:=sv _ _ hrC
  have sJ:h_ (xt (upd HC vw (kQ vw W.kd)) Z) xs row:=Paired.gy pxC λ_ _=>xt.fr (P:=λ_=>w?) (Fr.same sv)
  have gv:upd HC vw (kQ vw W.kd) vw = some (kQ vw W.kd):=ja
  generalize upd HC vw (kQ vw W.kd) = H1 at sv BK QI gv su sJ
  refine (xa1 vw W.kd kvs ⟨a_,gv,BK,λoo=>qa9 (λi' ys U H'=>∃ v0,U = [v0,some (.int p),some (.ref r)] /\ x8 (upd H1 W.kd (.aB oo (.dK kvs))) H' /\ ys = ((Y.ks.take i').map λc=>c.2.sI p row).map V.int) ⟨none,a_,x8.refl _,a_⟩ ?_ ?_ ?_⟩)
  .rintro i' ys U H' hi ⟨v0,rfl,sm,rfl⟩
   refine ⟨sm _ _ ja,iG ?_⟩
   rw [g_,g_,Ñ]
   have:=ag.k1
   omega
  .rintro i' kv ys U H' ek ⟨v0,rfl,sm,rfl⟩
   obtain ⟨c,ec,e1,kk,A',dk,e2,R⟩:=qo QI ek
   have cm:c ∈ Y.ks:=u_ ec
   rw [e2]
   have fz:Fr (fB id .kd) Z H1 Z H':=(Fr.put rk a_:Fr (fB id .kd) Z H1 Z (upd H1 W.kd (.aB oo (.dK kvs)))).trans (Fr.same sm)
   have R':=R.fr (λf=>jy) fz
   have fE:=(dq fz su rr jy).1
   have JK:h_ (xt H' Z) xs row:=Paired.gy sJ λ_ _=>xt.fr fz
   dsimp only [dI,pC]
   rw [m_ a_]
   refine ⟨_,a_,xa1 kk dk _ ⟨a_,R'.ob,fZ A',_,a_,_,a_,xb3 Z id c.1 kk A' dk c.2 Y.n p r xs row ⟨a_,R',ag.ks c cm,hp.1,hp.2,fE,JK,ag.ao row (u_ eY),by omega,λqF bU=>⟨_,a_,sm.trans bU,?_⟩⟩⟩⟩
   rw [take_snoc ec,K_,K_]
   rfl
  .rintro ys U H' ⟨v0,rfl,sm,rfl⟩ L nL
   rw [lk,Z_]
   have qN:=sm _ _ (ja (H:=H1) (a:=W.kd) (o:=.aB oo (.dK kvs)))
   have LD:L ≠ W.kd:=(jg qN nL).symm
   have SF:x8 HC (upd (upd H' L (.lst ((Y.ks.map λc=>c.2.sI p row).map V.int))) W.kd (.dK kvs)):=λc u hc=>by
    have h1:=sv _ _ hc
    by_cases z:c = W.kd
    .subst z
     rw [BK] at h1
     rw [ja,h1]
    .have kA:H' c = some u:=sm _ _ (by rw [jd z]; exact h1)
     rw [jd z,jd (jg kA nL)]
     exact kA
   refine (xa1 W.kd oo (.dK kvs) ⟨(by rw [jd LD.symm]; exact qN),λo' u' z=>?_,xv,xa0 L (Y.ks.map λc=>c.2.sI p row) ⟨a_,af.of (by rw [jd LD]; exact ja),(by rw [g_]; exact ag.k0),λM hM hA=>?_⟩⟩)
   .have z':H W.kd = some (.aB o' u'):=z
    rw [QG] at z'
    cases z'
   obtain ⟨eM,qM⟩:=e2 jQ M (j85 hM hA)
   refine (xa0 _ _ ⟨a_,a_,_,a_,bj (λz=>?_) (λz=>?_)⟩)
   .exact ⟨oh,eM (n? z) _ (lB.trans SF)⟩
   .have z' : m <= M:=by
     have : ¬ M < m:=λy=>z (i? y)
     omega
    have sG:=lB.trans SF
    generalize upd (upd H' L (.lst ((Y.ks.map λc=>c.2.sI p row).map V.int))) W.kd (.dK kvs) = G at SF sG
    have OG:=O.fr (P:=λ_=>w?) (λ_ z=>z) (Fr.same sG)
    have QJ:=kr.same sG
    have QK:=sG _ _ ig
    have pxG:h_ (xt G Z) xs row:=Paired.gy px λ_ _=>xt.fr (P:=λ_=>w?) (Fr.same sG)
    refine hN _ _ (fY λN hN=>⟨_,a_,_,a_,xa0 r xs ⟨a_,.inl (af.of QK),_,a_,_,a_,Oo,λq nq=>?_⟩⟩)
    have eo : [V.int p,.int xs.length,.int g,.int m] = bO ⟨p,row.length,g,m⟩:=by rw [lx]; rfl
    rw [eo]
    have s1:=jh (o:=.tup (bO ⟨p,row.length,g,m⟩)) nq
    have O1:=OG.fr (P:=λ_=>w?) (λ_ z=>z) (Fr.same s1)
    have bK:=QJ.same s1
    have qO:=s1 _ _ QK
    have xT:h_ (xt (upd G q (.tup (bO ⟨p,row.length,g,m⟩))) Z) xs row:=Paired.gy pxG λ_ _=>xt.fr (P:=λ_=>w?) (Fr.same s1)
    have oy:xt (upd G q (.tup (bO ⟨p,row.length,g,m⟩))) Z (.ref q) ⟨p,row.length,g,m⟩:=⟨q,a_,QJ.none nq,ja⟩
    dsimp only
    generalize upd G q (.tup (bO ⟨p,row.length,g,m⟩)) = G1 at s1 O1 bK qO xT oy
    refine hN _ _ (fY λN hN=>⟨_,a_,.inl ⟨a_,_,af.of qO⟩,_,a_,xa1 r xs (.ref q) ⟨a_,a_,qO,zm (by omega),?_⟩⟩)
    have f2:Fr (fB id (.row p.toNat)) Z G1 Z (upd G1 r (.lst (xs ++ [.ref q]))):=Fr.put rr a_
    have O2 : qp t (upd G1 r (.lst (xs ++ [.ref q]))) Z id W { Y with asked:=Y.asked.set p.toNat (row ++ [⟨p,row.length,g,m⟩]) }:=by
     refine O1.but f2 _ jy a_ a_ (gK f2 jy (λ_ _=>jy)) (iJ f2 jy jy jy) (λJA Jz=>?_) (JB f2 jy)
     obtain ⟨QL,h1,h2⟩:=Jz
     have eq':QL = rs:=by
      have h3:=s1 _ _ (sG _ _ ha)
      rw [h1] at h3
      have h4:=HO.lst.inj (s_ h3)
      exact (ads (λa b e=>V.ref.inj e)).mp h4
     subst eq'
     obtain ⟨h5,r5⟩:=dq f2 h1 JA jy
     refine ⟨r5,QL,h5,?_,λi r' os JL gG=>?_⟩
     .rw [Ź]
      exact h2.1
     .by_cases z:i = p.toNat
      .subst z
       have:r' = r:=by
        rw [er] at JL
        exact (s_ JL).symm
       subst this
       have lt:=(l?.mp eY).1
       rw [Y_ lt] at gG
       cases gG
       exact ⟨rr,_,ja,qk (Paired.gy xT λ_ _=>xt.fr f2) (oy.fr f2)⟩
      .rw [ø (λy=>z y.symm)] at gG
       obtain ⟨q1,q2,q3,q4⟩:=h2.2 i r' os JL gG
       obtain ⟨q5,q6⟩:=dq f2 q3 q1 (jy (by intro y; cases y; exact z a_))
       exact ⟨q6,q2,q5,Paired.gy q4 λ_ _=>xt.fr f2⟩
    have bW:=bK.put (a:=r) (o:=.lst (xs ++ [.ref q]))
    have sD:=oy.fr f2
    dsimp only
    generalize upd G1 r (.lst (xs ++ [.ref q])) = G2 at f2 O2 bW sD
    refine hN _ _ (fY λN hN=>⟨_,a_,xa1 W.x W.dx _ ⟨a_,O2.ob.1,zq,_,a_,xa6 Z id W _ true q ⟨p,row.length,g,m⟩ ⟨a_,O2,bW,sD,by show Y.way.length <= 100000; omega,ag.k1,λG3 O3 f3 iI=>hN _ _ ⟨_,a_,?_⟩⟩⟩⟩)
    have fr:Fr (λr=>r.1 = id) Z H Z G3:=((Fr.same (sG.trans s1)).trans (f2.mono λr hr=>by rw [hr])).trans (f3.mono λr hr=>by rw [hr])
    exact qM z' G3 q O3 fr iI (sD.fr f3)
noncomputable def vk (K:e?)(H:Hp)(a:c_)(ks:b? f?):Prop:=H a=some (.lst (ks.map V.int))\/(ks=[]/\az K H a [])
noncomputable def j3z (K:e?):Sp:=λvs H Q _=>∃a b ks,vs=[.ref a,.int b]/\vk K H a ks/\ks.Pairwise (·<·)/\(∀k∈ks,0<=k/\k<b)/\Q (.bl true) H
theorem juf (T:Txt K mg t):zv P w K mg base CX0 3 t.FL t.FN ["things","bound"] (j3z K):=by
 refine T.OK.bF Bi λ_ A _ s H vs Q E hr h=>?_;obtain⟨a,b,ks,rfl,hc,up,rg,k⟩:=h;refine⟨_,(@jb _ _ _ _ _ (j7 (i:=2) Bi.nd a_ (o_ a_) jn) (@jb _ _ _ _ _ (iR ú a_ (X0 (pv 0)) (jr (i:=3) Bi.nd a_ (o_ a_)) (@jb _ _ _ _ _ (zf (xq (ze (jm (qx T) hr.dn a_ T.za T.qq.kp T.zb .nil jl (@cq _ _ _ _ _ _ _ (pv 3) (pv 2) (xx kF (pv 1) jn) a_ a_ a_)))) (@je _ _ _ (jv dZ)) j9) (@je _ _ _ (j7 (i:=2) Bi.nd a_ (o_ a_) (xx gU (pv 3) jn))))) (@je _ _ _ (jv dZ)))),?_⟩;rcases hc with ha|⟨rfl,ha⟩
 .refine .inl ⟨_,a_,a,a_,⟨_,af.of ha⟩,oU (K:=K) (a:=a) (xs:=ks.map V.int) (λi U H'=>∃v l,U=[some (.ref a),some (.int b),some (.int l),v]/\H'=H/\∀z∈ks.drop i,l<=z) (xa0 none 0 ⟨a_,a_,λz hz=>(rg z hz).1⟩) (λi U H' _ ⟨_,_,_,e,_⟩=>af.of (by rw[e];exact ha)) ?_ ?_⟩
  .rintro i x U H' hx ⟨v,l,rfl,rfl,hl⟩
   obtain⟨z,ez,rfl⟩:∃z,ks[i]?=some z/\x= .int z:=by
    rw[y_]at hx;cases e:ks[i]? with
    |none=>rw[e]at hx;cases hx
    |some z=>rw[e]at hx;exact⟨z,a_,(s_ hx).symm⟩
   obtain⟨hi,QM⟩:=l?.mp ez;have r:=rg z (u_ ez);have lz:l<=z:=hl z (by rw[ab4 hi,QM];simp);refine⟨_,a_,_,a_,_,a_,xa0 _ _ ⟨a_,a_,xa1 _ _ _ ⟨a_,?_⟩⟩⟩;rw[i? ⟨lz,(by omega:z<=b-1)⟩];refine⟨_,a_,w4 ?_⟩;refine⟨_,a_,xa0 _ _ ⟨a_,a_,xa0 _ _ ⟨a_,a_,λy hy=>?_⟩⟩⟩;obtain⟨j,hj,e⟩:=Ý.mp hy;rw[ad4]at hj;rw[b?.getElem_drop]at e;have:=ĵ.mp up i (i+1+j) hi (by omega) (by omega);rw[QM,e]at this;omega
  .rintro U H' ⟨v,l,rfl,rfl,_⟩
   exact k
 .refine .inr ⟨_,a_,a,a_,⟨_,ha⟩,TN (K:=K) (a:=a) (xs:=[]) (λi U H'=>∃v,U=[some (.ref a),some (.int b),some (.int 0),v]/\H'=H) ⟨none,a_,a_⟩ (λi U H' _ ⟨_,_,e⟩=>by rw[e];exact ha) (λi x U H' hx _=>by simp at hx) ?_⟩
  rintro U H' ⟨v,rfl,rfl⟩
  exact k
theorem QN (T:Txt K mg t):zv P w K mg base CX0 4 t.FO t.FP ["thing","bound"] (λvs H Q _=>∃a b ks,vs=[.ref a,.int b]/\vk K H a ks/\ks.Pairwise (·<·)/\(∀k∈ks,0<=k/\k<b)/\∀H',x8 H H'->Q (.bl true) H'):=by
 refine T.IA.aW (N:=["thing","bound"]) λ_ A _ s H vs Q E hr h=>?_;obtain⟨a,b,ks,rfl,hc,up,rg,k⟩:=h;refine⟨_,(@je _ _ _ (jv (lK (jo XY a_ T.j5 boot_isinstance (@y6 _ _ _ _ _ (pv 0) (@iU _ _ _ _ _ (@y6 _ _ _ _ _ (mR (v:=.ty "list") a_ T.iF boot_list a_) (mR (v:=.ty "tuple") a_ T.P7 boot_tuple a_) a_ a_)) a_ a_)) (mS (jm (juf T) hr.dn a_ T.Z7 T.OK.kp T.Z8 .nil jl (@y6 _ _ _ _ _ (pv 0) (pv 1) a_ a_)))))),?_⟩;refine⟨_,a_,oj,λq hq=>?_⟩;have s1:=jh (o:=.tup [.ty "list",.ty "tuple"]) hq;have QO:vk K (upd H q (.tup [.ty "list",.ty "tuple"])) a ks:=by
  rcases hc with h|⟨e,h⟩
  .exact .inl (s1 _ _ h)
  .refine .inr ⟨e,?_⟩;rcases h with h|h
   .exact .inl (xD s1 h)
   .exact .inr h
 refine⟨a,q,a_,ja,?_,?_⟩
 .rcases QO with h|⟨_,h⟩
  .exact .inl ⟨_,af.of h⟩
  .exact .inr ⟨_,h⟩
 exact⟨_,a_,bA ⟨_,a_,_,a_,a,b,ks,a_,QO,up,rg,k _ s1⟩⟩
theorem vk.same {K:e?}{H H':Hp}{a:c_}{ks:b? f?}(s1:x8 H H')(hc:vk K H a ks):vk K H' a ks:=by
 rcases hc with h|⟨e,h⟩
 .exact .inl (s1 _ _ h)
 .refine .inr ⟨e,?_⟩;rcases h with h|h
  .exact .inl (xD s1 h)
  .exact .inr h
theorem vk.sq {K:e?}{H:Hp}{a:c_}{ks:b? f?}(hc:vk K H a ks):af K H a (ks.map V.int)\/az K H a (ks.map V.int):=by
 rcases hc with h|⟨e,h⟩
 .exact .inl (af.of h)
 .subst e;exact .inr h
theorem jpb (T:Txt K mg t):zv P w K mg base CX0 3 t.FQ t.FR ["thing"] (λvs H Q _=>∃i,vs=[.int i]/\Q (.bl (s? (1<=i/\i<=16))) H):=by refine T.ON.aW (N:=["thing"]) λ_ A _ s H vs Q E hr h=>?_;obtain⟨x,rfl,k⟩:=h;refine⟨_,(@je _ _ _ (jv (jm (qx T) hr.dn a_ T.za T.qq.kp T.zb .nil jl (@cq _ _ _ _ _ _ _ (pv 0) jn (zk (v:=.int 16) a_ T.jn1.choose_spec ⟨_,a_⟩) a_ a_ a_)))),?_⟩;exact⟨_,a_,xa1 x 1 16 ⟨a_,k⟩⟩
theorem j23 (T:Txt K mg t):zv P w K mg base CX0 3 t.FT t.FU ["thing"] (λvs H Q _=>∃i,vs=[.int i]/\Q (.bl (s? (0<=i/\i<=5))) H):=by refine T.OO.aW (N:=["thing"]) λ_ A _ s H vs Q E hr h=>?_;obtain⟨x,rfl,k⟩:=h;refine⟨_,(@je _ _ _ (jv (jm (qx T) hr.dn a_ T.za T.qq.kp T.zb .nil jl (@cq _ _ _ _ _ _ _ (pv 0) jn (zk (v:=.int 5) a_ T.jty.choose_spec ⟨_,a_⟩) a_ a_ a_)))),?_⟩;exact⟨_,a_,xa1 x 0 5 ⟨a_,k⟩⟩
theorem jvx (T:Txt K mg t):zv P w K mg base CX0 1 t.FV t.FW ["houses","few"] (λvs H Q _=>∃h f:f?,vs=[.int h,.int f]/\Q (.bl (s? (h>3*f))) H):=by refine T.OP.aW (N:=["houses","few"]) λ_ A _ s H vs Q E hr h=>?_;obtain⟨i,j,rfl,q⟩:=h;refine⟨_,(@je _ _ _ (jv (gW tM (pv 0) (xx zV jn (pv 1)) (qe _)))),?_⟩;exact⟨_,a_,_,a_,xa0 _ _ ⟨a_,a_,.inl (by decide),xa0 _ _ ⟨a_,a_,q⟩⟩⟩
theorem jxe (T:Txt K mg t):zv P w K mg base CX0 1 t.FX t.FY ["houses","few"] (λvs H Q _=>∃i j:f?,vs=[.int i,.int j]/\Q (.int (i-j)) H):=by refine T.OQ.aW (N:=["houses","few"]) λ_ A _ s H vs Q E hr h=>?_;obtain⟨i,j,rfl,q⟩:=h;refine⟨_,(@je _ _ _ (jv (xx kF (pv 0) (pv 1)))),?_⟩;exact⟨_,a_,_,a_,xa0 _ _ ⟨a_,a_,q⟩⟩
theorem jxy (T:Txt K mg t):zv P w K mg base CX0 3 t.FZ t.F1 ["thing"] (λvs H Q _=>∃a ns,vs=[.ref a]/\H a=some (.lst ((ns:b? f?).map V.int))/\2<=ns.length/\ns.length<=8/\(∀i∈ns,0<=i/\i<=1000)/\∀H',x8 H H'->Q (.bl true) H'):=by
 refine T.OR.aW (N:=["thing"]) λ_ A _ s H vs Q E hr h=>?_;obtain⟨a,ns,rfl,e,l2,l8,rg,k⟩:=h;refine⟨_,(@jb _ _ _ _ _ (zf (PW.pt (gD (xq (ze (jo uN a_ T.j5 boot_isinstance (@y6 _ _ _ _ _ (pv 0) (mR (v:=.ty "list") a_ T.iF boot_list a_) a_ a_)))) (gS (jz rG (jo jw a_ T.cC boot_len (jc (pv 0) jf)) (zk (v:=.int 2) a_ T.jk2.choose_spec ⟨_,a_⟩) (qe _))))) (@je _ _ _ (jv dZ)) j9) (@je _ _ _ (jv (jo (MY a_) a_ T.P9 boot_all (jc (kJ (N':=["each"]) (ix:=[none]) (xr (by kernel_rfl)) a_ (@pz _ _ _ _ (pv 0)) (λ_ _ _ _=>(jr (i:=0) ZP a_ (o_ a_) (.inr a_))) (λ_ _ _ _=>lY) (λ_ _ _ _=>(jm (qx T) hr.dn a_ T.za T.qq.kp T.zb .nil jl (@cq _ _ _ _ _ _ _ (pv 0) jn (zk (v:=.int 1000) a_ T.jh6.choose_spec ⟨_,a_⟩) a_ a_ a_)))) jf))))),?_⟩;refine⟨_,a_,xa2 _ _ _ true ⟨a_,.lst e,a_,_,a_,w4 ?_⟩⟩;refine⟨_,a_,xa0 a _ ⟨a_,.inl (af.of e),xa0 _ _ ⟨a_,a_,_,a_,bj (λh1=>?_) (λh1=>?_)⟩⟩⟩
 .exfalso;have:=n? h1;rw[g_]at this;omega
 refine⟨_,a_,a,a_,⟨_,af.of e⟩,pF (K:=K) (a:=a) (xs:=ns.map V.int) (λi ys U' H'=>∃v,U'=[v]/\H'=H/\ys=(B_ i true).map V.bl) ⟨none,a_,a_,a_⟩ ?_ ?_ ?_⟩
 .rintro i ys U' H' hi ⟨v,rfl,rfl,rfl⟩
  refine⟨af.of e,iG ?_⟩;rw[g_]at hi;rw[g_,Ċ];omega
 .rintro i x ys U' H' hx ⟨v,rfl,rfl,rfl⟩
  obtain⟨z,ez,rfl⟩:∃z,ns[i]?=some z/\x= .int z:=by
   rw[y_]at hx;cases e:ns[i]? with
   |none=>rw[e]at hx;cases hx
   |some z=>rw[e]at hx;exact⟨z,a_,(s_ hx).symm⟩
  dsimp only[dI,pC];rw[m_ a_];refine⟨_,a_,xa1 z 0 1000 ⟨a_,?_⟩⟩;rw[i? (rg z (u_ ez))];refine⟨_,a_,a_,?_⟩;rw[ac0,K_];rfl
 .rintro ys U' H' ⟨v,rfl,rfl,rfl⟩ q hq
  refine(xa0 q (B_ (ns.map V.int).length true) ⟨a_,af.of ja,?_⟩);have g:=k _ (jh (o:=.lst ((B_ (ns.map V.int).length true).map V.bl)) hq);rw[show(B_ (ns.map V.int).length true).all id=true by simp];exact g
theorem QP (T:Txt K mg t):zv P w K mg base CX0 4 t.F8 t.F9 ["thing"] (λvs H Q _=>∃a ns,vs=[.ref a]/\H a=some (.lst ((ns:b? f?).map V.int))/\2<=ns.length/\ns.length<=8/\(∀i∈ns,0<=i/\i<=1000)/\∀H',x8 H H'->Q (.bl true) H'):=by refine T.kn.aW (N:=["thing"]) λ_ A _ s H vs Q E hr h=>?_;obtain⟨a,ns,rfl,e,l2,l8,rg,k⟩:=h;refine⟨_,(@je _ _ _ (jv (lK (jm (jxy T) hr.dn a_ T.jtz T.OR.kp T.jtl .nil jl (jc (pv 0) jf)) (mS (gW tL (jo jw a_ T.cC boot_len (jc (pv 0) jf)) (zk (v:=.int 8) a_ T.jmz.choose_spec ⟨_,a_⟩) (qe _)))))),?_⟩;refine⟨_,a_,xa0 a ns ⟨a_,e,l2,l8,rg,λH1 s1=>⟨_,a_,bA ?_⟩⟩⟩;refine⟨_,a_,xa0 a _ ⟨a_,.inl (af.of (s1 _ _ e)),xa0 _ _ ⟨a_,a_,?_⟩⟩⟩;have g:=k H1 s1;show Q (.bl (s? (((ns.map V.int).length:f?)<=8))) H1;rw[show s? (((ns.map V.int).length:f?)<=8)=true from i? (by rw[g_];omega)];exact g
theorem jr4 (T:Txt K mg t):zv P w K mg base CX0 5 t.Gd t.Ge ["houses","few","liars"] (λvs H Q _=>∃h f a ks,vs=[.int h,.int f,.ref a]/\(1<=h/\h<=16)/\(0<=f/\f<=5)/\3*f<h/\vk K H a ks/\ks.Pairwise (·<·)/\(∀k∈ks,0<=k/\k<h)/\(ks.length:f?)<=f/\∀H',x8 H H'->Q .aj H'):=by
 refine T.OV.aW (N:=["houses","few","liars"]) λ_ A _ s H vs Q E hr h=>?_;obtain⟨h,f,a,ks,rfl,h1,f1,lt,hc,up,rg,l,k⟩:=h;refine⟨_,(@jb _ _ _ _ _ (zf (PW.pt (gD (xq (ze (jm (jpb T) hr.dn a_ T.jia T.ON.kp T.jh4 .nil jl (jc (pv 0) jf)))) (gS (xq (ze (jm (j23 T) hr.dn a_ T.jzv T.OO.kp T.jy4 .nil jl (jc (pv 1) jf))))))) ql j9) (@jb _ _ _ _ _ (zf (xq (ze (xb (jvx T) hr.dn a_ T.jqu T.OP.kp T.jna jl (jc (pv 0) jf) (xc (pv 1) uu)))) ql j9) (@je _ _ _ (zf (PW.pt (gD (xq (ze (jm (QN T) hr.dn a_ T.OL T.IA.kp T.OM .nil jl (@y6 _ _ _ _ _ (pv 2) (pv 0) a_ a_)))) (gS (jz tM (jo jw a_ T.cC boot_len (jc (pv 2) jf)) (pv 1) (qe _))))) ql j9)))),?_⟩;refine⟨_,a_,h,a_,_,a_,?_⟩;rw[i? h1];refine w4 ⟨_,a_,f,a_,_,a_,?_⟩;rw[i? f1];refine w4 ⟨_,a_,_,a_,xa0 h f ⟨a_,_,a_,?_⟩⟩;rw[i? (by omega)];refine w4 ⟨_,a_,_,a_,xa1 a h ks ⟨a_,hc,up,rg,λH1 s1=>⟨_,a_,w4 ?_⟩⟩⟩;refine⟨_,a_,xa0 a _ ⟨a_,(hc.same s1).sq,_,a_,xa0 _ _ ⟨a_,a_,_,a_,bj (λz=>?_) (λ_=>k _ s1)⟩⟩⟩;exfalso;have:=n? z;rw[g_]at this;omega
theorem jsb (T:Txt K mg t):zv P w K mg base CX0 5 t.Gf t.Gg ["sums","cheats"] (λvs H Q _=>∃a ns b ks,vs=[.ref a,.ref b]/\H a=some (.lst ((ns:b? f?).map V.int))/\2<=ns.length/\ns.length<=8/\(∀i∈ns,0<=i/\i<=1000)/\vk K H b ks/\ks.Pairwise (·<·)/\(∀k∈ks,0<=k/\k<(ns.length:f?))/\∀H',x8 H H'->Q .aj H'):=by
 refine T.OW.aW (N:=["sums","cheats"]) λ_ A _ s H vs Q E hr h=>?_;obtain⟨a,ns,b,ks,rfl,e,l2,l8,r1,hc,up,rg,k⟩:=h;refine⟨_,(@jb _ _ _ _ _ (zf (xq (ze (jm (QP T) hr.dn a_ T.OS T.kn.kp T.OT .nil jl (jc (pv 0) jf)))) ql j9) (@je _ _ _ (zf (xq (ze (jm (QN T) hr.dn a_ T.OL T.IA.kp T.OM .nil jl (@y6 _ _ _ _ _ (pv 1) (jo jw a_ T.cC boot_len (jc (pv 0) jf)) a_ a_)))) ql j9))),?_⟩;refine⟨_,a_,xa0 a ns ⟨a_,e,l2,l8,r1,λH1 s1=>⟨_,a_,w4 ?_⟩⟩⟩;refine⟨_,a_,_,a_,xa0 a _ ⟨a_,.inl (af.of (s1 _ _ e)),xa1 b _ ks ⟨a_,hc.same s1,up,λk hk=>?_,λH2 s2=>⟨_,a_,w4 (k _ (s1.trans s2))⟩⟩⟩⟩;rw[g_];exact rg k hk
noncomputable def PK (H:Hp)(Z:aq)(id:i_)(h:f?)(L:b? (i_×c_×HO)):Prop:=∀x∈L,1<=x.1/\Z x.2.1=some (id,.kp h x.1)/\H x.2.1=some x.2.2
theorem PK.new {H:Hp}{Z:aq}{id:i_}{h:f?}{L:b? (i_×c_×HO)}{p:c_}{f:i_}{u:HO}(k:PK H Z id h L)(n:H p=none)(hf:1<=f):PK (upd H p u) (aE Z p (id,.kp h f)) id h ((f,p,u)::L):=λx hx=>by
 rcases D?.mp hx with rfl|hx
 .exact⟨hf,xa,ja⟩
 .obtain⟨a,b,c⟩:=k x hx;have:x.2.1≠p:=jg c n;exact⟨a,by rw[x9 this];exact b,by rw[jd this];exact c⟩
theorem PK.obj {H:Hp}{Z:aq}{id:i_}{h:f?}{L:b? (i_×c_×HO)}{x:c_}{o:HO}(k:PK H Z id h L)(rx:Z x=some (id,.kp h 0)):PK (upd H x o) Z id h L:=λy hy=>by obtain⟨a,b,c⟩:=k y hy;exact⟨a,b,by rw[jd (fu b rx (λz=>by have e:=(Part.kp.inj (Ó z).2).2;lia))];exact c⟩
theorem PK.same {H H':Hp}{Z:aq}{id:i_}{h:f?}{L:b? (i_×c_×HO)}(s:x8 H H')(k:PK H Z id h L):PK H' Z id h L:=λy hy=>let⟨a,b,c⟩:=k y hy;⟨a,b,s _ _ c⟩
theorem PK.at_ {H:Hp}{Z:aq}{id:i_}{h:f?}{L:b? (i_×c_×HO)}(k:PK H Z id h L)(j:i_){f:i_}{a:c_}{u:HO}(e:L[j]?=some (f,a,u)):Z a=some (id,.kp h f)/\H a=some u:=(k _ (u_ e)).2
structure Mk (t:Ad)(Z0:aq)(H0:Hp)(id:i_)(h:f?)(x dx:c_)(fs:b? (y?×V))(L:b? (i_×c_×HO))(Z:aq)(H:Hp):Prop where
 ob:H x=some (.ins t.j6 dx fs)
 rx:Z x=some (id,.kp h 0)
 pk:PK H Z id h L
 fr:Fr (bg id h) Z0 H0 Z H
 kr:ay Z H
section
variable {t:Ad}{Z0 Z:aq}{H0 H H':Hp}{id:i_}{h:f?}{x dx:c_}{fs fs':b? (y?×V)}{L:b? (i_×c_×HO)}
theorem Mk.new {p:c_}{u:HO}(f:i_)(m:Mk t Z0 H0 id h x dx fs L Z H)(n:H p=none)(hf:1<=f)(hu:e_ (qE u) aP7):Mk t Z0 H0 id h x dx fs ((f,p,u)::L) (aE Z p (id,.kp h f)) (upd H p u):=by have nx:x≠p:=jg m.ob n;exact⟨by rw[jd nx];exact m.ob,by rw[x9 nx];exact m.rx,m.pk.new n hf,m.fr.trans (Fr.cy n),m.kr.cy hu⟩
theorem Mk.xU (m:Mk t Z0 H0 id h x dx fs L Z H)(s:x8 H H'):Mk t Z0 H0 id h x dx fs L Z H':=⟨s _ _ m.ob,m.rx,m.pk.same s,m.fr.trans (Fr.same s),m.kr.same s⟩
theorem Mk.obj (m:Mk t Z0 H0 id h x dx fs L Z H):Mk t Z0 H0 id h x dx fs' L Z (upd H x (.ins t.j6 dx fs')):=⟨ja,m.rx,m.pk.obj m.rx,m.fr.trans (Fr.put m.rx ⟨0,a_⟩),m.kr.put⟩
end
theorem jqc (T:Txt K mg t):zv P w K mg base CX0 1 t.yn t.Bk ["self","sums"] (λvs H Q _=>∃Z id h x dx sa,∃ns:b? f?,vs=[.ref x,.ref sa]/\H x=some (.ins t.j6 dx [])/\Z x=some (id,.kp h 0)/\ay Z H/\H sa=some (.lst (ns.map V.int))/\ns.length<=1000/\∀Z' H' he nn dn,Mk t Z H id h x dx (eC he nn dn) [(3,dn,.lst []),(2,nn,.lst ((B_ ns.length 0).map V.int)),(1,he,.lst (ns.map V.int))] Z' H'->Q .aj H'):=by
 refine T.OX.bF Ov λ_ A _ s H vs Q E hr h=>?_;obtain⟨Z,id,h,x,dx,sa,ns,rfl,hx,rx,kr,hs,ln,k⟩:=h;refine⟨_,(@jb _ _ _ _ _ (g6 (pv 0) (gr ya a_ T.iF boot_list (jc (pv 1) jf)) a_) (@jb _ _ _ _ _ (g6 (pv 0) (xx Mw (@xf _ _ _ _ (jc jn jf)) (jo jw a_ T.cC boot_len (jc (pv 1) jf))) a_) (@je _ _ _ (g6 (pv 0) (@xf _ _ _ _ jf) a_)))),?_⟩;have m0:Mk t Z H id h x dx [] [] Z H:=⟨hx,rx,(λ_ z=>by cases z),Fr.refl,kr⟩;have sx:sa≠x:=cT hs hx (by intro z;cases z);refine⟨_,a_,xa0 sa _ ⟨a_,.inl (af.of hs),λhe nh=>?_⟩⟩;have m1:=m0.new 1 nh (u:=.lst (ns.map V.int)) (by decide);have AH:=jh (o:=.lst (ns.map V.int)) nh _ _ hs;refine⟨_,a_,xa2 x _ dx _ ⟨a_,m1.ob,T.jq,T.yf,(by show 0<1000;decide),?_⟩⟩;have m2:=m1.obj (fs':=uk "held" (.ref he) []);have tN:upd (upd H he (.lst (ns.map V.int))) x (.ins t.j6 dx (uk "held" (.ref he) [])) sa=some (.lst (ns.map V.int)):=by rw[jd sx];exact AH
 dsimp only;generalize upd (upd H he (.lst (ns.map V.int))) x (.ins t.j6 dx (uk "held" (.ref he) []))=G at m2 tN;refine⟨oh,λz1 n1=>⟨_,a_,xa0 sa _ ⟨a_,.inl (af.of ((jh n1) _ _ tN)),?_⟩⟩⟩;have m3:=m2.xU (jh (o:=.lst [.int 0]) n1);refine(xa1 z1 _ [.int 0] ⟨a_,a_,ja,?_,?_,?_,λnn n2=>?_⟩)
 .omega
 .rw[g_];have:=lR;omega
 .rw[g_];exact iG (by simp;omega)
 have er:(B_ (((ns.map V.int).length:i_):f?).toNat [V.int 0]).flatten=(B_ ns.length 0).map V.int:=by
  rw[R_,g_,adq];generalize ns.length=n;induction n with
  |zero=>rfl
  |succ n ih=>rw[Ù,ń,ih,Ù];rfl
 rw[er];have m4:=m3.new 2 n2 (u:=.lst ((B_ ns.length 0).map V.int)) (by decide);generalize upd (upd G z1 (.lst [.int 0])) nn (.lst ((B_ ns.length 0).map V.int))=G4 at m4;refine⟨_,a_,xa2 x _ dx _ ⟨a_,m4.ob,T.jq,T.zd,(by show 1<1000;decide),?_⟩⟩;have m5:=m4.obj (fs':=uk "next_numbers" (.ref nn) (uk "held" (.ref he) []));dsimp only;generalize upd G4 x (.ins t.j6 dx (uk "next_numbers" (.ref nn) (uk "held" (.ref he) [])))=G5 at m5;refine⟨dC,λdn n3=>⟨_,a_,xa2 x _ dx _ ⟨a_,(m5.new 3 n3 (u:=.lst []) (by decide)).ob,T.jq,T.Jb,(by show 2<1000;decide),?_⟩⟩⟩;exact k _ _ he nn dn ((m5.new 3 n3 (u:=.lst []) (by decide)).obj)
noncomputable def ik (ns:b? f?):Kp:=⟨ns,B_ ns.length 0,[],[],[],[],[]⟩
theorem jn0 (T:Txt K mg t):zv P w K mg base CX0 2 t.wz t.Gr ["self","sums"] (λvs H Q _=>∃Z id h x dx sa,∃ns:b? f?,vs=[.ref x,.ref sa]/\H x=some (.ins t.j6 dx [])/\Z x=some (id,.kp h 0)/\ay Z H/\H sa=some (.lst (ns.map V.int))/\ns.length<=1000/\∀Z' H' A,xw t H' Z' id h x A dx (ik ns)->Fr (bg id h) Z H Z' H'->ay Z' H'->Q .aj H'):=by
 refine T.jf4.aW (N:=["self","sums"]) λ_ A _ s H vs Q E hr h=>?_;obtain⟨Z,id,h,x,dx,sa,ns,rfl,hx,rx,kr,hs,ln,k⟩:=h;refine⟨_,(@jb _ _ _ _ _ (qb (YS a_ T.Je T.jhx (jqc T) hr.dn T.IB .nil jl (@y6 _ _ _ _ _ (pv 0) (pv 1) a_ a_))) (@jb _ _ _ _ _ (g6 (pv 0) D1 a_) (@jb _ _ _ _ _ (g6 (pv 0) (@xf _ _ _ _ jf) a_) (@jb _ _ _ _ _ (g6 (pv 0) D1 a_) (@je _ _ _ (g6 (pv 0) (@xf _ _ _ _ jf) a_)))))),?_⟩;refine⟨_,a_,_,a_,xa6 Z id h x dx sa ns ⟨a_,hx,rx,kr,hs,ln,λ Z1 H1 he nn dn m1=>?_⟩⟩;refine λhd n1=>⟨_,a_,xa2 x _ dx _ ⟨a_,(m1.new 4 n1 (u:=.dT []) (by decide)).ob,T.jq,T.Jc,(by show 3<1000;decide),?_⟩⟩;have m2:=(m1.new 4 n1 (u:=.dT []) (by decide)).obj (fs':=uk "heard" (.ref hd) (eC he nn dn));dsimp only;generalize upd (upd H1 hd (.dT [])) x (.ins t.j6 dx (uk "heard" (.ref hd) (eC he nn dn)))=G2 at m2;refine⟨dC,λun n2=>⟨_,a_,xa2 x _ dx _ ⟨a_,(m2.new 5 n2 (u:=.lst []) (by decide)).ob,T.jq,T.yp,(by show 4<1000;decide),?_⟩⟩⟩;have m3:=(m2.new 5 n2 (u:=.lst []) (by decide)).obj (fs':=uk "unvoted" (.ref un) (uk "heard" (.ref hd) (eC he nn dn)));dsimp only;generalize upd (upd G2 un (.lst [])) x (.ins t.j6 dx (uk "unvoted" (.ref un) (uk "heard" (.ref hd) (eC he nn dn))))=G3 at m3;refine λcs n3=>⟨_,a_,xa2 x _ dx _ ⟨a_,(m3.new 6 n3 (u:=.dT []) (by decide)).ob,T.jq,T.xh,(by show 5<1000;decide),?_⟩⟩;have m4:=(m3.new 6 n3 (u:=.dT []) (by decide)).obj (fs':=uk "choices" (.ref cs) (uk "unvoted" (.ref un) (uk "heard" (.ref hd) (eC he nn dn))));dsimp only;generalize upd (upd G3 cs (.dT [])) x (.ins t.j6 dx (uk "choices" (.ref cs) (uk "unvoted" (.ref un) (uk "heard" (.ref hd) (eC he nn dn)))))=G4 at m4;refine⟨dC,λwt n4=>⟨_,a_,xa2 x _ dx _ ⟨a_,(m4.new 7 n4 (u:=.lst []) (by decide)).ob,T.jq,T.zj,(by show 6<1000;decide),?_⟩⟩⟩;have m5:=(m4.new 7 n4 (u:=.lst []) (by decide)).obj (fs':=kf he nn dn hd un cs wt);refine k _ _ (λf=>match f with|1=>he|2=>nn|3=>dn|4=>hd|5=>un|6=>cs|_=>wt) ⟨m5.ob,m5.rx,λf h1 h7=>?_⟩ m5.fr m5.kr;have p:=m5.pk
 match f,h1,h7 with
 |1,_,_=>exact⟨(p.at_ 6 a_).1,_,(p.at_ 6 a_).2,a_⟩
 |2,_,_=>exact⟨(p.at_ 5 a_).1,_,(p.at_ 5 a_).2,a_⟩
 |3,_,_=>exact⟨(p.at_ 4 a_).1,_,(p.at_ 4 a_).2,[],a_,.nil⟩
 |4,_,_=>exact⟨(p.at_ 3 a_).1,_,(p.at_ 3 a_).2,[],a_,a_⟩
 |5,_,_=>exact⟨(p.at_ 2 a_).1,_,(p.at_ 2 a_).2,[],a_,.nil⟩
 |6,_,_=>exact⟨(p.at_ 1 a_).1,_,(p.at_ 1 a_).2,[],a_,.nil⟩
 |7,_,_=>exact⟨(p.at_ 0 a_).1,_,(p.at_ 0 a_).2,[],a_,.nil⟩
noncomputable def sM (K:e?)(H:Hp)(Z:aq)(id:i_)(a:c_)(ks:b? f?):Prop:=(H a=some (.lst (ks.map V.int))/\∀r,Z a=some r->¬r.1=id)\/(ks=[]/\∃(o:L?)(its:E? b_)(n:i_),K.lookup a=some o/\o.cls= .type "tuple"/\o.data= .seq its n/\its.size<=k_/\Vals [] its.toList)
theorem sM.at_ {K:e?}{H:Hp}{Z:aq}{id:i_}{a:c_}{ks:b? f?}(h:sM K H Z id a ks):vk K H a ks:=h.imp (λq=>q.1) (λq=>⟨q.1,.inr q.2⟩)
theorem sM.fr {K:e?}{H H':Hp}{Z Z':aq}{id:i_}{a:c_}{ks:b? f?}(f:Fr (λr=>r.1=id) Z H Z' H')(h:sM K H Z id a ks):vk K H' a ks:=by
 rcases h with⟨h,n⟩|⟨e,h⟩
 .exact .inl (f a _ h n).1
 .exact .inr ⟨e,.inr h⟩
theorem ym.pD {t:Ad}{P:Role->Prop}{Z Z':aq}{H H':Hp}{id:i_}(f:Fr P Z H Z' H'):∀{kvs:b? (Key×V)}{ks:b? (f?×Kp)},(∀c∈ks,∀j,¬P (id,.kp c.1 j))->ym t H Z id kvs ks->ym t H' Z' id kvs ks:=λ{kvs ks} n q=>by
 unfold ym at q;induction q with
 |nil=>exact .nil
 |@cons kv c kvs ks a r ih=>obtain⟨e,k,A,dk,ek,q⟩:=a;exact .cons ⟨e,xa1 k A dk ⟨ek,q.fr (n c p?) f⟩⟩ (ih λc' hc=>n c' (q_ _ hc))
noncomputable def allI (id:i_):Role->Prop:=λr=>r.1=id
structure dv (t:Ad)(Z0:aq)(H0:Hp)(id:i_)(x dx:c_)(fs:b? (y?×V))(Z:aq)(H:Hp):Prop where
 ob:H x=some (.ins t.j4 dx fs)
 rx:Z x=some (id,.x)
 fr:Fr (allI id) Z0 H0 Z H
 kr:ay Z H
section
variable {t:Ad}{Z0 Z Z':aq}{H0 H H':Hp}{id:i_}{x dx:c_}{fs fs':b? (y?×V)}{P:Role->Prop}
theorem dv.step (m:dv t Z0 H0 id x dx fs Z H)(f:Fr P Z H Z' H')(n:¬P (id,.x))(hP:∀r,P r->r.1=id)(kr:ay Z' H'):dv t Z0 H0 id x dx fs Z' H':=by obtain⟨e,r⟩:=dq f m.ob m.rx n;exact⟨e,r,m.fr.trans (f.mono hP),kr⟩
theorem dv.xU (m:dv t Z0 H0 id x dx fs Z H)(s:x8 H H'):dv t Z0 H0 id x dx fs Z H':=m.step (P:=λ_=>w?) (Fr.same s) (λz=>z) (λ_ z=>z.elim) (m.kr.same s)
theorem dv.new {p:c_}{u:HO}{r:Role}(m:dv t Z0 H0 id x dx fs Z H)(n:H p=none)(hu:e_ (qE u) aP7):dv t Z0 H0 id x dx fs (aE Z p r) (upd H p u):=m.step (P:=λ_=>w?) (Fr.cy n) (λz=>z) (λ_ z=>z.elim) (m.kr.cy hu)
theorem dv.obj (m:dv t Z0 H0 id x dx fs Z H):dv t Z0 H0 id x dx fs' Z (upd H x (.ins t.j4 dx fs')):=⟨ja,m.rx,m.fr.trans (Fr.put m.rx a_),m.kr.put⟩
theorem dv.fo (m:dv t Z0 H0 id x dx fs Z H):Fr (fB id .x) Z H Z (upd H x (.ins t.j4 dx fs')):=Fr.put m.rx a_
end
noncomputable def aQ (ls:b? f?)(n:i_):b? f?:=((V_ n).map λ(i:i_)=>(i:f?)).filter λi=>!s? (i∈ls)
noncomputable def w0 (h f:f?)(ns cs ls:b? f?):Wd:=⟨ns.length,cs,(aQ ls h.toNat).map λi=>(i,ik ns),[],h-f,B_ ns.length [],[]⟩
structure sN (H:Hp)(Z:aq)(ch ly:c_)(cs ls:b? f?):Prop where
 c:H ch=some (.lst (cs.map V.int))/\Z ch=none
 l:H ly=some (.lst (ls.map V.int))/\Z ly=none
theorem sN.fr {P:Role->Prop}{Z Z':aq}{H H':Hp}{ch ly:c_}{cs ls:b? f?}(f:Fr P Z H Z' H')(h:sN H Z ch ly cs ls):sN H' Z' ch ly cs ls:=⟨lg f h.c.1 h.c.2,lg f h.l.1 h.l.2⟩
theorem BL (ls:b? f?)(n:i_):aQ ls (n+1)=aQ ls n++if(n:f?)∈ls then[]else[(n:f?)]:=by
 unfold aQ;rw[abF,K_,ı];congr 1;by_cases z:(n:f?)∈ls
 .rw[m_ z];simp[z]
 .rw[j? z];simp[z]
theorem BM {ls:b? f?}{n:i_}{i:f?}(h:i∈aQ ls n):0<=i/\i<(n:f?)/\i∉ls:=by unfold aQ at h;obtain⟨h1,h2⟩:=D_.mp h;obtain⟨j,hj,rfl⟩:=H?.mp h1;have:=Z?.mp hj;exact⟨by lia,by lia,by simpa using h2⟩
theorem JM (ls:b? f?)(n:i_):(aQ ls n).length<=n:=by unfold aQ;refine P_ (ê _ _) ?_;rw[g_,ß];exact r_ _
noncomputable abbrev q2 (ns:b? f?):b? (y?×V):=uk "total" (.int ns.sum) (uk "purses" (.int (ns.map V.int).length) [])
noncomputable abbrev q3 (ns:b? f?)(ly:c_):b? (y?×V):=uk "lying" (.ref ly) (q2 ns)
noncomputable abbrev q4 (ns:b? f?)(ly ch:c_):b? (y?×V):=uk "cheating" (.ref ch) (q3 ns ly)
noncomputable abbrev q5 (ns:b? f?)(ly ch D:c_):b? (y?×V):=uk "keepers" (.ref D) (q4 ns ly ch)
noncomputable abbrev q6 (ns:b? f?)(ly ch D b:c_):b? (y?×V):=uk "board" (.ref b) (q5 ns ly ch D)
noncomputable abbrev q7 (ns:b? f?)(ly ch D b ak:c_):b? (y?×V):=uk "asked" (.ref ak) (q6 ns ly ch D b)
noncomputable def j4w (K:e?)(t:Ad):Sp:=λvs H Q _=>∃Z id x dx h f sa ns la ca cs ls,vs=[.ref x,.int h,.int f,.ref sa,.ref la,.ref ca]/\H x=some (.ins t.j4 dx [])/\Z x=some (id,.x)/\ay Z H/\(1<=h/\h<=16)/\(0<=f/\f<=5)/\3*f<h/\H sa=some (.lst ((ns:b? f?).map V.int))/\(∀r,Z sa=some r->¬allI id r)/\2<=ns.length/\ns.length<=8/\(∀i∈ns,0<=i/\i<=1000)/\sM K H Z id la ls/\ls.Pairwise (·<·)/\(∀k∈ls,0<=k/\k<h)/\(ls.length:f?)<=f/\sM K H Z id ca cs/\cs.Pairwise (·<·)/\(∀k∈cs,0<=k/\k<(ns.length:f?))/\∀Z' H' W,W.x=x->W.bB=ns.sum->qp t H' Z' id W (w0 h f ns cs ls)->(H' W.ly=some (.lst (ls.map V.int))/\Z' W.ly=none)->Fr (allI id) Z H Z' H'->ay Z' H'->Q .aj H'
set_option maxHeartbeats 0 in
theorem jo6 (T:Txt K mg t) : zv P w K mg base CX0 6 t.kb t.GD ["self","houses","few","sums","liars","cheats"] (j4w K t):=by
 refine T.jh3.aW (N:=["self","houses","few","sums","liars","cheats"]) λ_ A _ s H vs Q E hr h=>?_
 obtain ⟨Z,id,x,dx,h,f,sa,ns,la,ca,cs,ls,rfl,hx,rx,kr,h1,f1,lt,hs,nsa,l2,l8,rg,QQ,BN,BO,llf,QR,up,BP,k⟩:=h
 have hla:=QQ.at_
 have hca:=QR.at_
 refine ⟨_,(@jb _ _ _ _ _ (qb (xb (jr4 T) hr.dn a_ T.jk0 T.OV.kp T.jh9 jl (jc (pv 1) jf) (xc (pv 2) (xc (pv 4) uu))))
  (@jb _ _ _ _ _ (qb (xb (jsb T) hr.dn a_ T.jk8 T.OW.kp T.jh5 jl (jc (pv 3) jf) (xc (pv 5) uu)))
  (@jb _ _ _ _ _ (g6 (pv 0) (jo jw a_ T.cC boot_len (jc (pv 3) jf)) a_)
  (@jb _ _ _ _ _ (g6 (pv 0) (jo (MZ a_) a_ T.P8 boot_sum (jc (pv 3) jf)) a_)
  (@jb _ _ _ _ _ (g6 (pv 0) (gr ya a_ T.iF boot_list (jc (pv 4) jf)) a_)
  (@jb _ _ _ _ _ (g6 (pv 0) (gr ya a_ T.iF boot_list (jc (pv 5) jf)) a_)
  (@jb _ _ _ _ _ (g6 (pv 0) (Ez (.dK []) (.inl a_) (fM hr) (N':=["house","sums","liars"]) (ix:=[none,some 3,some 4]) (xr (by kernel_rfl)) a_ (rF a_ T.sr (jc (pv 1) jf)) (λ_ _ _ _=>(jr (i:=0) ZR a_ (o_ a_) (.inr a_))) (λ_ _ _ _=>(rO (jz (NB (K:=K) a_) (pv 0) (pv 2) (by with_unfolding_all rfl)))) (λ_ _ _ _=>(pv 0)) (λ_ _ _ _=>(Aa T.jwr (jn0 T) hr.dn a_ T.jzl T.jf8 .nil jl (jc (pv 1) jf)))) a_)
  (@jb _ _ _ _ _ (g6 (pv 0) (Aa T.jzr (jo5 T) hr.dn a_ T.j2d T.jhu .nil jl (jc (xb (jxe T) hr.dn a_ T.jr5 T.OQ.kp T.jny jl (jc (pv 1) jf) (xc (pv 2) uu)) jf)) a_)
  (@jb _ _ _ _ _ (g6 (pv 0) (kJ (N':=["each"]) (ix:=[none]) (xr (by kernel_rfl)) a_ (@pz _ _ _ _ (pv 3)) (λ_ _ _ _=>(jr (i:=0) ZQ a_ (o_ a_) (.inr a_))) (λ_ _ _ _=>lY) (λ_ _ _ _=>(@xf _ _ _ _ jf))) a_)
  (@je _ _ _ (g6 (pv 0) (@xf _ _ _ _ jf) a_))))))))))),?_⟩
 refine ⟨_,a_,_,a_,_,a_,xa2 h f la ls ⟨a_,h1,f1,lt,hla,BN,BO,llf,λH1 s1=>?_⟩⟩
 refine ⟨_,a_,_,a_,xa2 sa ns ca cs ⟨a_,s1 _ _ hs,l2,l8,rg,hca.same s1,up,BP,λH2 s2=>?_⟩⟩
 have m2:dv t Z H id x dx [] Z H2:=dv.xU ⟨hx,rx,Fr.refl,kr⟩ (s1.trans s2)
 have xV : ∀ {Z' H' fs},dv t Z H id x dx fs Z' H' -> H' sa = some (.lst (ns.map V.int)):=λm=>(m.fr _ _ hs nsa).1
 have QS : ∀ {Z' H' fs},dv t Z H id x dx fs Z' H' -> vk K H' la ls:=λm=>QQ.fr m.fr
 have ca_ : ∀ {Z' H' fs},dv t Z H id x dx fs Z' H' -> vk K H' ca cs:=λm=>QR.fr m.fr
 refine ⟨_,a_,xa0 sa _ ⟨a_,.inl (af.of (xV m2)),_,a_,xa2 x _ dx _ ⟨a_,m2.ob,T.jk,T.vz,(by show 0 < 1000; decide),?_⟩⟩⟩
 have m3:=m2.obj (fs':=uk "purses" (.int (ns.map V.int).length) [])
 dsimp only
 generalize upd H2 x (.ins t.j4 dx (uk "purses" (.int (ns.map V.int).length) [])) = G3 at m3
 refine ⟨_,a_,xa0 sa ns ⟨a_,af.of (xV m3),_,a_,xa2 x _ dx _ ⟨a_,m3.ob,T.jk,T.jlb,(by show 1 < 1000; decide),?_⟩⟩⟩
 have m4:=m3.obj (fs':=q2 ns)
 dsimp only
 generalize upd G3 x (.ins t.j4 dx (q2 ns)) = G4 at m4
 refine ⟨_,a_,xa0 la _ ⟨a_,(QS m4).sq,λly JN=>?_⟩⟩
 have m5:=m4.xU (jh (o:=.lst (ls.map V.int)) JN)
 have l5:upd G4 ly (.lst (ls.map V.int)) ly = some (.lst (ls.map V.int)) /\ Z ly = none:=⟨ja,m4.kr.none JN⟩
 refine ⟨_,a_,xa2 x _ dx _ ⟨a_,m5.ob,T.jk,T.PZ,(by show 2 < 1000; decide),?_⟩⟩
 have m6:=m5.obj (fs':=q3 ns ly)
 have l6:=lg (m5.fo (fs':=q3 ns ly)) l5.1 l5.2
 dsimp only
 generalize upd (upd G4 ly (.lst (ls.map V.int))) x (.ins t.j4 dx (q3 ns ly)) = G6 at m6 l6
 refine ⟨_,a_,xa0 ca _ ⟨a_,(ca_ m6).sq,λch jZ=>?_⟩⟩
 have m7:=m6.xU (jh (o:=.lst (cs.map V.int)) jZ)
 have c7:sN (upd G6 ch (.lst (cs.map V.int))) Z ch ly cs ls:=⟨⟨ja,m6.kr.none jZ⟩,lg (P:=λ_=>w?) (Fr.same (jh jZ)) l6.1 l6.2⟩
 refine ⟨_,a_,xa2 x _ dx _ ⟨a_,m7.ob,T.jk,T.yq,(by show 3 < 1000; decide),?_⟩⟩
 have m8:=m7.obj (fs':=q4 ns ly ch)
 have c8:=c7.fr (m7.fo (fs':=q4 ns ly ch))
 dsimp only
 generalize upd (upd G6 ch (.lst (cs.map V.int))) x (.ins t.j4 dx (q4 ns ly ch)) = G8 at m8 c8
 clear m2 m3 m4 m5 m6 m7 c7 JN jZ l5 l6
 refine ⟨_,a_,h,a_,(by omega),(by omega),λD nD=>?_⟩
 have m9:=m8.new (r:=(id,.kd)) nD (u:=.dK [])
 have c9:sN (upd G8 D (.dK [])) (aE Z D (id,.kd)) ch ly cs ls:=c8.fr (P:=λ_=>w?) (Fr.cy nD)
 refine YQ (lo:=0) (n:=h.toNat) (λi U H'=>∃ v kvs Z',U = [v,some (.ref sa),some (.ref la)] /\ dv t Z H id x dx (q4 ns ly ch) Z' H' /\ sN H' Z' ch ly cs ls /\ Z' D = some (id,.kd) /\ H' D = some (.dK kvs) /\ ym t H' Z' id kvs ((aQ ls i).map λi=>(i,ik ns))) (xa1 none [] _ ⟨a_,m9,c9,xa,ja,.nil⟩) ?_ ?_
 .rintro i U H' hi ⟨v,kvs,Z',rfl,m,hc,rD,hD,ks⟩
  have e0:(0:f?) + (i:f?) = i:=afn _
  rw [e0]
  refine ⟨_,a_,_,a_,xa0 la _ ⟨a_,(QS m).sq,a_,qD _,_,a_,bj (λzz=>?_) (λzz=>?_)⟩⟩
  rotate_left
  .have nl:(i:f?) ∈ ls:=by
    rw [m_ a_,jL] at zz
    simpa using zz
   refine (xa1 _ kvs Z' ⟨a_,m,hc,rD,hD,?_⟩)
   rw [BL,m_ nl,â]
   exact ks
  have nl : ¬ (i:f?) ∈ ls:=by
   rw [m_ a_,jL] at zz
   simpa using zz
  refine ⟨_,a_,_,a_,λk dk nk ndk ne=>?_⟩
  have sk:x8 H' (upd H' dk (.own k)):=jh ndk
  have nk1:upd H' dk (.own k) k = none:=by rw [jd ne.symm]; exact nk
  have f1:Fr (λ_=>w?) Z' H' (aE Z' k (id,.kp i 0)) (upd (upd H' dk (.own k)) k (.ins t.j6 dk [])):=(Fr.same sk).trans (Fr.cy nk1)
  have bK:ay (aE Z' k (id,.kp i 0)) (upd (upd H' dk (.own k)) k (.ins t.j6 dk [])):=(m.kr.same sk).cy
  have m1:=m.step f1 (λz=>z) (λ_ z=>z.elim) bK
  refine (xa6 _ id (i:f?) k dk sa ns ⟨a_,ja,xa,bK,xV m1,by omega,λ Z2 BQ A2 R2 f2 bW=>⟨a_,?_⟩⟩)
  have dU:Fr (bg id i) Z' H' Z2 BQ:=(f1.mono λ_ z=>z.elim).trans f2
  have JO : ∀ {p:Part},(∀ j,p ≠ .kp (i:f?) j) -> ¬ bg id (i:f?) (id,p):=λhp ⟨j,e⟩=>hp j (Ó e).2
  have mm:=m.step dU (JO λ_ z=>by cases z) (λr ⟨j,e⟩=>by rw [e]) bW
  have eN:=hc.fr dU
  obtain ⟨JP,QT⟩:=dq dU hD rD (JO λ_ z=>by cases z)
  have JQ:ym t BQ Z2 id kvs ((aQ ls i).map λi=>(i,ik ns)):=ym.pD dU (λc hc j=>by
   obtain ⟨i',JR,rfl⟩:=H?.mp hc
   have:=BM JR
   refine JO λj' z=>?_
   have:i' = (i:f?):=(Part.kp.inj z).1
   omega) ks
  have nv:aY kvs (.inl (i:f?)) = none:=by
   cases e:aY kvs (.inl (i:f?)) with
   | none=>rfl
   | some v=>
    exfalso
    have hm:=VB e
    obtain ⟨j,hj,ej⟩:=Ý.mp hm
    rw [g_] at hj
    obtain ⟨c,ec,e1,_⟩:=qo JQ (u? hj)
    rw [b?.getElem_map] at ej
    rw [e1] at ej
    obtain ⟨i',JR,rfl⟩:=H?.mp (u_ ec)
    have:=BM JR
    have:i' = (i:f?):=S_.inj ej
    omega
  have lk:kvs.length <= 1000:=by
   rw [q? JQ,g_]
   have:=JM ls i
   omega
  refine ⟨_,ft.k (k:=.inl (i:f?)) JP (zm lk),?_⟩
  rw [uE _ nv]
  have f3:Fr (fB id .kd) Z2 BQ Z2 (upd BQ D (.dK (kvs ++ [(.inl (i:f?),.ref k)]))):=Fr.put QT a_
  refine (xa1 _ _ Z2 ⟨a_,mm.step f3 jy (λr e=>by rw [e]) bW.put,eN.fr f3,QT,ja,?_⟩)
  rw [BL,j? nl,K_]
  exact qk (ym.fr f3 (λ_ _=>jy) JQ) ⟨a_,xa1 k A2 dk ⟨a_,R2.fr (λ_=>jy) f3⟩⟩
 .rintro U G10 ⟨v,kvs,Z1,rfl,BR,c10,rD,hD,ks⟩
  clear m8 c8 m9 c9 nD
  refine ⟨_,a_,xa2 x _ dx _ ⟨a_,BR.ob,T.jk,T.zt,(by show 4 < 1000; decide),?_⟩⟩
  have BS:=BR.obj (fs':=q5 ns ly ch D)
  have qP:=BR.fo (fs':=q5 ns ly ch D)
  have c11:=c10.fr qP
  have k11:=gK qP jy (λ_ _=>jy) rD ⟨kvs,hD,ks⟩
  dsimp only
  generalize upd G10 x (.ins t.j4 dx (q5 ns ly ch D)) = sO at BS c11 k11
  clear qP BR c10
  refine ⟨_,a_,_,a_,xa0 h f ⟨a_,λb db nb ndb neb=>?_⟩⟩
  have sb:x8 sO (upd sO db (.own b)):=jh ndb
  have nb1:upd sO db (.own b) b = none:=by rw [jd neb.symm]; exact nb
  refine (xa1 b db (h - f) ⟨a_,ja,λS xW nS Bq fr=>⟨a_,?_⟩⟩)
  have xX:sO S = none:=by
   have nSb:S ≠ b:=λz=>by rw [z,ja] at nS; cases nS
   rw [jd nSb] at nS
   exact sb.free nS
  have bQ:x8 sO xW:=λc u e=>fr _ _ (by rw [jd (jg (sb _ _ e) nb1)]; exact sb _ _ e) (jg e nb)
  have bS:b ≠ S:=cT Bq.ob Bq.sg (by intro z; cases z)
  have dU:Fr (λ_=>w?) Z1 sO (aE (aE Z1 b (id,.bd)) S (id,.sd)) xW:=λa u e _=>⟨bQ _ _ e,by rw [x9 (jg e xX),x9 (jg e nb)]⟩
  have qQ:ay (aE (aE Z1 b (id,.bd)) S (id,.sd)) xW:=λa r e=>by
   by_cases z:a = S
   .subst z
    exact ⟨_,Bq.sg,xv⟩
   .rw [x9 z] at e
    by_cases y:a = b
    .subst y
     exact ⟨_,Bq.ob,xv⟩
    .rw [x9 y] at e
     obtain ⟨u,hu,nu⟩:=BS.kr a r e
     exact ⟨u,bQ _ _ hu,nu⟩
  have xY:=BS.step dU (λz=>z) (λ_ z=>z.elim) qQ
  have c12:=c11.fr dU
  have k12:=gK dU (λz=>z) (λ_ _ z=>z) k11.1 k11.2
  have oA:(aE (aE Z1 b (id,.bd)) S (id,.sd)) b = some (id,.bd) /\ (aE (aE Z1 b (id,.bd)) S (id,.sd)) S = some (id,.sd) /\ ∃ kvs,vb t xW b db S (h - f) kvs (bP []) /\ mv (aE (aE Z1 b (id,.bd)) S (id,.sd)) id kvs:=⟨by rw [x9 bS,xa],xa,[],Bq,λ_ z=>by cases z⟩
  generalize aE (aE Z1 b (id,.bd)) S (id,.sd) = Z2 at xY c12 k12 oA qQ dU
  clear BS c11 k11 dU qQ
  refine ⟨_,a_,xa2 x _ dx _ ⟨a_,xY.ob,T.jk,T.va,(by show 5 < 1000; decide),?_⟩⟩
  have JS:=xY.obj (fs':=q6 ns ly ch D b)
  have fo:=xY.fo (fs':=q6 ns ly ch D b)
  have c13:=c12.fr fo
  have k13:=gK fo jy (λ_ _=>jy) k12.1 k12.2
  have BU:=iJ fo jy jy jy oA.1 oA.2.1 oA.2.2
  dsimp only
  generalize upd xW x (.ins t.j4 dx (q6 ns ly ch D b)) = G13 at JS c13 k13 BU
  clear xY c12 k12 oA fo
  have hsa:=xV JS
  refine ⟨_,a_,sa,a_,⟨_,af.of hsa⟩,pF (K:=K) (a:=sa) (xs:=ns.map V.int) (λi ys U H'=>∃ v rr Z',U = [v] /\ ys = rr.map V.ref /\ rr.length = i /\ dv t Z H id x dx (q6 ns ly ch D b) Z' H' /\ Fr (λ_=>w?) Z2 G13 Z' H' /\ ∀ (j:i_) r,rr[j]? = some r -> Z' r = some (id,.row j) /\ H' r = some (.lst [])) (xa1 none [] Z2 ⟨a_,a_,a_,JS,Fr.refl,λj r e=>by cases e⟩) ?_ ?_ ?_⟩
  .rintro i ys U H' hi ⟨v,rr,Z',rfl,rfl,lr,mm,ff,BV⟩
   rw [g_] at hi
   refine ⟨af.of (xV mm),iG ?_⟩
   rw [g_]
   omega
  .rintro i y ys U H' hy ⟨v,rr,Z',rfl,rfl,lr,mm,ff,BV⟩
   dsimp only [dI,pC]
   rw [m_ a_]
   refine ⟨dC,λp np=>(xa1 _ (rr ++ [p]) (aE Z' p (id,.row i)) ⟨a_,?_,?_,mm.new np,ff.trans (Fr.cy np),λj r e=>?_⟩)⟩
   .rw [K_]; rfl
   .rw [p_,lr]; rfl
   .by_cases z:j < rr.length
    .rw [Ś z] at e
     obtain ⟨q1,q2⟩:=BV j r e
     have:r ≠ p:=jg q2 np
     exact ⟨by rw [x9 this]; exact q1,by rw [jd this]; exact q2⟩
    .rw [ő (by omega)] at e
     have j0:j = rr.length:=by
      have:=(l?.mp e).1
      simp at this
      omega
     subst j0
     rw [i_.sub_self] at e
     cases e
     rw [lr]
     exact ⟨xa,ja⟩
  .rintro ys U H' ⟨v,rr,Z3,rfl,rfl,lr,m14,qR,BV⟩ ak QU
   rw [g_] at lr
   have c14:=c13.fr qR
   have k14:=gK qR (λz=>z) (λ_ _ z=>z) k13.1 k13.2
   have JT:=iJ qR (λz=>z) (λz=>z) (λz=>z) BU.1 BU.2.1 BU.2.2
   have lC:Fr (λ_=>w?) Z3 H' (aE Z3 ak (id,.ak)) (upd H' ak (.lst (rr.map V.ref))):=Fr.cy QU
   have BW:=m14.new (r:=(id,.ak)) QU (u:=.lst (rr.map V.ref))
   have c15:=c14.fr lC
   have k15:=gK lC (λz=>z) (λ_ _ z=>z) k14.1 k14.2
   have BX:=iJ lC (λz=>z) (λz=>z) (λz=>z) JT.1 JT.2.1 JT.2.2
   have a15:(aE Z3 ak (id,.ak)) ak = some (id,.ak) /\ ∃ rs,upd H' ak (.lst (rr.map V.ref)) ak = some (.lst (rs.map V.ref)) /\ mr (upd H' ak (.lst (rr.map V.ref))) (aE Z3 ak (id,.ak)) id rs (B_ ns.length []):=by
    refine ⟨xa,rr,ja,by rw [lr,Ċ],λi r os e1 e2=>?_⟩
    obtain ⟨q1,q2⟩:=BV i r e1
    obtain ⟨q3,q4⟩:=dq lC q2 q1 (λz=>z)
    have:os = []:=Ť (u_ e2)
    subst this
    exact ⟨q4,[],q3,.nil⟩
   generalize aE Z3 ak (id,.ak) = Z4 at lC BW c15 k15 BX a15
   refine ⟨_,a_,xa2 x _ dx _ ⟨a_,BW.ob,T.jk,T.Jd,(by show 6 < 1000; decide),?_⟩⟩
   have QV:=BW.obj (fs':=q7 ns ly ch D b ak)
   have fo:=BW.fo (fs':=q7 ns ly ch D b ak)
   have c16:=c15.fr fo
   have k16:=gK fo jy (λ_ _=>jy) k15.1 k15.2
   have BY:=iJ fo jy jy jy BX.1 BX.2.1 BX.2.2
   have a16:=mx fo jy (λ_=>jy) a15.1 a15.2
   dsimp only
   generalize upd (upd H' ak (.lst (rr.map V.ref))) x (.ins t.j4 dx (q7 ns ly ch D b ak)) = QW at QV c16 k16 BY a16
   refine ⟨dC,λwy QX=>?_⟩
   have my:Fr (λ_=>w?) Z4 QW (aE Z4 wy (id,.wy)) (upd QW wy (.lst [])):=Fr.cy QX
   have JU:=QV.new (r:=(id,.wy)) QX (u:=.lst [])
   have c17:=c16.fr my
   have k17:=gK my (λz=>z) (λ_ _ z=>z) k16.1 k16.2
   have JV:=iJ my (λz=>z) (λz=>z) (λz=>z) BY.1 BY.2.1 BY.2.2
   have a17:=mx my (λz=>z) (λ_ z=>z) a16.1 a16.2
   refine ⟨_,a_,xa2 x _ dx _ ⟨a_,JU.ob,T.jk,T.qz,(by show 7 < 1000; decide),?_⟩⟩
   have BZ:=JU.obj (fs':=dg (ns.map V.int).length ns.sum ly ch D b ak wy)
   have jR:=JU.fo (fs':=dg (ns.map V.int).length ns.sum ly ch D b ak wy)
   have c18:=c17.fr jR
   have k18:=gK jR jy (λ_ _=>jy) k17.1 k17.2
   have b18:=iJ jR jy jy jy JV.1 JV.2.1 JV.2.2
   have a18:=mx jR jy (λ_=>jy) a17.1 a17.2
   have y18:=JB (way:=[]) jR jy xa ⟨[],ja,.nil⟩
   refine k _ _ ⟨x,dx,ns.sum,ly,ch,D,b,ak,wy,db,S⟩ a_ a_ ⟨⟨?_,BZ.rx⟩,c18.c,k18,b18,a18,y18⟩ c18.l BZ.fr BZ.kr
   refine (BZ.ob).trans ?_
   show some (HO.ins t.j4 dx (dg ((ns.map V.int).length:f?) ns.sum ly ch D b ak wy)) = some (HO.ins t.j4 dx (dg (ns.length:f?) ns.sum ly ch D b ak wy))
   rw [g_]
theorem jlf (T:Txt K mg t):zv P w K mg base CX0 3 t.uy t.GU ["self","liar"] (λvs H Q _=>∃Z id W Y h ls,vs=[.ref W.x,.int h]/\qp t H Z id W Y/\H W.ly=some (.lst ((ls:b? f?).map V.int))/\h∈ls/\Q .aj H):=by refine T.jeq.aW (N:=["self","liar"]) λ_ A _ s H vs Q E hr h=>?_;obtain⟨Z,id,W,Y,h,ls,rfl,O,hl,hm,g⟩:=h;refine⟨_,(@je _ _ _ (zf (PW.pt (gD (xq (ze (jm (Ji T) hr.dn a_ T.Iw T.Bo.kp T.Iy .nil jl (jc (pv 1) jf)))) (gS (jz Ae (pv 1) (j3 (pv 0) a_) (by with_unfolding_all rfl))))) ql j9)),?_⟩;refine⟨_,a_,h,a_,_,a_,w4 ?_⟩;refine⟨_,a_,_,a_,xa3 W.x _ W.dx _ _ ⟨a_,O.ob.1,T.jk,T.PZ,j3k,xa0 W.ly _ ⟨a_,.inl (af.of hl),a_,qD _,_,a_,?_⟩⟩⟩;rw[m_ a_,jL,i? hm];exact w4 g
theorem j2h {K:e?}{H:Hp}{Z:aq}{xs:b? V}{os:b? O}(p:h_ (xt H Z) xs os):h_ (kS K H) xs (os.map yh):=by
 induction p with
 |nil=>exact .nil
 |cons h _ ih=>obtain⟨a,e,_,q⟩:=h;exact .cons ⟨a,e,az.of q⟩ ih
noncomputable def Wd.may (Y:Wd)(o:O):Prop:=o.p∈Y.eX\/∃row,Y.asked[o.p.toNat]?=some row/\o∈row
theorem JW (T:Txt K mg t):zv P w K mg base CX0 6 t.G7 t.G9 ["self","liar","order"] (λvs H Q _=>∃Z id W Y h q o ls a b c,vs=[.ref W.x,.int h,.ref q]/\qp t H Z id W Y/\ay Z H/\H W.ly=some (.lst ((ls:b? f?).map V.int))/\h∈ls/\xt H Z (.ref q) o/\zc Y.n o=true/\Y.may o/\Sz Y a b c/\a+1<=1000/\b+1<=1000/\c+16<=100000/\∀Z' H',qp t H' Z' id W (Y.xk h [o])->Fr (sF id) Z H Z' H'->ay Z' H'->Q .aj H'):=by
 refine T.jrs.aW (N:=["self","liar","order"]) λ_ A _ s H vs Q E hr h=>?_;obtain⟨Z,id,W,Y,h,q,o,ls,a,b,c,rfl,O,kr,hl,hm,uq,ho,may,sz,la,lb,lc,g⟩:=h;refine⟨_,(@jb _ _ _ _ _ (qb (j8 (pv 0) T.jk T.jd6 (jlf T) hr.dn T.jep .nil jl (jc (pv 1) jf))) (@jb _ _ _ _ _ (qb (j8 (pv 0) T.jk T.gh (QB T) hr.dn T.ky .nil jl (jc (pv 2) jf))) (@jb _ _ _ _ _ (zf (PW.pt (kB (jz Ae (gb gY (pv 2) jn (λ_ _=>a_)) (j3 (pv 0) a_) (by with_unfolding_all rfl)) (lJ (jz (Xc hr.units) (pv 2) (gb yr (j3 (pv 0) a_) (gb gY (pv 2) jn (λ_ _=>a_)) (λ_ _=>a_)) (by with_unfolding_all rfl))))) ql j9) (@je _ _ _ (qb (j8 (pv 0) T.jk T.vc (JF T) hr.dn T.w9 .nil jl (@y6 _ _ _ _ _ (pv 1) (@xf _ _ _ _ (jc (pv 2) jf)) a_ a_))))))),?_⟩;have xP:=uq;obtain⟨_,eq,nq,hq⟩:=xP;cases eq;refine⟨_,a_,xa1 W.x W.dx _ ⟨a_,O.ob.1,zq,_,a_,xa5 Z id W Y h ls ⟨a_,O,hl,hm,?_⟩⟩⟩;refine⟨_,a_,xa1 W.x W.dx _ ⟨a_,O.ob.1,zq,_,a_,xa5 Z id W Y q o ⟨a_,O,hq,ho,?_⟩⟩⟩;refine⟨_,a_,xa2 q (bO o) 0 (.int o.p) ⟨a_,a_,az.of hq,a_,_,a_,xa3 W.x _ W.dx _ _ ⟨a_,O.ob.1,T.jk,T.yq,Jx,xa0 W.ch _ ⟨a_,.inl (af.of O.ch.1),a_,qD _,_,a_,?_⟩⟩⟩⟩;rw[m_ a_,jL];refine bj (λz=>?_) (λ_=>w4 ?_)
 rotate_left
 .refine⟨_,a_,xa1 W.x W.dx _ ⟨a_,O.ob.1,zq,_,a_,_,a_,oh,λL nL=>?_⟩⟩;have s1:=jh (o:=.lst [.ref q]) nL;refine(xb2 Z id W Y h L [.ref q] [o] a b c ⟨a_,O.fr (P:=λ_=>w?) (λ_ z=>z) (Fr.same s1),kr.same s1,ja,λro e=>?_,.cons (uq.fr (P:=λ_=>w?) (Fr.same s1)) .nil,sz,la,lb,lc,λ Z' H' O' f' mz=>g Z' H' O' ((Fr.same s1).trans f') mz⟩);rw[kr.none nL]at e;cases e
 have nc:o.p∉Y.eX:=by simpa using z
 obtain⟨row,er,om⟩:∃row,Y.asked[o.p.toNat]?=some row/\o∈row:=may.resolve_left nc;obtain⟨ra,rs,ha,fb⟩:=O.ak;obtain⟨r,QY⟩:∃r,rs[o.p.toNat]?=some r:=⟨_,u? (by rw[fb.1];exact(l?.mp er).1)⟩;obtain⟨rr,xs,ig,px⟩:=fb.2 _ _ _ QY er;have p0:0<=o.p:=(qc.mp ho).1;refine⟨_,a_,_,a_,xa3 W.x _ W.dx _ _ ⟨a_,O.ob.1,T.jk,T.Jd,Qq,_,a_,xa2 q (bO o) 0 (.int o.p) ⟨a_,a_,az.of hq,a_,xa2 W.ak _ o.p (.ref r) ⟨a_,a_,af.of ha,fW p0 (by rw[y_,QY];rfl),?_⟩⟩⟩⟩;refine(xa2 r xs (yh o) (row.map yh) ⟨a_,af.of ig,⟨q,a_,az.of hq⟩,j2h px,_,a_,?_⟩);rw[m_ a_,i? (Q? om)];refine w4 ?_;refine⟨_,a_,xa1 W.x W.dx _ ⟨a_,O.ob.1,zq,_,a_,_,a_,oh,λL nL=>?_⟩⟩;have s1:=jh (o:=.lst [.ref q]) nL;refine(xb2 Z id W Y h L [.ref q] [o] a b c ⟨a_,O.fr (P:=λ_=>w?) (λ_ z=>z) (Fr.same s1),kr.same s1,ja,λro e=>?_,.cons (uq.fr (P:=λ_=>w?) (Fr.same s1)) .nil,sz,la,lb,lc,λ Z' H' O' f' mz=>g Z' H' O' ((Fr.same s1).trans f') mz⟩);rw[kr.none nL]at e;cases e
theorem juj (T:Txt K mg t):zv P w K mg base CX0 6 t.Ha t.Hb ["self","order","house"] (λvs H Q _=>∃Z id W Y q o h B,vs=[.ref W.x,.ref q,.int h]/\qp t H Z id W Y/\ay Z H/\xt H Z (.ref q) o/\zc Y.n o=true/\Y.keep h=some B/\Y.carried o=true/\Y.way.length<=100000/\∀H',qp t H' Z id W {Y with way:=Y.way++[(false,h,o)]}->Fr (fB id .wy) Z H Z H'->ay Z H'->Q .aj H'):=by
 refine T.jpl.aW (N:=["self","order","house"]) λ_ A _ s H vs Q E hr h=>?_;obtain⟨Z,id,W,Y,q,o,h,B,rfl,O,kr,uq,ho,ek,ecr,l,g⟩:=h;refine⟨_,(@jb _ _ _ _ _ (qb (j8 (pv 0) T.jk T.zr (yc T) hr.dn T.xj .nil jl (jc (pv 2) jf))) (@jb _ _ _ _ _ (zf (PW.pt (gD (xq (ze (xb (Bw T) hr.dn a_ T.Bp T.xA.kp T.Iz jl (jc (pv 1) jf) (xc (j3 (pv 0) a_) uu)))) (gS (xq (ze (j8 (j3 (pv 0) a_) T.yx T.yw (uh T) hr.dn T.vg .nil jl (jc (pv 1) jf))))))) ql j9) (@je _ _ _ (qb (fq B? E_ F_ y8 (j3 (pv 0) a_) (jc (@iU _ _ _ _ _ (@cq _ _ _ _ _ _ _ (zk (v:=.str "paper") a_ T.PY.choose_spec ⟨_,a_⟩) (pv 2) (pv 1) a_ a_ a_)) jf)))))),?_⟩;have xP:=uq;obtain⟨_,eq,nq,hq⟩:=xP;cases eq;refine⟨_,a_,xa1 W.x W.dx _ ⟨a_,O.ob.1,zq,_,a_,xa5 Z id W Y h B ⟨a_,O,ek,λk A' dk R=>?_⟩⟩⟩;refine⟨_,a_,_,a_,xa3 W.x _ W.dx _ _ ⟨a_,O.ob.1,T.jk,T.vz,Jw,xa1 q o (Y.n:f?) ⟨a_,hq,_,a_,?_⟩⟩⟩;rw[ho];refine w4 ?_;obtain⟨rb,rS,xN,Bq,sg⟩:=O.bd;refine⟨_,a_,xa3 W.x _ W.dx _ _ ⟨a_,O.ob.1,T.jk,T.va,BG,xa1 W.bd W.db _ ⟨a_,Bq.ob,xC _ _ (by decide+kernel) (by decide+kernel),_,a_,xa9 W.bd W.db W.S Y.en xN (bP Y.bd) q (cE o) ⟨a_,Bq.rd,hq,λH1 s1=>⟨_,a_,?_⟩⟩⟩⟩⟩;have ec:s? (Y.en<=((qm (bP Y.bd) (cE o)).length:f?))=Y.carried o:=by
  unfold Wd.carried;rw[show qm (bP Y.bd) (cE o)=jx Y.bd (yh o)from xM (yh o) Y.bd]
 rw[ec,ecr];refine w4 ?_;have O1:=O.fr (P:=λ_=>w?) (λ_ z=>z) (Fr.same s1);have bK:=kr.same s1;have oy:=uq.fr (P:=λ_=>w?) (Fr.same s1);have f1:Fr (fB id .wy) Z H Z H1:=Fr.same s1;obtain⟨dW,xs,hw,pw⟩:=O1.wy;refine⟨_,a_,xa3 W.x _ W.dx _ _ ⟨a_,O1.ob.1,T.jk,T.qz,qJ,.inl ⟨a_,_,af.of hw⟩,_,a_,_,a_,oq,λp np=>?_⟩⟩;have sp:=jh (o:=.tup [.str "paper",.int h,.ref q]) np;have lx:xs.length<=1000000:=by rw[q? pw];omega
 refine(xa1 W.wy xs (.ref p) ⟨a_,a_,sp _ _ hw,big lx,?_⟩);have O2:=O1.fr (P:=λ_=>w?) (λ_ z=>z) (Fr.same sp);have f2:Fr (fB id .wy) Z (upd H1 p (.tup [.str "paper",.int h,.ref q])) Z (upd (upd H1 p (.tup [.str "paper",.int h,.ref q])) W.wy (.lst (xs++[.ref p]))):=Fr.put dW a_;have f0:Fr (fB id .wy) Z H1 Z (upd H1 p (.tup [.str "paper",.int h,.ref q])):=Fr.same sp;refine g _ (O2.but f2 _ jy a_ a_ (gK f2 jy (λ_ _=>jy)) (iJ f2 jy jy jy) (mx f2 jy (λ_=>jy)) (λ_ _=>⟨dW,_,ja,?_⟩)) ((f1.trans f0).trans f2) (bK.same sp).put;have jO:=bK.none np;refine qk (Paired.gy pw λ_ _=>bZ.fr (f0.trans f2)) (xa0 p q ⟨a_,jO,?_,oy.fr (f0.trans f2)⟩);rw[jd (BC jO dW),ja];rfl
theorem zl {α:Type}[ĝ α]:∀{xs ys:b? α},xs.Nodup->(∀x∈xs,x∈ys)->xs.length<=ys.length
 |[],_,_,_=>T? _
 |x::xs,ys,nd,h=>by rw[W']at nd;have hx:=h x p?;have:=zl (xs:=xs) (ys:=ys.erase x) nd.2 λy hy=>(aau (λz=>nd.1 (by rw[<-z];exact hy))).mpr (h y (q_ _ hy));rw[æ hx]at this;have:=û hx;rw[C?];lia
theorem j7z (B:Kp)(o:O)(a:Gv):(cR B o a).1.length+(cR B o a).2.2.length<=a.1.length+a.2.2.length+1:=by
 unfold cR;split
 .simp;lia
 .split
  .simp;lia
  .omega
theorem JX (B:Kp):∀(os:b? O)(a:Gv),(gv B os a).1.length+(gv B os a).2.2.length<=a.1.length+a.2.2.length+os.length
 |[],a=>by simp[gv]
 |o::os,a=>by have h1:=JX B os (cR B o a);have h2:=j7z B o a;unfold gv at h1⊢;rw[Ż,C?];lia
theorem JY (B:Kp){P:O->Prop}:∀(os:b? O)(a:Gv),(∀o∈os,P o)->(∀o∈a.2.1,P o)->∀o∈(gv B os a).2.1,P o
 |[],a,_,h=>h
 | o::os,a,h1,h2=>by
  unfold gv;rw[Ż];refine JY B os _ (λo' h=>h1 o' (q_ _ h)) ?_;unfold cR;split
  .intro o' h;rcases v_.mp h with h|h
   .exact h2 o' h
   .rw[j'.mp h];exact h1 o p?
  .split
   .exact h2
   .exact h2
structure dD (L:b? O)(m n:i_)(B:Kp):Prop where
 ok:B.Ok n
 sz:xQ B m
 u:∀o∈B.aA,o∈L
 w:∀o∈B.wait,o∈L
theorem dD.xk {L:b? O}{m n:i_}{B:Kp}(k:dD L m n B):dD L m n B.xk.1/\(∀o∈B.xk.2,o∈L)/\B.xk.2.length<=m:=by
 refine⟨⟨k.ok.xk,⟨k.sz.hd,?_,k.sz.dw⟩,BB B B.aA _ k.u (λo h=>by cases h),k.w⟩,JY B B.aA _ k.u (λo h=>by cases h),?_⟩
 .have h1:=JX B B.aA (B.cho,[],[]);have h2:=k.sz.uc;show(gv B B.aA (B.cho,[],[])).2.2.length+(gv B B.aA (B.cho,[],[])).1.length<=m;simp at h1;lia
 .have h1:=(BD B B.aA (B.cho,[],[])).2.1;have h2:=k.sz.uc;show(gv B B.aA (B.cho,[],[])).2.1.length<=m;simp at h1;lia
theorem dD.go {L:b? O}{m n:i_}:∀{j:i_}{B:Kp},dD L m n B->dD L m n (Kp.go j B)
 |0,_,k=>k
 | j+1,B,k=>by
  unfold Kp.go;cases e:B.first with
  |none=>exact k
  |some o=>
   have om:=qI e;have l2:(B.step o).wait.length=B.wait.length-1:=æ om;have l1:(B.step o).done.length=B.done.length+1:=by show(B.done++[o]).length=_;rw[p_];rfl
   have:=û om;have:=k.sz.dw;exact dD.go (B:=B.step o) ⟨k.ok.step o,⟨k.sz.hd,k.sz.uc,by lia⟩,k.u,λo' h=>k.w o' (é h)⟩
theorem dD.mono {L L':b? O}{m m' n:i_}{B:Kp}(k:dD L m n B)(h1:∀o∈L,o∈L')(h2:m<=m'):dD L' m' n B:=⟨k.ok,⟨P_ k.sz.hd h2,P_ k.sz.uc h2,P_ k.sz.dw h2⟩,λo h=>h1 o (k.u o h),λo h=>h1 o (k.w o h)⟩
theorem dD.take {L:b? O}{m n:i_}{B:Kp}(k:dD L m n B)(b:o?){o:O}(ol:o∈L)(ho:zc n o=true):dD L (m+1) n (B.take b o).1/\(∀o'∈(B.take b o).2,o'∈L)/\(B.take b o).2.length<=m+1:=by
 have h1:=k.sz.hd;have h2:=k.sz.uc;have h3:=k.sz.dw;have xZ:dD L (m+1) n B/\(∀o'∈([]:b? O),o'∈L)/\([]:b? O).length<=m+1:=⟨k.mono (λ_ h=>h) (by lia),(λ_ z=>by cases z),T? _⟩;unfold Kp.take;split
 .unfold Kp.ox;split
  .exact xZ
  .refine dD.xk (m:=m+1) ⟨⟨k.ok.h,k.ok.x,λu hu=>?_,k.ok.w,k.ok.nd⟩,⟨by show(B.ug++[o]).length<=m+1;rw[p_];show B.ug.length+1<=m+1;lia,by show(B.aA++[o]).length+B.cho.length<=m+1;rw[p_];show B.aA.length+1+B.cho.length<=m+1;lia,by show B.done.length+B.wait.length<=m+1;lia⟩,λu hu=>?_,k.w⟩
   .rcases v_.mp hu with hu|hu
    .exact k.ok.u u hu
    .rw[j'.mp hu];exact ho
   .rcases v_.mp hu with hu|hu
    .exact k.u u hu
    .rw[j'.mp hu];exact ol
 .unfold Kp.jN;split
  .exact xZ
  .rename_i nz;have no:¬o∈B.wait:=λz=>nz (by rw[i? z,ť]);refine dD.xk (m:=m+1) (dD.go ⟨⟨k.ok.h,k.ok.x,k.ok.u,λu hu=>?_,?_⟩,⟨by show B.ug.length<=m+1;lia,by show B.aA.length+B.cho.length<=m+1;lia,by show B.done.length+(B.wait++[o]).length<=m+1;rw[p_];show B.done.length+(B.wait.length+1)<=m+1;lia⟩,k.u,λu hu=>?_⟩)
   .rcases v_.mp hu with hu|hu
    .exact k.ok.w u hu
    .rw[j'.mp hu];exact ho
   .exact Ê.mpr ⟨k.ok.nd,by simp,λx hx y hy e=>by rw[j'.mp hy]at e;subst e;exact no hx⟩
   .rcases v_.mp hu with hu|hu
    .exact k.w u hu
    .rw[j'.mp hu];exact ol
structure jS (L:b? O)(hs:b? f?)(is:yl):Prop where
 nd:(is.map (·.1)).Nodup
 ks:∀x∈is,∃o∈L,x.1=yh o
 hn:∀x∈is,x.2.Nodup/\∀h∈x.2,h∈hs
theorem QZ {k:b? f?}{h:f?}:∀{is:yl}{y:b? f?},y∈(dh is k h).map (·.1)->y∈is.map (·.1)\/y=k
 |[],y,hy=>.inr (j'.mp hy)
 | p::ps,y,hy=>by
  unfold dh at hy;split at hy
  .rw[A_,D?]at hy⊢;exact .inl hy
  .rw[A_,D?]at hy⊢;rcases hy with hy|hy
   .exact .inl (.inl hy)
   .rcases QZ hy with h|h
    .exact .inl (.inr h)
    .exact .inr h
theorem jS.sign {L:b? O}{hs:b? f?}{o:O}{h:f?}(ol:o∈L)(hh:h∈hs):∀{is:yl},jS L hs is->h∉jx is (yh o)->jS L hs (dh is (yh o) h)
 |[],_,_=>⟨by simp[dh],λx hx=>by rw[j'.mp hx];exact⟨o,ol,a_⟩,λx hx=>by rw[j'.mp hx];exact⟨by simp,λy hy=>by rw[j'.mp hy];exact hh⟩⟩
 | p ::ps,b,hn=>by
  have bt:jS L hs ps:=⟨(W'.mp b.nd).2,λx hx=>b.ks x (q_ _ hx),λx hx=>b.hn x (q_ _ hx)⟩;unfold dh;unfold jx at hn;split
  .rename_i z;rw[m_ z]at hn;refine⟨b.nd,λx hx=>?_,λx hx=>?_⟩
   .rcases D?.mp hx with rfl|hx
    .exact b.ks p p?
    .exact bt.ks x hx
   .rcases D?.mp hx with rfl|hx
    .obtain⟨q1,q2⟩:=b.hn p p?;refine⟨Ê.mpr ⟨q1,by simp,λx1 uW y1 hy1 e=>by rw[j'.mp hy1]at e;subst e;exact hn uW⟩,λy hy=>?_⟩;rcases v_.mp hy with hy|hy
     .exact q2 y hy
     .rw[j'.mp hy];exact hh
    .exact bt.hn x hx
  .rename_i z;rw[j? z]at hn;have ih:=bt.sign ol hh hn;refine⟨?_,λx hx=>?_,λx hx=>?_⟩
   .rw[A_,W'];refine⟨λy=>?_,ih.nd⟩;rcases QZ y with y|y
    .exact(W'.mp b.nd).1 y
    .exact z y
   .rcases D?.mp hx with rfl|hx
    .exact b.ks _ p?
    .exact ih.ks x hx
   .rcases D?.mp hx with rfl|hx
    .exact b.hn _ p?
    .exact ih.hn x hx
theorem jS.len {L:b? O}{hs:b? f?}{is:yl}(b:jS L hs is):is.length<=L.length/\∀x∈is,x.2.length<=hs.length:=by
 refine⟨?_,λx hx=>zl (b.hn x hx).1 (b.hn x hx).2⟩;have:=zl (ys:=L.map yh) b.nd λy hy=>by obtain⟨x,hx,rfl⟩:=H?.mp hy;obtain⟨o,ol,e⟩:=b.ks x hx;rw[e];exact Q? ol
 rwa[g_,g_]at this
structure Wd.mB (Y Y':Wd):Prop where
 n:Y'.n=Y.n
 c:Y'.eX=Y.eX
 k:Y'.ks=Y.ks
 e:Y'.en=Y.en
 a:Y'.asked=Y.asked
theorem Wd.mB.trans {a b c:Wd}(x:a.mB b)(y:b.mB c):a.mB c:=⟨y.n.trans x.n,y.c.trans x.c,y.k.trans x.k,y.e.trans x.e,y.a.trans x.a⟩
theorem yA (Y:Wd)(h:f?)(o:O):Y.mB (Y.put h o).1:=by
 unfold Wd.put;split
 .exact⟨a_,a_,a_,a_,a_⟩
 .exact⟨a_,a_,a_,a_,a_⟩
theorem yB (Y:Wd)(h:f?)(o:O):Y.mB (Y.ba h o):=by
 have p:=yA Y h o;unfold Wd.ba;split
 .exact⟨p.n,p.c,p.k,p.e,p.a⟩
 .exact p
theorem sQ {Y:Wd}{h:f?}(m:h∈Y.ks.map (·.1)):∃B,Y.keep h=some B/\(h,B)∈Y.ks:=by
 unfold Wd.keep;cases e:Y.ks.find? λc=>s? (c.1=h)with
 |none=>obtain⟨c,hc,rfl⟩:=H?.mp m;have:=adt.mp e c hc;simp at this
 |some c=>have h1:c.1=h:=n? (abJ (p:=λc:f?×Kp=>s? (c.1=h)) e);refine⟨c.2,a_,?_⟩;rw[<-h1];exact Ř e
noncomputable def il (xs:b? f?)(o:O):b? f?:=gm (gm xs o.p (-o.m)) o.g o.m
noncomputable def bT (ns:b? f?)(os:b? O):b? f?:=os.foldl il ns
theorem j9t {xs:b? f?}{i:f?}:gI xs i=0\/gI xs i∈xs:=by
 unfold gI;cases e:xs[i.toNat]? with
 |none=>exact .inl a_
 |some x=>exact .inr (u_ e)
theorem sum_set:∀(xs:b? f?)(i:i_)(v:f?),i<xs.length->(xs.set i v).sum=xs.sum-(xs[i]?).getD 0+v
 |[],_,_,h=>by cases h
 |x::xs,0,v,_=>by simp;lia
 |x::xs,i+1,v,h=>by have:=sum_set xs i v (by simpa using h);simp only[b?.set_cons_succ,ŋ,b?.getElem?_cons_succ];lia
theorem Q0 {xs:b? f?}{i d:f?}(h0:0<=i)(h1:i<xs.length):(gm xs i d).sum=xs.sum+d:=by unfold gm;rw[sum_set xs i.toNat _ (by lia)];unfold gI;lia
theorem B9 {xs:b? f?}{i j d:f?}(h0:0<=i)(h1:i<xs.length)(j0:0<=j):gI (gm xs i d) j=if j=i then gI xs i+d else gI xs j:=by
 unfold gm gI;by_cases z:j=i
 .subst z;rw[m_ a_,Y_ (by lia)];rfl
 .rw[j? z,ø (by lia)]
theorem Q1 {xs:b? f?}{i d:f?}(h:∀x∈xs,0<=x)(hd:0<=gI xs i+d):∀x∈gm xs i d,0<=x:=λx hx=>by
 rcases ŗ hx with hx|rfl
 .exact h x hx
 .exact hd
noncomputable def aH (p:f?)(os:b? O):b? O:=os.filter λo=>s? (o.p=p)
noncomputable def upTo (k:f?):b? f?:=(V_ k.toNat).map λ(i:i_)=>(i:f?)
theorem Q2 {k:f?}(h:0<=k):upTo (k+1)=upTo k++[k]:=by unfold upTo;rw[show(k+1).toNat=k.toNat+1 by lia,abF,K_];congr 1;show[((k.toNat:i_):f?)]=[k];rw[Đ h]
structure KX (L:b? O)(C:O->o?)(n:i_)(ns:b? f?)(B:Kp):Prop where
 he:B.held=bT ns B.done
 h0:∀x∈B.held,0<=x
 hs:B.held.sum=ns.sum
 nm:∀p:f?,0<=p->p<(n:f?)->0<=gI B.uw p/\(aH p B.done).map (·.n)=upTo (gI B.uw p)
 dl:∀o∈B.done,o∈L/\C o=true
 wc:∀o∈B.wait,C o=true
 wd:∀o∈B.wait,o∉B.done
theorem KX.mono {L L':b? O}{C C':O->o?}{n:i_}{ns:b? f?}{B:Kp}(k:KX L C n ns B)(h:∀o∈L,o∈L')(hc:∀o,C o=true->C' o=true):KX L' C' n ns B:=⟨k.he,k.h0,k.hs,k.nm,λo ho=>⟨h o (k.dl o ho).1,hc o (k.dl o ho).2⟩,λo ho=>hc o (k.wc o ho),k.wd⟩
theorem KX.xk {L:b? O}{C:O->o?}{n:i_}{ns:b? f?}{B:Kp}(k:KX L C n ns B):KX L C n ns B.xk.1:=⟨k.he,k.h0,k.hs,k.nm,k.dl,k.wc,k.wd⟩
theorem KX.past {L:b? O}{C:O->o?}{n:i_}{ns:b? f?}{B:Kp}(k:KX L C n ns B)(lo:∀o∈L,zc n o=true){o:O}(h:o∈B.done):B.past o=true:=by obtain⟨p0,p1,_⟩:=qc.mp (lo o (k.dl o h).1);obtain⟨g0,e⟩:=k.nm o.p p0 (by lia);have m:o.n∈(aH o.p B.done).map (·.n):=Q? (D_.mpr ⟨h,i? a_⟩);rw[e]at m;obtain⟨i,hi,ei⟩:=H?.mp m;have:=Z?.mp hi;exact i? (by lia)
theorem KX.step {L:b? O}{C:O->o?}{n:i_}{ns:b? f?}{B:Kp}(k:KX L C n ns B)(ok:B.Ok n){o:O}(ho:zc n o=true)(ol:o∈L)(ow:o∈B.wait)(du:B.due o=true):KX L C n ns (B.step o):=by
 obtain⟨p0,p1,g0,g1,JZ,n0,n1,m1,m2⟩:=qc.mp ho;unfold Kp.due at du;rw[L_,O_,O_]at du;have lh:=ok.h;have lx:=ok.x;refine⟨?_,?_,?_,λp Q3 pp1=>?_,λu hu=>?_,λu hu=>k.wc u (é hu),λu hu hd=>?_⟩
 .show il B.held o=bT ns (B.done++[o]);have e:bT ns (B.done++[o])=il (bT ns B.done) o:=by
   unfold bT;rw[aaY];rfl
  rw[e,<-k.he]
 .show ∀x∈gm (gm B.held o.p (-o.m)) o.g o.m,0<=x;have h1:∀x∈gm B.held o.p (-o.m),0<=x:=Q1 k.h0 (by lia);refine Q1 h1 ?_;rcases j9t (xs:=gm B.held o.p (-o.m)) (i:=o.g)with e|e
  .omega
  .have:=h1 _ e;lia
 .show(gm (gm B.held o.p (-o.m)) o.g o.m).sum=ns.sum;rw[Q0 g0 (by rw[kY,lh];lia),Q0 p0 (by rw[lh];lia),k.hs];lia
 .obtain⟨q0,e⟩:=k.nm p Q3 pp1;show 0<=gI (gm B.uw o.p 1) p/\(aH p (B.done++[o])).map (·.n)=upTo (gI (gm B.uw o.p 1) p);rw[B9 p0 (by rw[lx];lia) Q3];unfold aH at e⊢;rw[ı,K_,e];by_cases z:p=o.p
  .subst z;rw[m_ a_];refine⟨by lia,?_⟩;rw[Q2 q0,<-du.1];simp
  .rw[j? z];refine⟨q0,?_⟩;have:¬o.p=p:=λy=>z y.symm;simp[this]
 .have ax:u∈B.done++[o]:=hu;rcases v_.mp ax with h|h
  .exact k.dl u h
  .rw[j'.mp h];exact⟨ol,k.wc o ow⟩
 .have bu:u∈B.done++[o]:=hd;have ax:u∈B.wait.erase o:=hu;rcases v_.mp bu with h|h
  .exact k.wd u (é ax) h
  .rw[j'.mp h]at ax;exact(b?.Nodup.mem_erase_iff ok.nd).mp ax |>.1 a_
theorem KX.go {L:b? O}{C:O->o?}{n:i_}{ns:b? f?}(lo:∀o∈L,zc n o=true):∀{j:i_}{B:Kp},KX L C n ns B->B.Ok n->(∀o∈B.wait,o∈L)->KX L C n ns (Kp.go j B)
 |0,_,k,_,_=>k
 |j+1,B,k,ok,wl=>by
  unfold Kp.go;cases e:B.first with
  |none=>exact k
  |some o=>have om:=qI e;have du:B.due o=true:=abJ e;exact KX.go lo (k.step ok (lo o (wl o om)) (wl o om) om du) (ok.step o) λu hu=>wl u (é hu)
theorem KX.take {L:b? O}{C:O->o?}{n:i_}{ns:b? f?}{B:Kp}(k:KX L C n ns B)(lo:∀o∈L,zc n o=true)(ok:B.Ok n)(wl:∀o∈B.wait,o∈L)(b:o?){o:O}(ol:o∈L)(oc:b=false->C o=true):KX L C n ns (B.take b o).1:=by
 unfold Kp.take;split
 .unfold Kp.ox;split
  .exact k
  .exact KX.xk ⟨k.he,k.h0,k.hs,k.nm,k.dl,k.wc,k.wd⟩
 .rename_i nb;have cb:C o=true:=oc (by simpa using nb);unfold Kp.jN;split
  .exact k
  .rename_i nz;have no:¬o∈B.wait:=λz=>nz (by rw[i? z,ť]);have np:¬B.past o=true:=λz=>nz (by rw[z,ac3]);refine KX.xk (KX.go lo (B:={B with wait:=B.wait++[o]}) ⟨k.he,k.h0,k.hs,k.nm,k.dl,λu hu=>?_,λu hu hd=>?_⟩ ⟨ok.h,ok.x,ok.u,λu hu=>?_,?_⟩ λu hu=>?_)
   .rcases v_.mp hu with hu|hu
    .exact k.wc u hu
    .rw[j'.mp hu];exact cb
   .rcases v_.mp hu with hu|hu
    .exact k.wd u hu hd
    .rw[j'.mp hu]at hd;exact np (k.past lo hd)
   .rcases v_.mp hu with hu|hu
    .exact ok.w u hu
    .rw[j'.mp hu];exact lo o ol
   .exact Ê.mpr ⟨ok.nd,by simp,λx hx y hy e=>by rw[j'.mp hy]at e;subst e;exact no hx⟩
   .rcases v_.mp hu with hu|hu
    .exact wl u hu
    .rw[j'.mp hu];exact ol
theorem Ca {k k':b? f?}{h:f?}:∀{is:yl},jx (dh is k h) k'=if k'=k then jx is k++[h]else jx is k'
 |[]=>by
  show(if k=k' then[h]else[])=_;by_cases z:k'=k
  .rw[m_ z,m_ z.symm];rfl
  .rw[j? z,j? (λy=>z y.symm)];rfl
 | p::ps=>by
  unfold dh;by_cases y:p.1=k
  .rw[m_ y];show(if p.1=k' then p.2++[h]else jx ps k')=if k'=k then(if p.1=k then p.2 else jx ps k)++[h]else if p.1=k' then p.2 else jx ps k';by_cases z:k'=k
   .rw[m_ z,m_ y,m_ (by rw[y,z])]
   .rw[j? z,j? (λq=>z (by rw[<-q,y])),j? (λq=>z (by rw[<-q,y]))]
  .rw[j? y];show(if p.1=k' then p.2 else jx (dh ps k h) k')=if k'=k then(if p.1=k then p.2 else jx ps k)++[h]else if p.1=k' then p.2 else jx ps k';rw[Ca (is:=ps),j? y];by_cases z:k'=k
   .rw[m_ z,m_ z,j? (λq=>y (by rw[q,z]))]
   .rw[j? z,j? z]
theorem jz1 (Y:Wd)(h:f?)(o:O)(k:b? f?):(jx Y.bd k).length<=(jx (Y.put h o).1.bd k).length:=by
 unfold Wd.put;split
 .exact r_ _
 .show _<=(jx (dh Y.bd (yh o) h) k).length;rw[Ca];split
  .rename_i z;rw[z,p_];lia
  .exact r_ _
theorem jx4 (Y:Wd)(h:f?)(o u:O)(c:Y.carried u=true):(Y.put h o).1.carried u=true:=by have e:=(yA Y h o).e;have l:=jz1 Y h o (yh u);unfold Wd.carried at c⊢;have:=n? c;exact i? (by rw[e];lia)
theorem Q4 {Y:Wd}{h:f?}{o:O}(c:(Y.put h o).2=true):(Y.put h o).1.carried o=true:=by
 unfold Wd.put at c⊢;split at c
 .cases c
 .rename_i z;rw[j? z];have:=n? c;refine i? ?_;show Y.en<=((jx (dh Y.bd (yh o) h) (yh o)).length:f?);rw[Ca,m_ a_,p_];show Y.en<=(((jx Y.bd (yh o)).length+1:i_):f?);lia
theorem sR (Y:Wd)(h:f?)(o:O):(Y.ba h o).bd=(Y.put h o).1.bd:=by unfold Wd.ba;split<;>rfl
theorem Q5 {Y:Wd}{h:f?}{o u:O}(c:Y.carried u=true):(Y.ba h o).carried u=true:=by have:=jx4 Y h o u c;unfold Wd.carried at this⊢;rw[sR,(yB Y h o).e,<-(yA Y h o).e];exact this
structure WG (Y:Wd)(L:b? O)(hb:b? f?):Prop where
 b:jS L hb Y.bd
 y:∀x∈Y.way,x.2.2∈L/\x.2.1∈Y.ks.map (·.1)/\(x.1=false->Y.carried x.2.2=true)
theorem WG.ba {Y:Wd}{L:b? O}{hb:b? f?}{h:f?}{o:O}(g:WG Y L hb)(ol:o∈L)(hh:h∈hb):WG (Y.ba h o) L hb/\(Y.ba h o).way.length<=Y.way.length+Y.ks.length:=by
 have pb:jS L hb (Y.put h o).1.bd/\(Y.put h o).1.way=Y.way/\(Y.put h o).1.ks=Y.ks:=by
  unfold Wd.put;split
  .exact⟨g.b,a_,a_⟩
  .rename_i hn;exact⟨g.b.sign ol hh hn,a_,a_⟩
 have lk:=yB Y h o;have old:∀x∈Y.way,x.2.2∈L/\x.2.1∈(Y.ba h o).ks.map (·.1)/\(x.1=false->(Y.ba h o).carried x.2.2=true):=λx hx=>by obtain⟨a,b,c⟩:=g.y x hx;exact⟨a,by rw[lk.k];exact b,λe=>Q5 (c e)⟩
 by_cases z:(Y.put h o).2=true
 .have ew:(Y.ba h o).way=Y.way++Y.ks.map λc=>(false,c.1,o):=by
   unfold Wd.ba;rw[m_ z];show(Y.put h o).1.way++_=_;rw[pb.2.1,pb.2.2]
  refine⟨⟨by rw[sR];exact pb.1,λx hx=>?_⟩,by rw[ew,p_,g_];exact r_ _⟩;rw[ew]at hx;rcases v_.mp hx with hx|hx
  .exact old x hx
  .obtain⟨c,hc,rfl⟩:=H?.mp hx;refine⟨ol,by rw[lk.k];exact Q? hc,λ_=>?_⟩;have:=Q4 z;unfold Wd.carried at this⊢;rw[sR,lk.e,<-(yA Y h o).e];exact this
 .have ew:(Y.ba h o).way=Y.way:=by
   unfold Wd.ba;rw[j? z,pb.2.1]
  exact⟨⟨by rw[sR];exact pb.1,λx hx=>old x (by rw[<-ew];exact hx)⟩,by rw[ew];lia⟩
structure Gn (Y:Wd)(T M:i_)(L:b? O)(ls ns:b? f?):Prop where
 ok:Y.Ok
 l:L.length<=T
 lo:∀o∈L,zc Y.n o=true
 mw:∀o∈L,Y.may o
 ks:∀c∈Y.ks,dD L T Y.n c.2/\KX L Y.carried Y.n ns c.2
 g:WG Y L (Y.ks.map (·.1)++ls)
 wl:Y.way.length<=M
 al:∀row∈Y.asked,row.length<=T
 e1:1<=Y.en
theorem jS.mono {L L':b? O}{hs:b? f?}{is:yl}(b:jS L hs is)(h:∀o∈L,o∈L'):jS L' hs is:=⟨b.nd,λx hx=>let⟨o,a,c⟩:=b.ks x hx;⟨o,h o a,c⟩,b.hn⟩
theorem qa4 {h f:f?}{ns cs ls:b? f?}(h1:1<=h/\h<=16)(hf:0<=f)(lt:3*f<h)(l8:ns.length<=8)(n0:∀x∈ns,0<=x)(ll:(ls.length:f?)<=f)(lr:∀x∈ls,0<=x/\x<h):Gn (w0 h f ns cs ls) 0 0 [] ls ns:=by
 have ek:(w0 h f ns cs ls).ks.map (·.1)=aQ ls h.toNat:=by show((aQ ls h.toNat).map λi=>(i,ik ns)).map (·.1)=_;rw[aav];exact b?.map_id _
 have ip:∀c∈(w0 h f ns cs ls).ks,c.2=ik ns:=λc hc=>by obtain⟨i,_,rfl⟩:=H?.mp (show c∈(aQ ls h.toNat).map λi=>(i,ik ns)from hc);rfl
 have lk:(w0 h f ns cs ls).ks.length=(aQ ls h.toNat).length:=g_ ..;have eJ:dD [] 0 ns.length (ik ns):=⟨⟨a_,by show(B_ _ _).length=_;rw[Ċ],λ_ z=>(by cases z),λ_ z=>(by cases z),Ņ⟩,⟨r_ _,r_ _,r_ _⟩,λ_ z=>(by cases z),λ_ z=>(by cases z)⟩;have kx:KX [] (w0 h f ns cs ls).carried ns.length ns (ik ns):=by
  refine⟨a_,n0,a_,λp p0 p1=>?_,λ_ z=>(by cases z),λ_ z=>(by cases z),λ_ z=>(by cases z)⟩;have e:gI (ik ns).uw p=0:=by unfold gI;show((B_ ns.length (0:f?))[p.toNat]?).getD 0=0;rw[ų];split<;>rfl
  rw[e];exact⟨abv _,a_⟩
 have cn:(aQ ls h.toNat).Nodup:=by unfold aQ;exact abh _ (à _ (λa b cV z=>cV (f?.ofNat.inj z)) abr)
 have c1:0<(aQ ls h.toNat).length:=by
  have hl:((V_ h.toNat).map λ(i:i_)=>(i:f?)).length<=(aQ ls h.toNat).length+ls.length:=by
   rw[<-p_];refine zl (à _ (λa b cV z=>cV (f?.ofNat.inj z)) abr) λx hx=>?_;by_cases z:x∈ls
   .exact z_ _ z
   .exact I_ _ (D_.mpr ⟨hx,by simp[z]⟩)
  rw[g_,ß]at hl;lia
 have c2:=JM ls h.toNat;refine⟨⟨l8,by show(B_ _ _).length=_;rw[Ċ];rfl,λrow hr o ho=>?_,λc hc=>by rw[ip c hc];exact eJ.ok,by rw[ek];exact cn,by rw[lk];exact c1,by rw[lk];lia⟩,r_ _,λ_ z=>(by cases z),λ_ z=>(by cases z),λc hc=>by rw[ip c hc];exact⟨eJ,kx⟩,⟨⟨Ņ,λ_ z=>(by cases z),λ_ z=>(by cases z)⟩,λ_ z=>(by cases z)⟩,r_ _,λrow hr=>?_,by show 1<=h-f;lia⟩
 .have:row=[]:=Ť hr;subst this;cases ho
 .have:row=[]:=Ť hr;subst this;exact r_ _
theorem Q6 (ks:b? (f?×Kp))(h:f?)(B:Kp):(cF ks h B).map (·.1)=ks.map (·.1):=by
 unfold cF;rw[aav];refine aaG λc _=>?_;show(if c.1=h then(h,B)else c).1=c.1;split
 .rename_i z;exact z.symm
 .rfl
theorem j06 {is:yl}{i:i_}{x:b? f?×b? f?}(nd:(is.map (·.1)).Nodup)(e:is[i]?=some x):jx is x.1=x.2:=(xM x.1 is).symm.trans (Jn nd e)
theorem Q7 (xs:b? f?)(o:O):(il xs o).length=xs.length:=by unfold il;rw[kY,kY]
theorem qS:∀(os:b? O)(ns:b? f?),(bT ns os).length=ns.length
 |[],_=>a_
 |o::os,ns=>(qS os (il ns o)).trans (Q7 ns o)
noncomputable def oB (p:f?)(os:b? O):f?:=((os.filter λo=>s? (o.g=p)).map (·.m)).sum
noncomputable def oC (p:f?)(os:b? O):f?:=((aH p os).map (·.m)).sum
theorem J1 {xs ys:b? f?}(h:xs.Perm ys):xs.sum=ys.sum:=by
 induction h with
 |nil=>rfl
 |cons x _ ih=>rw[ŋ,ŋ,ih]
 |swap x y l=>rw[ŋ,ŋ,ŋ,ŋ];lia
 |trans _ _ a b=>exact a.trans b
theorem Cb {α:Type}[ĝ α]{f:α->f?}:∀{xs ys:b? α},xs.Nodup->(∀x∈xs,x∈ys)->(∀y∈ys,0<=f y)->(xs.map f).sum<=(ys.map f).sum
 |[],[],_,_,_=>abv _
 |[],y::ys,nd,h,p=>by have:=Cb (f:=f) (xs:=[]) (ys:=ys) nd (λ_ z=>by cases z) (λy hy=>p y (q_ _ hy));have:=p y p?;rw[A_,ŋ];lia
 |x::xs,ys,nd,h,p=>by rw[W']at nd;have hx:=h x p?;have:=Cb (f:=f) (xs:=xs) (ys:=ys.erase x) nd.2 (λy hy=>(aau (λz=>nd.1 (by rw[<-z];exact hy))).mpr (h y (q_ _ hy))) (λy hy=>p y (é hy));have e:=J1 ((ac1 hx).map f);rw[A_,ŋ]at e⊢;lia
theorem j43 {α:Type}[ĝ α]{xs ys:b? α}(nd:xs.Nodup)(h:∀x∈xs,x∈ys)(l:ys.length<=xs.length):∀y∈ys,y∈xs:=λy hy=>by
 by_cases z:y∈xs
 .exact z
 .have:=zl (xs:=y::xs) (ys:=ys) (W'.mpr ⟨z,nd⟩) λx hx=>by
   rcases D?.mp hx with rfl|hx
   .exact hy
   .exact h x hx
  rw[C?]at this;lia
theorem Cc {α:Type}[ĝ α]:∀{xs ys:b? α},xs.Nodup->ys.Nodup->(∀x,x∈xs↔x∈ys)->xs.Perm ys
 |[],[],_,_,_=>.nil
 |[],y::ys,_,_,h=>by cases(h y).mpr p?
 | x::xs,ys,nx,ny,h=>by
  rw[W']at nx;have hx:=(h x).mp p?;refine .trans (.cons x (Cc (ys:=ys.erase x) nx.2 (ny.erase x) λz=>?_)) (ac1 hx).symm;rw[ny.mem_erase_iff];constructor
  .exact λhz=>⟨λe=>nx.1 (e ▸ hz),(h z).mp (q_ _ hz)⟩
  .rintro⟨ne,hz⟩
   rcases D?.mp ((h z).mpr hz)with e|e
   .exact w_ e ne
   .exact e
theorem j64 {ns:b? f?}{o:O}(ho:zc ns.length o=true){p:f?}(h0:0<=p):gI (il ns o) p=gI ns p+(if o.g=p then o.m else 0)-(if o.p=p then o.m else 0):=by
 obtain⟨p0,p1,g0,g1,JZ,_⟩:=qc.mp ho;unfold il;rw[B9 g0 (by rw[kY];lia) h0,B9 p0 (by lia) h0,B9 p0 (by lia) g0];have h1:¬o.g=o.p:=λz=>JZ z.symm;by_cases a:p=o.g
 .subst a;simp only[j? h1,j? JZ,↓reduceIte];lia
 .have a':¬o.g=p:=λz=>a z.symm;by_cases b:p=o.p
  .subst b;simp only[j? a,j? a',↓reduceIte];lia
  .have b':¬o.p=p:=λz=>b z.symm;simp only[j? a,j? a',j? b,j? b'];lia
theorem yC {n:i_}{p:f?}(h0:0<=p):∀{os:b? O}{ns:b? f?},ns.length=n->(∀o∈os,zc n o=true)->gI (bT ns os) p=gI ns p+oB p os-oC p os
 |[],ns,_,_=>by show gI ns p=gI ns p+0-0;lia
 |o::os,ns,l,h=>by
  have ih:=yC h0 (os:=os) (ns:=il ns o) ((Q7 ns o).trans l) λu hu=>h u (q_ _ hu);have e:=j64 (ns:=ns) (o:=o) (by rw[l];exact h o p?) h0;show gI (bT (il ns o) os) p=_;have e1:oB p (o::os)=(if o.g=p then o.m else 0)+oB p os:=by unfold oB;by_cases z:o.g=p<;>simp[z]
  have e2:oC p (o::os)=(if o.p=p then o.m else 0)+oC p os:=by unfold oC aH;by_cases z:o.p=p<;>simp[z]
  rw[ih,e,e1,e2];lia
inductive dy (n:i_)(ns:b? f?):b? O->Prop where
 |nil:dy n ns []
 |snoc {os:b? O} {o:O}:dy n ns os->zc n o=true->o.n=((aH o.p os).length:f?)->o.m<=gI (bT ns os) o.p->dy n ns (os++[o])
theorem Q8 (p:f?)(os:b? O)(o:O):aH p (os++[o])=aH p os++if o.p=p then[o]else[]:=by unfold aH;rw[ı];congr 1;by_cases z:o.p=p<;>simp[z]
theorem dy.nums {n:i_}{ns:b? f?}{os:b? O}(h:dy n ns os)(p:f?):(aH p os).map (·.n)=upTo ((aH p os).length:f?):=by
 induction h with
 |nil=>rfl
 | snoc h io en em ih=>
  rename_i os o;rw[Q8];by_cases z:o.p=p
  .rw[m_ z,K_,p_,ih];have e:(((aH p os).length+[o].length:i_):f?)=((aH p os).length:f?)+1:=by simp
   rw[e,Q2 (by lia)];rw[z]at en;simp[en]
  .rw[j? z,â];exact ih
theorem Q9 {α β:Type}{f:α->β}:∀{xs:b? α},(xs.map f).Nodup->xs.Nodup
 |[],_=>Ņ
 |x::xs,h=>by rw[A_,W']at h;exact W'.mpr ⟨λz=>h.1 (Q? z),Q9 h.2⟩
theorem dy.nd {n:i_}{ns:b? f?}{os:b? O}(h:dy n ns os):os.Nodup:=by
 induction h with
 |nil=>exact Ņ
 |snoc h io en em ih=>rename_i os o;refine Ê.mpr ⟨ih,by simp,λx hx y hy e=>?_⟩;rw[j'.mp hy]at e;subst e;have m:x.n∈(aH x.p os).map (·.n):=Q? (D_.mpr ⟨hx,i? a_⟩);rw[h.nums x.p]at m;obtain⟨i,hi,ei⟩:=H?.mp m;have:=Z?.mp hi;lia
theorem dy.ord {n:i_}{ns:b? f?}{os:b? O}(h:dy n ns os):∀o∈os,zc n o=true:=by
 induction h with
 |nil=>exact λ_ z=>by cases z
 |snoc h io en em ih=>
  intro u hu;rcases v_.mp hu with hu|hu
  .exact ih u hu
  .rw[j'.mp hu];exact io
theorem j7e {p:f?}{xs ys:b? O}(h:∀o∈xs,o∈ys):∀o∈aH p xs,o∈aH p ys:=λo ho=>D_.mpr ⟨h o (D_.mp ho).1,(D_.mp ho).2⟩
theorem Ra {n:i_}{ns:b? f?}(ln:ns.length=n){C:O->Prop}(un:∀o o',C o->C o'->o.p=o'.p->o.n=o'.n->o=o'){d w:b? O}(hd:dy n ns d)(dc:∀o∈d,C o)(all:∀o,C o->o∈d\/o∈w)(dj:∀o∈w,o∉d)(nd:∀o∈w,¬(o.n=((aH o.p d).length:f?)/\o.m<=gI (bT ns d) o.p)){e:b? O}(he:dy n ns e):(∀o∈e,C o)->∀o∈e,o∈d:=by
 induction he with
 |nil=>exact λ_ _ z=>by cases z
 | snoc h io en em ih=>
  rename_i os o;intro ec;have sub:=ih λu hu=>ec u (I_ _ hu);intro u hu;rcases v_.mp hu with hu|hu
  .exact sub u hu
  rw[j'.mp hu];have oc:=ec o (z_ _ (j'.mpr a_));rcases all o oc with z|z
  .exact z
  exfalso;have sP:=j7e (p:=o.p) sub;have Rb:(aH o.p os).Nodup:=h.nd.filter _;have ndD:(aH o.p d).Nodup:=hd.nd.filter _;have le:=zl Rb sP;by_cases y:(aH o.p os).length<(aH o.p d).length
  .have m:o.n∈upTo ((aH o.p d).length:f?):=H?.mpr ⟨o.n.toNat,Z?.mpr (by lia),by lia⟩;rw[<-hd.nums o.p]at m;obtain⟨o',aV,en'⟩:=H?.mp m;obtain⟨m1,m2⟩:=D_.mp aV;have:o=o':=un o o' oc (dc o' m1) (n? m2).symm en'.symm;subst this;exact dj o z m1
  .have back:=j43 Rb sP (by lia);have p0:=(qc.mp io).1;have mp:∀u∈d,0<=u.m:=λu hu=>by
    have:=(qc.mp (hd.ord u hu)).2.2.2.2.2.2.2.1;lia
   have o1:oC o.p d<=oC o.p os:=Cb ndD back λu hu=>mp u (sub u (D_.mp hu).1);have i1:oB o.p os<=oB o.p d:=Cb (h.nd.filter _) (λu hu=>D_.mpr ⟨sub u (D_.mp hu).1,(D_.mp hu).2⟩) λu hu=>mp u (D_.mp hu).1;have g1:=yC (p:=o.p) p0 ln h.ord;have g2:=yC (p:=o.p) p0 ln hd.ord;exact nd o z ⟨by lia,by lia⟩
theorem Rc {B:Kp}{Q:Gv->Prop}:∀{os:b? O}{a:Gv},(∀o∈os,∀a,Q a->Q (cR B o a))->Q a->Q (gv B os a)
 |[],_,_,h=>h
 |o::os,a,hs,h=>by unfold gv;rw[Ż];exact Rc (λu hu=>hs u (q_ _ hu)) (hs o p? a h)
structure Cd (c0:b? ((f?×f?)×O))(a:Gv):Prop where
 ck:(a.1.map (·.1)).Nodup
 cp:∀c∈a.1,c.1=(c.2.p,c.2.n)
 mo:∀c∈c0,c∈a.1
 vt:∀o∈a.2.1,((o.p,o.n),o)∈a.1
theorem Cd.step {c0:b? ((f?×f?)×O)}{B:Kp}{o:O}{a:Gv}(g:Cd c0 a):Cd c0 (cR B o a):=by
 unfold cR;split
 .rename_i z;rw[L_]at z;have nc:∀x∈a.1,x.1≠(o.p,o.n):=λx hx e=>by
   have:kZ a.1 o=true:=abu.mpr ⟨x,hx,i? e⟩;rw[this]at z;cases z.2
  refine⟨?_,λc hc=>?_,λc hc=>I_ _ (g.mo c hc),λu hu=>?_⟩
  .show((a.1++[((o.p,o.n),o)]).map (·.1)).Nodup;rw[K_];refine Ê.mpr ⟨g.ck,by simp,λx hx y hy e=>?_⟩;obtain⟨c,hc,rfl⟩:=H?.mp hx;rw[j'.mp hy]at e;exact nc c hc e
  .rcases v_.mp hc with hc|hc
   .exact g.cp c hc
   .rw[j'.mp hc]
  .rcases v_.mp hu with hu|hu
   .exact I_ _ (g.vt u hu)
   .rw[j'.mp hu];exact z_ _ (j'.mpr a_)
 .split
  .exact⟨g.ck,g.cp,g.mo,g.vt⟩
  .exact g
structure KZ (L:b? O)(n:i_)(ns:b? f?)(B:Kp):Prop where
 hn:B.ug.Nodup
 hl:∀o∈B.ug,o∈L
 uc:B.aA.length+B.cho.length<=B.ug.length
 ul:∀o∈B.aA,o∈L
 wl:∀o∈B.wait,o∈L
 ck:(B.cho.map (·.1)).Nodup
 cp:∀c∈B.cho,c.1=(c.2.p,c.2.n)
 hi:dy n ns B.done
noncomputable def Kp.calm (B:Kp):Prop:=∀o∈B.wait,B.due o=false
structure Kept (L:b? O)(n:i_)(ns:b? f?)(B κ':Kp)(vs:b? O):Prop where
 z:KZ L n ns κ'
 ca:κ'.calm
 mo:∀c∈B.cho,c∈κ'.cho
 vt:∀o∈vs,((o.p,o.n),o)∈κ'.cho
 vl:∀o∈vs,o∈L
 dm:∀o∈B.done,o∈κ'.done
 wm:∀o∈B.wait,o∈κ'.done\/o∈κ'.wait
 vn:vs.length<=κ'.ug.length
section
variable {L:b? O}{n:i_}{ns:b? f?}{B:Kp}
theorem KZ.mono {L':b? O}(z:KZ L n ns B)(h:∀o∈L,o∈L'):KZ L' n ns B:=⟨z.hn,λo ho=>h o (z.hl o ho),z.uc,λo ho=>h o (z.ul o ho),λo ho=>h o (z.wl o ho),z.ck,z.cp,z.hi⟩
theorem KZ.xk (z:KZ L n ns B)(ca:B.calm):Kept L n ns B B.xk.1 B.xk.2:=by
 have g:Cd B.cho (gv B B.aA (B.cho,[],[])):=Rc (λo _ a h=>h.step) ⟨z.ck,z.cp,λ_ h=>h,λ_ h=>by cases h⟩;have s:=JX B B.aA (B.cho,[],[]);have l2:=(BD B B.aA (B.cho,[],[])).2.1;have uc:=z.uc;refine⟨⟨z.hn,z.hl,?_,BB B B.aA _ z.ul (λo h=>by cases h),z.wl,g.ck,g.cp,z.hi⟩,ca,g.mo,g.vt,JY B B.aA _ z.ul (λo h=>by cases h),λ_ h=>h,λ_ h=>.inr h,?_⟩
 .show(gv B B.aA (B.cho,[],[])).2.2.length+(gv B B.aA (B.cho,[],[])).1.length<=B.ug.length;simp at s;lia
 .show(gv B B.aA (B.cho,[],[])).2.1.length<=B.ug.length;simp at l2;lia
theorem Rf:∀{m:i_}{B:Kp},B.wait.length<=m->(Kp.go m B).calm
 |0,B,h=>by intro o ho;have:B.wait=[]:=Ŏ.mp (by lia);have aV:o∈B.wait:=ho;rw[this]at aV;cases aV
 |m+1,B,h=>by
  unfold Kp.go;cases e:B.first with
  |none=>intro o ho;have:=adt.mp e o ho;simpa using this
  |some o=>have om:=qI e;have l2:(B.step o).wait.length=B.wait.length-1:=æ om;have:=û om;exact Rf (B:=B.step o) (by lia)
structure nK (L:b? O)(n:i_)(ns:b? f?)(B κ':Kp):Prop where
 z:KZ L n ns κ'
 ch:κ'.cho=B.cho
 hd:κ'.ug=B.ug
 dm:∀o∈B.done,o∈κ'.done
 wm:∀o∈B.wait,o∈κ'.done\/o∈κ'.wait
theorem KZ.go {C:O->o?}(lo:∀o∈L,zc n o=true):∀{m:i_}{B:Kp},KZ L n ns B->KX L C n ns B->B.Ok n->nK L n ns B (Kp.go m B)
 |0,B,z,_,_=>⟨z,a_,a_,λ_ h=>h,λ_ h=>.inr h⟩
 | m+1,B,z,k,ok=>by
  unfold Kp.go;cases e:B.first with
  |none=>exact⟨z,a_,a_,λ_ h=>h,λ_ h=>.inr h⟩
  |some o=>
   have om:=qI e;have du:B.due o=true:=abJ (p:=B.due) e;have io:=ok.w o om;have yD:=du;unfold Kp.due at yD;rw[L_,O_,O_]at yD;obtain⟨p0,p1,_⟩:=qc.mp io;obtain⟨g0,eg⟩:=k.nm o.p p0 (by lia);have el:((aH o.p B.done).length:f?)=gI B.uw o.p:=by have:=X? Ĕ eg;rw[g_]at this;rw[this];unfold upTo;rw[g_,ß];lia
   have zs:KZ L n ns (B.step o):=⟨z.hn,z.hl,z.uc,z.ul,λu hu=>z.wl u (é hu),z.ck,z.cp,.snoc z.hi io (show o.n=((aH o.p B.done).length:f?)by lia) (by show o.m<=gI (bT ns B.done) o.p;rw[<-k.he];exact yD.2)⟩;have r:=KZ.go (m:=m) lo zs (k.step ok io (z.wl o om) om du) (ok.step o);refine⟨r.z,r.ch,r.hd,λu hu=>r.dm u (I_ _ hu),λu hu=>?_⟩;by_cases y:u=o
   .subst y;exact .inl (r.dm u (z_ _ (j'.mpr a_)))
   .exact r.wm u ((aau y).mpr hu)
theorem KX.add {C:O->o?}(lo:∀o∈L,zc n o=true)(k:KX L C n ns B)(ok:B.Ok n){o:O}(ol:o∈L)(cb:C o=true)(no:¬o∈B.wait)(np:¬B.past o=true):KX L C n ns {B with wait:=B.wait++[o]}/\Kp.Ok n {B with wait:=B.wait++[o]}:=by
 refine⟨⟨k.he,k.h0,k.hs,k.nm,k.dl,λu hu=>?_,λu hu hd=>?_⟩,⟨ok.h,ok.x,ok.u,λu hu=>?_,Ê.mpr ⟨ok.nd,by simp,λx hx y hy e=>by rw[j'.mp hy]at e;subst e;exact no hx⟩⟩⟩
 .rcases v_.mp hu with hu|hu
  .exact k.wc u hu
  .rw[j'.mp hu];exact cb
 .rcases v_.mp hu with hu|hu
  .exact k.wd u hu hd
  .rw[j'.mp hu]at hd;exact np (k.past lo hd)
 .rcases v_.mp hu with hu|hu
  .exact ok.w u hu
  .rw[j'.mp hu];exact lo o ol
theorem KZ.take {C:O->o?}(lo:∀o∈L,zc n o=true)(z:KZ L n ns B)(k:KX L C n ns B)(ok:B.Ok n)(ca:B.calm)(b:o?){o:O}(ol:o∈L)(oc:b=false->C o=true):Kept L n ns B (B.take b o).1 (B.take b o).2/\(b=false->o∈(B.take b o).1.done\/o∈(B.take b o).1.wait\/B.past o=true):=by
 have same:Kept L n ns B B []:=⟨z,ca,λ_ h=>h,λ_ h=>(by cases h),λ_ h=>(by cases h),λ_ h=>h,λ_ h=>.inr h,T? _⟩;unfold Kp.take;split
 .rename_i hb;refine⟨?_,λe=>by rw[hb]at e;cases e⟩;unfold Kp.ox;split
  .exact same
  .rename_i nh;have z1:KZ L n ns {B with ug:=B.ug++[o],aA:=B.aA++[o]}:=by
    refine⟨Ê.mpr ⟨z.hn,by simp,λx hx y hy e=>by rw[j'.mp hy]at e;subst e;exact nh hx⟩,λu hu=>?_,?_,λu hu=>?_,z.wl,z.ck,z.cp,z.hi⟩
    .rcases v_.mp hu with hu|hu
     .exact z.hl u hu
     .rw[j'.mp hu];exact ol
    .show(B.aA++[o]).length+B.cho.length<=(B.ug++[o]).length;rw[p_,p_];have:=z.uc;show B.aA.length+1+B.cho.length<=B.ug.length+1;lia
    .rcases v_.mp hu with hu|hu
     .exact z.ul u hu
     .rw[j'.mp hu];exact ol
   have r:=z1.xk ca;exact⟨r.z,r.ca,r.mo,r.vt,r.vl,r.dm,r.wm,r.vn⟩
 .unfold Kp.jN;split
  .rename_i y;refine⟨same,λ_=>?_⟩;rw[Œ,O_]at y;rcases y with y|y
   .exact .inr (.inr y)
   .exact .inr (.inl y)
  .rename_i nz;have no:¬o∈B.wait:=λz=>nz (by rw[i? z,ť]);have z1:KZ L n ns {B with wait:=B.wait++[o]}:=by
    refine⟨z.hn,z.hl,z.uc,z.ul,λu hu=>?_,z.ck,z.cp,z.hi⟩;rcases v_.mp hu with hu|hu
    .exact z.wl u hu
    .rw[j'.mp hu];exact ol
   have np:¬B.past o=true:=λz=>nz (by rw[z,ac3]);obtain⟨k1,J2⟩:=k.add lo ok ol (oc (by rename_i nb;simpa using nb)) no np;have g:=KZ.go (m:=(B.wait++[o]).length) lo z1 k1 J2;have cu:(Kp.ou {B with wait:=B.wait++[o]}).calm:=Rf (r_ _);have r:=KZ.xk (B:=Kp.ou {B with wait:=B.wait++[o]}) g.z cu;refine⟨⟨r.z,r.ca,λc hc=>r.mo c (by show c∈(Kp.ou _).cho;rw[show(Kp.ou {B with wait:=B.wait++[o]}).cho=_ from g.ch];exact hc),r.vt,r.vl,λu hu=>r.dm u (g.dm u hu),λu hu=>?_,r.vn⟩,λ_=>?_⟩
   .rcases g.wm u (I_ _ hu)with h|h
    .exact .inl (r.dm u h)
    .exact r.wm u h
   .rcases g.wm o (z_ _ (j'.mpr a_))with h|h
    .exact .inl (r.dm o h)
    .rcases r.wm o h with h|h
     .exact .inl h
     .exact .inr (.inl h)
end
noncomputable def mC (Y:Wd)(L:b? O):i_:=(L.filter λo=>!Y.carried o).length
structure Gz (Y:Wd)(T F:i_)(L:b? O)(ls ns:b? f?):Prop where
 ok:Y.Ok
 l:L.length<=T
 lo:∀o∈L,zc Y.n o=true
 mw:∀o∈L,Y.may o
 ks:∀c∈Y.ks,KX L Y.carried Y.n ns c.2/\KZ L Y.n ns c.2/\c.2.calm
 g:WG Y L (Y.ks.map (·.1)++ls)
 wl:Y.way.length+Y.ks.length*mC Y L<=F
 al:∀row∈Y.asked,row.length<=T
 e1:1<=Y.en
 vt:∀c∈Y.ks,∀o,c.1∈jx Y.bd (yh o)->((o.p,o.n),o)∈c.2.cho
 pp:∀c∈Y.ks,∀o,Y.carried o=true->(false,c.1,o)∈Y.way\/o∈c.2.done\/o∈c.2.wait
 dj:∀c∈Y.ks,c.1∉ls
 qu:((Y.ks.length+ls.length+ls.length:i_):f?)<2*Y.en
 nl:ns.length=Y.n
theorem Rg {α:Type}(p:α->o?):∀xs:b? α,(xs.filter p).length+(xs.filter λx=>!p x).length=xs.length
 |[]=>a_
 |x::xs=>by have:=Rg p xs;cases h:p x<;>simp[h]<;>lia
theorem J3 {α:Type}{p q:α->o?}(h:∀x,q x=true->p x=true):∀xs:b? α,(xs.filter q).length<=(xs.filter p).length
 |[]=>r_ _
 | x::xs=>by
  have:=J3 h xs;cases hq:q x with
  |true=>rw[V' hq,V' (h x hq)];simpa using this
  |false=>
   rw[É (by simp[hq])];cases hp:p x with
   |true=>rw[V' hp,C?];lia
   |false=>rw[É (by simp[hp])];exact this
theorem Rh {α:Type}{p q:α->o?}(h:∀x,q x=true->p x=true){y:α}(hp:p y=true)(hq:q y=false):∀{xs:b? α},y∈xs->(xs.filter q).length+1<=(xs.filter p).length
 | x::xs,hy=>by
  rcases D?.mp hy with rfl|hy
  .rw[É (by simp[hq]),V' hp,C?];have:=J3 h xs;lia
  .have:=Rh h hp hq hy;cases J4:q x with
   |true=>rw[V' J4,V' (h x J4),C?,C?];lia
   |false=>
    rw[É (by simp[J4])];cases Ri:p x with
    |true=>rw[V' Ri,C?];lia
    |false=>rw[É (by simp[Ri])];exact this
theorem Rj {α β:Type}:∀{xs:b? (α×β)}{k:α}{a b:β},(xs.map (·.1)).Nodup->(k,a)∈xs->(k,b)∈xs->a=b
 | x::xs,k,a,b,nd,ha,hb=>by
  rw[A_,W']at nd;rcases D?.mp ha with e1|e1
  .rcases D?.mp hb with e2|e2
   .rw[<-e1]at e2;exact(Ó e2).2.symm
   .exact w_ (Q? (f:=(·.1)) e2) (by rw[<-e1]at nd;exact nd.1)
  .rcases D?.mp hb with e2|e2
   .exact w_ (Q? (f:=(·.1)) e1) (by rw[<-e2]at nd;exact nd.1)
   .exact Rj nd.2 e1 e2
section
variable {Y:Wd}{T F T' F':i_}{L:b? O}{ls ns:b? f?}
theorem Gz.mono (g:Gz Y T F L ls ns)(hT:T<=T')(hF:F<=F'):Gz Y T' F' L ls ns:=⟨g.ok,P_ g.l hT,g.lo,g.mw,g.ks,g.g,P_ g.wl hF,λrow hr=>P_ (g.al row hr) hT,g.e1,g.vt,g.pp,g.dj,g.qu,g.nl⟩
theorem Gz.un (g:Gz Y T F L ls ns){o o':O}(c:Y.carried o=true)(c':Y.carried o'=true)(ep:o.p=o'.p)(en:o.n=o'.n):o=o':=by
 refine afD λne=>?_;have Rk:∀k,(jx Y.bd k).Nodup/\∀h∈jx Y.bd k,h∈Y.ks.map (·.1)++ls:=λk=>by
  rcases JE (k:=k) (is:=Y.bd)with e|⟨x,hx,e⟩
  .rw[e];exact⟨Ņ,λ_ z=>by cases z⟩
  .rw[e];exact g.g.b.hn x hx
 obtain⟨a1,a2⟩:=Rk (yh o);obtain⟨b1,b2⟩:=Rk (yh o');have la:=n? c;have lb:=n? c';have v:=g.vt;have honest:∀h∈jx Y.bd (yh o),h∈jx Y.bd (yh o')->h∈ls:=λh h1 h2=>by
  rcases v_.mp (a2 h h1)with hk|hl
  .obtain⟨c,hc,rfl⟩:=H?.mp hk;have e1:=v c hc o h1;have e2:=v c hc o' h2;rw[<-ep,<-en]at e2;exact w_ (Rj ((g.ks c hc).2.1.ck) e1 e2) ne
  .exact hl
 generalize jx Y.bd (yh o)=A at a1 a2 la honest;generalize jx Y.bd (yh o')=Bq at b1 b2 lb honest;have s1:=Rg (λx=>s? (x∈Bq)) A;have i1:(A.filter λx=>s? (x∈Bq)).length<=ls.length:=zl (a1.filter _) λx hx=>honest x (D_.mp hx).1 (n? (D_.mp hx).2);have u1:((A.filter λx=>!s? (x∈Bq))++Bq).length<=(Y.ks.map (·.1)++ls).length:=zl (Ê.mpr ⟨a1.filter _,b1,λx hx y hy e=>by
   have:=(D_.mp hx).2;rw[e,i? hy]at this;cases this⟩) λx hx=>by
  rcases v_.mp hx with hx|hx
  .exact a2 x (D_.mp hx).1
  .exact b2 x hx
 rw[p_,p_,g_]at u1;have:=g.qu;lia
theorem jyb (Y:Wd)(h:f?)(o:O):(∀k,jx (Y.ba h o).bd k=jx Y.bd k)/\(Y.put h o).2=false\/(∀k,jx (Y.ba h o).bd k=if k=yh o then jx Y.bd (yh o)++[h]else jx Y.bd k)/\(Y.put h o).2=s? (((jx Y.bd (yh o)).length:f?)+1=Y.en):=by
 rw[sR];unfold Wd.put;split
 .exact .inl ⟨λ_=>a_,a_⟩
 .exact .inr ⟨λk=>Ca,a_⟩
theorem j37 (Y:Wd)(h:f?)(o:O):(Y.ba h o).way=Y.way++if(Y.put h o).2=true then Y.ks.map λc=>(false,c.1,o)else[]:=by
 have e1:(Y.put h o).1.way=Y.way/\(Y.put h o).1.ks=Y.ks:=by unfold Wd.put;split<;>exact⟨a_,a_⟩
 unfold Wd.ba;split
 .show(Y.put h o).1.way++(Y.put h o).1.ks.map _=_;rw[e1.1,e1.2]
 .rw[â,e1.1]
theorem Gz.ba (g:Gz Y T F L ls ns){h:f?}{o:O}(hh:h∈Y.ks.map (·.1)++ls)(ol:o∈L)(hv:∀c∈Y.ks,c.1=h->((o.p,o.n),o)∈c.2.cho):Gz (Y.ba h o) T F L ls ns:=by
 have lk:=yB Y h o;have cc:∀u,Y.carried u=true->(Y.ba h o).carried u=true:=λu=>Q5;have hs:=jyb Y h o;have ew:=j37 Y h o;have car:∀u,(Y.ba h o).carried u=s? (Y.en<=((jx (Y.ba h o).bd (yh u)).length:f?)):=λu=>by unfold Wd.carried;rw[lk.e]
 have new:∀u,(Y.ba h o).carried u=true->Y.carried u=true\/u=o/\(Y.put h o).2=true:=λu hu=>by
  rw[car u]at hu;rcases hs with⟨e,_⟩|⟨e,e2⟩
  .rw[e]at hu;exact .inl hu
  .rw[e]at hu;split at hu
   .rename_i z;have uo:u=o:=qH z;subst uo;by_cases y:Y.carried u=true
    .exact .inl y
    .refine .inr ⟨a_,?_⟩;rw[e2];have a1:=n? hu;rw[p_]at a1;have a2:¬Y.en<=((jx Y.bd (yh u)).length:f?):=λq=>y (i? q);refine i? ?_;have a3:Y.en<=((jx Y.bd (yh u)).length:f?)+1:=a1;lia
   .exact .inl hu
 have uc:mC (Y.ba h o) L+(if(Y.put h o).2=true then 1 else 0)<=mC Y L:=by
  have im:∀u:O,(!(Y.ba h o).carried u)=true->(!Y.carried u)=true:=λu hu=>by
   cases e:Y.carried u with
   |false=>rfl
   |true=>rw[cc u e]at hu;cases hu
  split
  .rename_i z;refine Rh im (y:=o) ?_ ?_ ol
   .cases e:Y.carried o with
    |false=>rfl
    |true=>
     exfalso;rcases hs with⟨_,e2⟩|⟨_,e2⟩
     .rw[e2]at z;cases z
     .rw[e2]at z;have:=n? z;have:=n? e;lia
   .have:=Q4 z;unfold Wd.carried at this⊢;rw[sR,lk.e,<-(yA Y h o).e,this];rfl
  .exact J3 im L
 refine⟨⟨by rw[lk.n];exact g.ok.n8,by rw[lk.a,lk.n];exact g.ok.al,by rw[lk.a,lk.n];exact g.ok.ao,by rw[lk.k,lk.n];exact g.ok.ks,by rw[lk.k];exact g.ok.nd,by rw[lk.k];exact g.ok.k0,by rw[lk.k];exact g.ok.k1⟩,g.l,by rw[lk.n];exact g.lo,λu hu=>?_,?_,by rw[lk.k];exact(g.g.ba ol hh).1,?_,by rw[lk.a];exact g.al,by rw[lk.e];exact g.e1,?_,?_,by rw[lk.k];exact g.dj,by rw[lk.k,lk.e];exact g.qu,by rw[lk.n];exact g.nl⟩
 .have:=g.mw u hu;unfold Wd.may at this⊢;rw[lk.c,lk.a];exact this
 .rw[lk.k,lk.n];exact λc hc=>⟨(g.ks c hc).1.mono (λ_ h=>h) cc,(g.ks c hc).2⟩
 .rw[lk.k,ew,p_];have w:=g.wl;have m:=aas Y.ks.length uc;rw[acY]at m;split
  .rename_i z;rw[m_ z]at m;rw[g_];lia
  .rename_i z;rw[j? z]at m;show Y.way.length+0+_<=F;lia
 .rw[lk.k];intro c hc u hu;rcases hs with⟨e,_⟩|⟨e,_⟩
  .rw[e]at hu;exact g.vt c hc u hu
  .rw[e]at hu;split at hu
   .rename_i z;have uo:u=o:=qH z;subst uo;rcases v_.mp hu with hu|hu
    .exact g.vt c hc u hu
    .exact hv c hc (j'.mp hu)
   .exact g.vt c hc u hu
 .rw[lk.k,ew];intro c hc u hu;rcases new u hu with h1|⟨rfl,h1⟩
  .rcases g.pp c hc u h1 with q|q
   .exact .inl (I_ _ q)
   .exact .inr q
  .rw[m_ h1];exact .inl (z_ _ (Q? (f:=λc:f?×Kp=>(false,c.1,u)) hc))
theorem Gz.xk {h:f?}:∀{os:b? O}{Y:Wd},Gz Y T F L ls ns->h∈Y.ks.map (·.1)++ls->(∀o∈os,o∈L)->(∀c∈Y.ks,c.1=h->∀o∈os,((o.p,o.n),o)∈c.2.cho)->Gz (Y.xk h os) T F L ls ns
 |[],_,g,_,_,_=>g
 |o::os,Y,g,hh,ol,hv=>by have lk:=yB Y h o;have g1:=g.ba hh (ol o p?) λc hc e=>hv c hc e o p?;exact Gz.xk (os:=os) g1 (by rw[lk.k];exact hh) (λu hu=>ol u (q_ _ hu)) (by rw[lk.k];exact λc hc e u hu=>hv c hc e u (q_ _ hu))
theorem Gz.lie (g:Gz Y T F L ls ns){h:f?}(hh:h∈ls){o:O}(ol:o∈L):Gz (Y.xk h [o]) T F L ls ns:=g.xk (z_ _ hh) (λu hu=>by rw[j'.mp hu];exact ol) λc hc e=>w_ hh (by rw[<-e];exact g.dj c hc)
theorem Gz.Rl (g:Gz Y T F L ls ns){b:o?}{h:f?}{o:O}(ol:o∈L)(hh:h∈Y.ks.map (·.1))(hb:b=false->Y.carried o=true):Gz {Y with way:=Y.way++[(b,h,o)]} T (F+1) L ls ns:=by
 refine⟨⟨g.ok.n8,g.ok.al,g.ok.ao,g.ok.ks,g.ok.nd,g.ok.k0,g.ok.k1⟩,g.l,g.lo,g.mw,g.ks,⟨g.g.b,λx hx=>?_⟩,?_,g.al,g.e1,g.vt,λc hc u hu=>?_,g.dj,g.qu,g.nl⟩
 .rcases v_.mp (show x∈Y.way++[(b,h,o)]from hx)with hx|hx
  .exact g.g.y x hx
  .rw[j'.mp hx];exact⟨ol,hh,hb⟩
 .have:=g.wl;show(Y.way++[(b,h,o)]).length+Y.ks.length*mC Y L<=F+1;rw[p_];show Y.way.length+1+_<=_;lia
 .rcases g.pp c hc u hu with q|q
  .exact .inl (I_ _ q)
  .exact .inr q
theorem Rm (Y:Wd)(o:O)(L:b? O):mC Y (o::L)<=mC Y L+1:=by
 unfold mC;rw[b?.filter_cons];split
 .rw[C?];exact r_ _
 .omega
theorem Gz.more (g:Gz Y T F L ls ns){o:O}(ho:zc Y.n o=true)(hm:Y.may o):Gz Y (T+1) (F+16) (o::L) ls ns:=by
 have sub:∀u∈L,u∈o::L:=λu h=>q_ _ h;refine⟨g.ok,by rw[C?];have:=g.l;lia,λu hu=>?_,λu hu=>?_,λc hc=>⟨(g.ks c hc).1.mono sub λ_ h=>h,(g.ks c hc).2.1.mono sub,(g.ks c hc).2.2⟩,⟨g.g.b.mono sub,λx hx=>?_⟩,?_,λrow hr=>ţ (g.al row hr),g.e1,g.vt,g.pp,g.dj,g.qu,g.nl⟩
 .rcases D?.mp hu with rfl|hu
  .exact ho
  .exact g.lo u hu
 .rcases D?.mp hu with rfl|hu
  .exact hm
  .exact g.mw u hu
 .obtain⟨a,b,c⟩:=g.g.y x hx;exact⟨sub _ a,b,c⟩
 .have:=g.wl;have m:=aas Y.ks.length (Rm Y o L);have:=g.ok.k1;rw[acY]at m;lia
theorem Gz.qbw (g:Gz Y T F L ls ns){o:O}{h:f?}(ho:zc Y.n o=true)(hm:o.p∈Y.eX)(hh:h∈Y.ks.map (·.1)):Gz {Y with way:=Y.way++[(true,h,o)]} (T+1) (F+17) (o::L) ls ns:=(g.more ho (.inl hm)).Rl p? hh (λz=>by cases z)
theorem J6 {α:Type}{x y:α}:∀{xs:b? α}{i:i_},x∈xs->xs[i]?=some y->x≠y->x∈xs.eraseIdx i
 |z::xs,0,h,e,ne=>by
  rcases D?.mp h with rfl|h
  .exact w_ (s_ e) ne
  .exact h
 |z::xs,i+1,h,e,ne=>by
  rcases D?.mp h with rfl|h
  .exact p?
  .exact q_ _ (J6 (i:=i) h (by simpa using e) ne)
theorem Gz.past (g:Gz Y T F L ls ns){c:f?×Kp}(hc:c∈Y.ks){o:O}(ol:o∈L)(oc:Y.carried o=true)(h:c.2.past o=true):o∈c.2.done:=by obtain⟨kx,_⟩:=g.ks c hc;obtain⟨p0,p1,_,_,_,n0,_⟩:=qc.mp (g.lo o ol);obtain⟨g0,e⟩:=kx.nm o.p p0 (by lia);have lt:=n? h;have m:o.n∈upTo (gI c.2.uw o.p):=H?.mpr ⟨o.n.toNat,Z?.mpr (by lia),by lia⟩;rw[<-e]at m;obtain⟨o',aV,en⟩:=H?.mp m;obtain⟨m1,m2⟩:=D_.mp aV;have:o=o':=g.un oc (kx.dl o' m1).2 (n? m2).symm en.symm;rw[this];exact m1
theorem Kp.big (B:Kp):xQ B (B.ug.length+(B.aA.length+B.cho.length)+(B.done.length+B.wait.length)):=⟨by lia,by lia,by lia⟩
theorem j7a {n:i_}{B:Kp}(z:KZ L n ns B)(ok:B.Ok n)(b:o?){o:O}(ol:o∈L)(ho:zc n o=true):(B.take b o).1.Ok n:=(dD.take ⟨ok,B.big,z.ul,z.wl⟩ b ol ho).1.ok
theorem Gz.xK (g:Gz Y T F L ls ns){i:i_}{l:o?×f?×O}{B:Kp}(el:Y.way[i]?=some l)(ek:Y.keep l.2.1=some B):Gz (Y.xK i l B) T (F-1) L ls ns:=by
 obtain⟨lL,lh,lc⟩:=g.g.y l (u_ el);obtain⟨κ',Rn,km⟩:=sQ lh;rw[ek]at Rn;cases Rn;obtain⟨kx,kz,ca⟩:=g.ks _ km;have ok:B.Ok Y.n:=g.ok.ks _ km;have lt:=(l?.mp el).1;obtain⟨r,rp⟩:=kz.take g.lo kx ok ca l.1 lL lc;have kx1:=kx.take g.lo ok kz.wl l.1 lL lc;have J2:=j7a kz ok l.1 lL (g.lo _ lL);have gL:=Q6 Y.ks l.2.1 (B.take l.1 l.2.2).1;have split:∀c∈cF Y.ks l.2.1 (B.take l.1 l.2.2).1,(c.1=l.2.1/\c.2=(B.take l.1 l.2.2).1)\/(c∈Y.ks/\c.1≠l.2.1):=λc hc=>by
  obtain⟨c',kA,rfl⟩:=H?.mp hc;split
  .exact .inl ⟨a_,a_⟩
  .rename_i z;exact .inr ⟨kA,z⟩
 have mid:Gz {Y with way:=Y.way.eraseIdx i,ks:=cF Y.ks l.2.1 (B.take l.1 l.2.2).1} T (F-1) L ls ns:=by
  refine⟨⟨g.ok.n8,g.ok.al,g.ok.ao,λc hc=>?_,by show((cF Y.ks l.2.1 _).map _).Nodup;rw[gL];exact g.ok.nd,by show 0<(cF _ _ _).length;rw[sH];exact g.ok.k0,by show(cF _ _ _).length<=16;rw[sH];exact g.ok.k1⟩,g.l,g.lo,g.mw,λc hc=>?_,?_,?_,g.al,g.e1,λc hc u hu=>?_,λc hc u hu=>?_,λc hc=>?_,by show(((cF _ _ _).length+_+_:i_):f?)<_;rw[sH];exact g.qu,g.nl⟩
  .rcases split c hc with⟨e1,e2⟩|⟨h1,_⟩
   .rw[e2];exact J2
   .exact g.ok.ks c h1
  .rcases split c hc with⟨e1,e2⟩|⟨h1,_⟩
   .rw[e2];exact⟨kx1,r.z,r.ca⟩
   .exact g.ks c h1
  .show WG _ L ((cF Y.ks l.2.1 _).map (·.1)++ls);rw[gL];refine⟨g.g.b,λx hx=>?_⟩;obtain⟨a,b,c⟩:=g.g.y x (b?.mem_of_mem_eraseIdx hx);exact⟨a,by show _∈(cF Y.ks l.2.1 _).map (·.1);rw[gL];exact b,c⟩
  .show(Y.way.eraseIdx i).length+(cF _ _ _).length*mC Y L<=F-1;rw[sH,abH lt];have:=g.wl;lia
  .rcases split c hc with⟨e1,e2⟩|⟨h1,_⟩
   .rw[e2];rw[e1]at hu;exact r.mo _ (g.vt _ km u hu)
   .exact g.vt c h1 u hu
  .rcases split c hc with⟨e1,e2⟩|⟨h1,h2⟩
   .rw[e1,e2];rcases g.pp _ km u hu with q|q|q
    .by_cases y:(false,l.2.1,u)=l
     .have e:l.1=false:=by rw[<-y]
      have eu:l.2.2=u:=by rw[<-y]
      subst eu;rcases rp e with h|h|h
      .exact .inr (.inl h)
      .exact .inr (.inr h)
      .exact .inr (.inl (r.dm _ (g.past km lL (lc e) h)))
     .exact .inl (J6 q el y)
    .exact .inr (.inl (r.dm u q))
    .exact .inr (r.wm u q)
   .rcases g.pp c h1 u hu with q|q
    .exact .inl (J6 q el λy=>h2 (by rw[<-y]))
    .exact .inr q
  .rcases split c hc with⟨e1,_⟩|⟨h1,_⟩
   .rw[e1];exact g.dj _ km
   .exact g.dj c h1
 refine mid.xk (h:=l.2.1) (by show _∈(cF Y.ks l.2.1 _).map (·.1)++ls;rw[gL];exact I_ _ lh) r.vl λc hc e u hu=>?_;rcases split c hc with⟨_,e2⟩|⟨_,h2⟩
 .rw[e2];exact r.vt u hu
 .exact w_ e h2
theorem Gz.ask (g:Gz Y T F L ls ns)(hT:T<=90){p g' m:f?}{row:b? O}(hp:0<=p/\p<(Y.n:f?))(hg:0<=g'/\g'<(Y.n:f?))(ng:g'≠p)(hm:1<=m/\m<=1000)(er:Y.asked[p.toNat]?=some row):Gz (Y.asks ⟨p,row.length,g',m⟩ row) (T+1) (F+32) (⟨p,row.length,g',m⟩::L) ls ns:=by
 have lr:=g.al row (u_ er);have lp:=(l?.mp er).1;have ho:zc Y.n ⟨p,row.length,g',m⟩=true:=qc.mpr ⟨hp.1,by show p<=(Y.n:f?)-1;lia,hg.1,by show g'<=(Y.n:f?)-1;lia,λz=>ng z.symm,by show(0:f?)<=row.length;lia,by show(row.length:f?)<=99;lia,hm.1,hm.2⟩;generalize eo:(⟨p,row.length,g',m⟩:O)=o at ho;have op:o.p=p:=by rw[<-eo]
 have sub:∀u∈L,u∈o::L:=λu h=>q_ _ h;have ea:(Y.asks o row).asked=Y.asked.set p.toNat (row++[o]):=by rw[<-op];rfl
 refine⟨⟨g.ok.n8,by rw[ea,Ź];exact g.ok.al,λr hr u hu=>?_,g.ok.ks,g.ok.nd,g.ok.k0,g.ok.k1⟩,by rw[C?];have:=g.l;lia,λu h=>?_,λu h=>?_,λc hc=>⟨(g.ks c hc).1.mono sub λ_ h=>h,(g.ks c hc).2.1.mono sub,(g.ks c hc).2.2⟩,⟨g.g.b.mono sub,λx hx=>?_⟩,?_,λr hr=>?_,g.e1,g.vt,λc hc u hu=>?_,g.dj,g.qu,g.nl⟩
 .rw[ea]at hr;rcases ŗ hr with hr|rfl
  .exact g.ok.ao r hr u hu
  .rcases v_.mp hu with h|h
   .exact g.ok.ao row (u_ er) u h
   .rw[j'.mp h];exact ho
 .rcases D?.mp h with rfl|h
  .exact ho
  .exact g.lo u h
 .show u.p∈Y.eX\/∃mD,(Y.asks o row).asked[u.p.toNat]?=some mD/\u∈mD;rw[ea];rcases D?.mp h with rfl|h
  .rw[op];exact .inr ⟨_,Y_ lp,z_ _ (j'.mpr a_)⟩
  .rcases g.mw u h with h|⟨mD,e,h⟩
   .exact .inl h
   .by_cases z:u.p.toNat=p.toNat
    .rw[z]at e⊢;rw[er]at e;cases e;exact .inr ⟨_,Y_ lp,I_ _ h⟩
    .exact .inr ⟨mD,by rw[ø (λy=>z y.symm)];exact e,h⟩
 .rcases v_.mp (show x∈Y.way++Y.ks.map λc=>(true,c.1,o)from hx)with eU|eU
  .obtain⟨a,b,c⟩:=g.g.y x eU;exact⟨sub _ a,b,c⟩
  .obtain⟨c,hc,rfl⟩:=H?.mp eU;exact⟨p?,Q? hc,λz=>by cases z⟩
 .show(Y.way++Y.ks.map λc=>(true,c.1,o)).length+Y.ks.length*mC Y (o::L)<=F+32;rw[p_,g_];have:=g.wl;have m':=aas Y.ks.length (Rm Y o L);have:=g.ok.k1;rw[acY]at m';lia
 .rw[ea]at hr;rcases ŗ hr with hr|rfl
  .exact ţ (g.al r hr)
  .rw[p_];show row.length+1<=T+1;lia
 .rcases g.pp c hc u hu with q|q
  .exact .inl (I_ _ q)
  .exact .inr q
theorem Gz.row (g:Gz Y T F L ls ns){p:f?}(h0:0<=p)(h1:p<(Y.n:f?)):∃row,Y.asked[p.toNat]?=some row:=⟨_,u? (by rw[g.ok.al];lia)⟩
theorem Gz.way (g:Gz Y T F L ls ns):Y.way.length<=F:=by have:=g.wl;lia
theorem Gz.sz (g:Gz Y T F L ls ns):Sz Y L.length (Y.ks.length+ls.length) F:=by obtain⟨b1,b2⟩:=g.g.b.len;refine⟨b1,λx hx=>?_,g.way,g.ok.k1⟩;have:=b2 x hx;rwa[p_,g_]at this
theorem Gz.lq (g:Gz Y T F L ls ns){c:f?×Kp}(hc:c∈Y.ks):xQ c.2 L.length:=by
 obtain⟨kx,kz,_⟩:=g.ks c hc;have h1:=zl kz.hn kz.hl;have h2:=kz.uc;refine⟨h1,by lia,?_⟩;rw[<-p_];refine zl (Ê.mpr ⟨kz.hi.nd,(g.ok.ks c hc).nd,λx hx y hy e=>kx.wd y hy (by rw[<-e];exact hx)⟩) λx hx=>?_;rcases v_.mp hx with hx|hx
 .exact(kx.dl x hx).1
 .exact kz.wl x hx
theorem Gz.vn (g:Gz Y T F L ls ns){c:f?×Kp}(hc:c∈Y.ks)(b:o?){o:O}(ol:o∈L)(oc:b=false->Y.carried o=true):(c.2.take b o).2.length<=L.length:=by obtain⟨kx,kz,ca⟩:=g.ks c hc;have r:=(kz.take g.lo kx (g.ok.ks c hc) ca b ol oc).1;exact P_ r.vn (zl r.z.hn r.z.hl)
theorem Gz.jN (g:Gz Y T F L ls ns){t:b? f?}(h:t∈xu Y.bd Y.en):∃o∈L,t=yh o/\Y.carried o=true:=by obtain⟨x,hx,rfl⟩:=H?.mp h;obtain⟨h1,h2⟩:=D_.mp hx;obtain⟨o,ol,e⟩:=g.g.b.ks x h1;obtain⟨i,hi,ei⟩:=Ý.mp h1;refine⟨o,ol,e,?_⟩;unfold Wd.carried;rw[<-e,j06 g.g.b.nd (by rw[u? hi,ei])];exact h2
end
theorem qbm {h f:f?}{ns cs ls:b? f?}(h1:1<=h/\h<=16)(hf:0<=f)(lt:3*f<h)(l8:ns.length<=8)(n0:∀x∈ns,0<=x)(ll:(ls.length:f?)<=f)(lr:∀x∈ls,0<=x/\x<h)(lp:ls.Pairwise (·<·)):Gz (w0 h f ns cs ls) 0 0 [] ls ns:=by
 have g:=qa4 (cs:=cs) h1 hf lt l8 n0 ll lr;have ip:∀c∈(w0 h f ns cs ls).ks,c.2=ik ns/\c.1∈aQ ls h.toNat:=λc hc=>by obtain⟨i,hi,rfl⟩:=H?.mp (show c∈(aQ ls h.toNat).map λi=>(i,ik ns)from hc);exact⟨a_,hi⟩
 have lk:(w0 h f ns cs ls).ks.length=(aQ ls h.toNat).length:=g_ ..;have cn:(aQ ls h.toNat).Nodup:=by unfold aQ;exact abh _ (à _ (λa b cV z=>cV (f?.ofNat.inj z)) abr)
 have ln:ls.Nodup:=lp.imp λcV z=>by lia
 have cl:(aQ ls h.toNat++ls).length<=((V_ h.toNat).map λ(i:i_)=>(i:f?)).length:=zl (Ê.mpr ⟨cn,ln,λx hx y hy e=>(BM hx).2.2 (by rw[e];exact hy)⟩) λx hx=>by
  rcases v_.mp hx with hx|hx
  .exact(D_.mp hx).1
  .have:=lr x hx;exact H?.mpr ⟨x.toNat,Z?.mpr (by lia),by lia⟩
 rw[p_,g_,ß]at cl;have nc:∀o,¬(w0 h f ns cs ls).carried o=true:=λo hc=>by have:=n? hc;have:h-f<=(0:f?):=this;lia
 refine⟨g.ok,g.l,g.lo,g.mw,λc hc=>⟨(g.ks c hc).2,?_,?_⟩,g.g,?_,g.al,g.e1,λc hc o ho=>(by cases ho),λc hc o ho=>w_ ho (nc o),λc hc=>(BM (ip c hc).2).2.2,?_,a_⟩
 .rw[(ip c hc).1];exact⟨Ņ,λ_ z=>(by cases z),r_ _,λ_ z=>(by cases z),λ_ z=>(by cases z),Ņ,λ_ z=>(by cases z),.nil⟩
 .rw[(ip c hc).1];exact λ_ z=>by cases z
 .show 0+(w0 h f ns cs ls).ks.length*0<=0;lia
 .show(((w0 h f ns cs ls).ks.length+ls.length+ls.length:i_):f?)<2*(h-f);rw[lk];lia
noncomputable def yE (Z:aq)(To R:c_):Prop:=Z To=some (9,.own 0)/\Z R=some (9,.own 1)
noncomputable def dE:Role->Prop:=λr=>r=(9,.own 0)\/r=(9,.own 1)
theorem J7 {Z:aq}{H H':Hp}{To R:c_}(tr:yE Z To R)(k:kX To R H H'):Fr (dE) Z H Z H':=λa u e n=>⟨k a u e (λz=>n (9,.own 0) (z ▸ tr.1) (.inl a_)) (λz=>n (9,.own 1) (z ▸ tr.2) (.inr a_)),a_⟩
theorem Ro {Z:aq}{H H':Hp}{To R:c_}(kr:ay Z H)(hT:cW To R H')(k:kX To R H H'):ay Z H':=λa r e=>by
 obtain⟨row,c,t1,t2,_⟩:=hT;by_cases z:a=To
 .subst z;exact⟨_,t1,xv⟩
 .by_cases y:a=R
  .subst y;exact⟨_,t2,xv⟩
  .obtain⟨u,hu,nu⟩:=kr a r e;exact⟨u,k a u hu z y,nu⟩
noncomputable def lD (ts:b? f?):Dt:=.tup (ts.map Dt.int)
noncomputable def sS (l:o?×f?×O):Dt:=.tup [.str (if l.1=true then"order"else"paper"),.int l.2.1,lD (yh l.2.2)]
theorem J8 {α:Type}{K:e?}{H:Hp}{F:α->Dt}{R:V->α->Prop}(h:∀x a,R x a->qt K H (F a) x):∀{xs:b? V}{as:b? α},h_ R xs as->y9 K H (as.map F) xs:=λ{xs as} q=>by
 induction q with
 |nil=>rw[ĉ,y9]
 |cons a t ih=>rw[A_,y9];exact(xa0 _ _ ⟨a_,h _ _ a,ih⟩)
theorem Rp {K:e?}{H:Hp}:∀ns:b? f?,y9 K H (ns.map Dt.int) (ns.map V.int)
 |[]=>by rw[ĉ,ĉ,y9]
 |n::ns=>by rw[A_,A_,y9];exact(xa0 _ _ ⟨a_,by rw[qt],Rp ns⟩)
theorem J9 {K:e?}{H:Hp}{a:c_}{ts:b? f?}(h:az K H a (ts.map V.int)):qt K H (lD ts) (.ref a):=by unfold lD;rw[qt];exact(xa0 a _ ⟨a_,h,Rp ts⟩)
theorem bZ.qef {K:e?}{H:Hp}{Z:aq}{x:V}{l:o?×f?×O}(h:bZ H Z x l):qt K H (sS l) x:=by obtain⟨a,q,rfl,n,h1,_,e,_,h2⟩:=h;cases e;unfold sS;rw[qt];refine(xa0 a _ ⟨a_,az.of h1,?_⟩);rw[y9];refine(xa0 _ _ ⟨a_,by rw[qt];rfl,?_⟩);rw[y9];refine(xa0 _ _ ⟨a_,by rw[qt],?_⟩);rw[y9];exact(xa0 _ _ ⟨a_,J9 (ts:=yh l.2.2) (az.of h2),by rw[y9]⟩)
theorem Ka:∀ls:b? (b? f?),dP (ls.map lD)<=10
 |[]=>by rw[ĉ];simp[dP]
 | l::ls=>by
  have:=Ka ls;rw[A_,dP];have q:∀ts:b? f?,dP (ts.map Dt.int)<=3:=λts=>by
   induction ts with
   |nil=>simp[dP]
   |cons t ts ih=>rw[A_,dP];simp[bN];lia
  have q2:bN (lD l)<=10:=by unfold lD;rw[bN];have:=q l;lia
  lia
theorem yF {α:Type}(F:α->Dt)(ls:b? α):bc (.lst (ls.map F)) (.lst [])=s? (ls=[]):=by
 cases ls with
 |nil=>simp[bc,cO]
 |cons l ls=>simp[bc,cO]
theorem Rq:∀ls:b? (o?×f?×O),dP (ls.map sS)<=10
 |[]=>by rw[ĉ];simp[dP]
 |l::ls=>by
  have:=Rq ls;rw[A_,dP];have q:bN (sS l)<=10:=by unfold sS lD yh;simp[bN,dP]
  lia
theorem ay.aE {Z:aq}{H:Hp}{a:c_}{r:Role}{u:HO}(k:ay Z H)(h:H a=some u)(n:qE u):ay (aE Z a r) H:=λb r' e=>by
 by_cases z:b=a
 .subst z;exact⟨u,h,n⟩
 .rw[x9 z]at e;exact k b r' e
noncomputable def Un (H:Hp)(Z:aq)(a:c_)(xs:b? V):Prop:=H a=some (.lst xs)/\Z a=none
theorem Un.fr {P:Role->Prop}{Z Z':aq}{H H':Hp}{a:c_}{xs:b? V}(f:Fr P Z H Z' H')(h:Un H Z a xs):Un H' Z' a xs:=lg f h.1 h.2
theorem Rr {P:Role->Prop}{Z Z':aq}{H H':Hp}{To R:c_}(f:Fr P Z H Z' H')(n0:¬P (9,.own 0))(n1:¬P (9,.own 1))(h:cW To R H)(tr:yE Z To R):cW To R H'/\yE Z' To R:=by obtain⟨row,c,t1,t2,t3⟩:=h;obtain⟨a1,a2⟩:=dq f t1 tr.1 n0;obtain⟨a3,a4⟩:=dq f t2 tr.2 n1;exact⟨(xa0 row c ⟨a1,a3,t3⟩),a2,a4⟩
theorem qcu {id:i_}(h:id≠9)(p:Part):¬dE (id,p):=λz=>h (by rcases z with z|z<;>exact(Ó z).1)
theorem j78 {H:Hp}{x dx:c_}{C:c_}(nx:H x=none)(oE:H dx=none)(ne:dx≠x){Z:aq}{r:Role}(kr:ay Z H):Fr (λ_=>w?) Z H (aE Z x r) (upd (upd H dx (.own x)) x (.ins C dx []))/\ay (aE Z x r) (upd (upd H dx (.own x)) x (.ins C dx [])):=by
 have nx1:upd H dx (.own x) x=none:=by rw[jd ne.symm];exact nx
 exact⟨(Fr.same (jh oE)).trans (Fr.cy nx1),(kr.same (jh oE)).cy⟩
structure Pt where
 ns:b? f?
 cs:b? f?
 ls:b? f?
 hs:b? f?
structure Pt.Ok (p:Pt):Prop where
 l2:2<=p.ns.length
 l8:p.ns.length<=8
 c:∀k∈p.cs,0<=k/\k<(p.ns.length:f?)
 cl:p.cs.length<=1000
 ll:p.ls.length<=5
 h0:0<p.hs.length
 h1:p.hs.length<=16
 nr:∀x∈p.ns,0<=x/\x<=1000
structure Wl (t:Ad)(H:Hp)(Z:aq)(W:WA)(Y:Wd)(T F:i_)(p:Pt):Prop where
 o:qp t H Z 0 W Y
 kr:ay Z H
 ly:H W.ly=some (.lst (p.ls.map V.int))/\Z W.ly=none
 g:∃L,Gz Y T F L p.ls p.ns
 n:Y.n=p.ns.length
 c:Y.eX=p.cs
 h:Y.ks.map (·.1)=p.hs
 bB:W.bB=p.ns.sum
section
variable {t:Ad}{H H':Hp}{Z Z':aq}{W:WA}{Y Y':Wd}{T F:i_}{p:Pt}{P:Role->Prop}{To R:c_}
theorem Wl.fr (f:Fr P Z H Z' H')(hP:∀q,¬P (0,q))(kr:ay Z' H')(w:Wl t H Z W Y T F p):Wl t H' Z' W Y T F p:=⟨w.o.fr hP f,kr,lg f w.ly.1 w.ly.2,w.g,w.n,w.c,w.h,w.bB⟩
theorem Wl.wait {F2:i_}(hF:F<=F2)(w:Wl t H Z W Y T F p):Wl t H Z W Y (T+1) F2 p:=⟨w.o,w.kr,w.ly,let⟨L,g⟩:=w.g;⟨L,g.mono (by lia) hF⟩,w.n,w.c,w.h,w.bB⟩
structure Sw (t:Ad)(H:Hp)(Z:aq)(W:WA)(Y:Wd)(T F:i_)(p:Pt)(To R:c_):Prop where
 w:Wl t H Z W Y T F p
 tn:cW To R H
 tr:yE Z To R
theorem Sw.same (s:x8 H H')(x:Sw t H Z W Y T F p To R):Sw t H' Z W Y T F p To R:=⟨x.w.fr (P:=λ_=>w?) (Fr.same s) (λ_ z=>z) (x.w.kr.same s),x.tn.same s,x.tr⟩
theorem Sw.draw (x:Sw t H Z W Y T F p To R)(hT:cW To R H')(k:kX To R H H'):Sw t H' Z W Y T F p To R/\Fr dE Z H Z H':=⟨⟨x.w.fr (J7 x.tr k) (qcu (by decide)) (Ro x.w.kr hT k),hT,x.tr⟩,J7 x.tr k⟩
theorem Sw.wait (x:Sw t H Z W Y T (36*T) p To R):Sw t H Z W Y (T+1) (36*(T+1)) p To R:=⟨x.w.wait (by lia),x.tn,x.tr⟩
noncomputable def lE:Role->Prop:=λr=>r.1=0\/dE r
theorem Sw.go (x:Sw t H Z W Y T F p To R)(f:Fr P Z H Z' H')(hP:∀r,P r->r.1=0){T2 F2:i_}(w:Wl t H' Z' W Y' T2 F2 p):Sw t H' Z' W Y' T2 F2 p To R/\Fr lE Z H Z' H':=by obtain⟨a,b⟩:=Rr f (λz=>by cases hP _ z) (λz=>by cases hP _ z) x.tn x.tr;exact⟨⟨w,a,b⟩,f.mono λr z=>.inl (hP r z)⟩
theorem oF (f:Fr dE Z H Z' H'):Fr lE Z H Z' H':=f.mono λ_ z=>.inr z
end
noncomputable def Rt (t:Ad)(H:Hp)(Z:aq)(W:WA)(T:i_)(p:Pt)(To R:c_)(Q:VK):Prop:=∀Z' H' Y' v,Sw t H' Z' W Y' (T+1) (36*(T+1)) p To R->Fr lE Z H Z' H'->Q v H'
structure Ps (H:Hp)(Z:aq)(pa x:c_)(aQ few:f?)(fo ho be ro:c_)(p:Pt):Prop where
 tp:H pa=some (.tup [.ref x,.int aQ,.int few,.ref fo,.ref ho,.ref be,.ref ro])/\Z pa=none
 fo:Un H Z fo (p.ls.map V.int)
 ho:Un H Z ho (p.hs.map V.int)
 be:Un H Z be (p.ns.map V.int)
 ro:Un H Z ro (p.cs.map V.int)
theorem Ps.fr {P:Role->Prop}{Z Z':aq}{H H':Hp}{pa x fo ho be ro:c_}{aQ few:f?}{p:Pt}(f:Fr P Z H Z' H')(h:Ps H Z pa x aQ few fo ho be ro p):Ps H' Z' pa x aQ few fo ho be ro p:=⟨lg f h.tp.1 h.tp.2,h.fo.fr f,h.ho.fr f,h.be.fr f,h.ro.fr f⟩
theorem Un.neT {t:Ad}{H:Hp}{Z:aq}{W:WA}{Y:Wd}{T F:i_}{p:Pt}{To R a:c_}{xs:b? V}(u:Un H Z a xs)(x:Sw t H Z W Y T F p To R):a≠To/\a≠R:=⟨BC u.2 x.tr.1,BC u.2 x.tr.2⟩
noncomputable def j8d (K:e?):Sp:=λvs H Q _=>∃(a:c_)(ns:b? f?),vs=[.ref a]/\af K H a (ns.map V.int)/\∀T R H',H T=none->H R=none->x8 H H'->cW T R H'->Q (.ref T) H'
noncomputable def j69:Sp:=λvs H Q _=>∃(T R:c_)(m:f?),vs=[.ref T,.int m]/\cW T R H/\1<=m/\m<1073741824/\∀d H',0<=d->d<m->cW T R H'->kX T R H H'->Q (.int d) H'
noncomputable def Ru:Sp:=λvs H Q _=>∃(T R S:c_)(xs:b? V),vs=[.ref T,.ref S]/\cW T R H/\H S=some (.lst xs)/\S≠T/\S≠R/\0<xs.length/\xs.length<=1000000/\∀(i:i_)(x:V)(H':Hp),xs[i]?=some x->cW T R H'->kX T R H H'->Q x H'
theorem jxn (T:Txt K mg t):zv P w K mg base CX0 1 t.HJ t.HK ["_law_script"] (j8d K):=by
 refine T.Pz.aW (N:=["_law_script"]) λ_ A _ s H vs Q E hr h=>?_;obtain⟨a,ns,rfl,ha,k⟩:=h;refine⟨_,(@je _ _ _ (jv (@xf _ _ _ _ (@y6 _ _ _ _ _ (zN (jz (ma hr.units) (pv 0) (@xf _ _ _ _ jf) (qe _)) (gr ya a_ T.iF boot_list (jc (pv 0) jf)) (@xf _ _ _ _ (jc jn jf))) jn a_ a_)))),?_⟩;refine⟨_,a_,dC,λp hp=>?_⟩;have s1:=jh (o:=.lst []) hp;refine(xa0 (.lst (ns.map Dt.int)) (.lst (([]:b? f?).map Dt.int)) ⟨wj (s1.seq ha),wj (af.of ja),rX _,_,a_,?_⟩);rw[Ei];refine bj (λh1=>?_) (λh1=>?_)
 .have ne:=nd h1;refine⟨_,a_,xa0 a _ ⟨a_,.inl (s1.seq ha),λR hR=>?_⟩⟩;refine⟨oj,λT' hT=>?_⟩;have s2:=s1.trans (jh (o:=.lst (ns.map V.int)) hR);have Kb:R≠T':=jg ja hT;refine k T' R _ (s2.free hT) (s1.free hR) (s2.trans (jh hT)) (xa0 ns 0 ⟨ja,by rw[jd Kb,ja],?_⟩);cases ns with
  |nil=>exact w_ a_ ne
  |cons x r=>exact i_.succ_pos _
 .refine⟨oh,λR hR=>?_⟩;refine⟨oj,λT' hT=>?_⟩;have s2:=s1.trans (jh (o:=.lst [.int 0]) hR);have Kb:R≠T':=jg ja hT;exact k T' R _ (s2.free hT) (s1.free hR) (s2.trans (jh hT)) (xa0 [0] 0 ⟨ja,by rw[jd Kb,ja];rfl,i_.one_pos⟩)
theorem qg (T:Txt K mg t):zv P w K mg base CX0 1 t.HL t.HM ["_law_town_here","_law_many"] j69:=by
 refine T.qh.bF ur λ_ A _ s H vs Q E hr h=>?_;obtain⟨To,R,m,rfl,hT,m1,m2,k⟩:=h;have Rv:=hT.ne;obtain⟨row,c,h1,h2,h3⟩:=hT;refine⟨_,(@jb _ _ _ _ _ (j7 (i:=2) ur.nd a_ (o_ a_) (gb yr (pv 0) jn (λ_ _=>a_))) (@jb _ _ _ _ _ (iP (xx gU (gb yr (pv 0) jn (λ_ _=>a_)) jn) (LB (pv 0) jn set_list)) (@jb _ _ _ _ _ (j7 (i:=3) ur.nd a_ (o_ a_) (xx lQ (gb yr (pv 0) jn (λ_ _=>a_)) (jo jw a_ T.cC boot_len (jc (pv 2) jf)))) (@jb _ _ _ _ _ (j7 (i:=4) ur.nd a_ (o_ a_) (gb yr (pv 2) (pv 3) (λ_ _=>a_))) (@jb _ _ _ _ _ (zf (jz LW (pv 4) jn (qe _)) (@jb _ _ _ _ _ (iP (xx Dr (pv 4) (pv 1)) (LB (pv 2) (pv 3) set_list)) (@je _ _ _ (jv (xx lQ (pv 4) (pv 1))))) j9) (@jb _ _ _ _ _ (j7 (i:=5) ur.nd a_ (o_ a_) (xx lQ (xx gU (pv 4) (xx zV jn (gb yr (pv 0) jn (λ_ _=>a_)))) jn)) (@jb _ _ _ _ _ (j7 (i:=5) ur.nd a_ (o_ a_) (xx lQ (xx TY (pv 5) jn) jn)) (@je _ _ _ (jv (xx lQ (xx Dr (xx lQ (xx gU (xx zV (xx Dr (pv 5) jn) jn) (pv 5)) jn) jn) (pv 1))))))))))),?_⟩;refine⟨_,a_,xa2 To _ 0 (.ref R) ⟨a_,a_,af.of h1,a_,?_⟩⟩;refine⟨_,a_,xa2 To _ 1 (.int c) ⟨a_,a_,af.of h1,a_,xa0 _ _ ⟨a_,a_,?_⟩⟩⟩;refine⟨_,a_,xa2 To _ 1 1 ⟨a_,a_,h1,a_,?_⟩⟩;have g1:(upd H To (.lst ([V.ref R,V.int c].set 1 (V.int (c+1))))) To=some (.lst [.ref R,.int (c+1)]):=ja;have g2:(upd H To (.lst ([V.ref R,V.int c].set 1 (V.int (c+1))))) R=some (.lst (row.map V.int)):=by rw[jd Rv.symm];exact h2
 have kp:kX To R H (upd H To (.lst ([V.ref R,V.int c].set 1 (V.int (c+1))))):=λb o e n1 _=>by rw[jd n1];exact e
 generalize upd H To (.lst ([V.ref R,V.int c].set 1 (V.int (c+1))))=H1 at g1 g2 kp;have hl:(0:f?)<((row.map V.int).length:f?):=by rw[g_];omega
 refine⟨_,a_,xa2 To _ 1 (.int (c+1)) ⟨a_,a_,af.of g1,a_,_,a_,xa0 R _ ⟨a_,.inl (af.of g2),xa0 _ _ ⟨a_,a_,hl,?_⟩⟩⟩⟩;rw[g_]at hl⊢;have b0:0<=(c+1)%(row.length:f?):=Ł _ (by omega);have b1:(c+1)%(row.length:f?)<(row.length:f?):=ě _ hl;have b2:((c+1)%(row.length:f?)).toNat<row.length:=by omega
 refine⟨_,a_,_,a_,xa2 R _ ((c+1)%(row.length:f?)) _ ⟨a_,a_,af.of g2,fW b0 (get_map b2),?_⟩⟩;refine⟨_,a_,xa0 _ _ ⟨a_,a_,_,a_,?_⟩⟩;refine bj (λh5=>?_) (λh5=>?_)
 .refine⟨_,a_,_,a_,xa0 _ _ ⟨a_,a_,⟨by omega,m2⟩,?_⟩⟩;refine⟨_,a_,_,a_,xa2 R _ ((c+1)%(row.length:f?)) _ ⟨a_,a_,g2,kW b0 (by rw[g_];exact b2),?_⟩⟩;rw[mX];refine⟨_,a_,_,a_,xa0 _ _ ⟨a_,a_,(by show(0:f?)<m;omega),?_⟩⟩;refine k _ _ (Ł _ (by omega)) (ě _ (by omega)) (xa0 _ (c+1) ⟨by rw[jd Rv];exact g1,ja,by rw[Ź];exact h3⟩) λb o e n1 n2=>?_;rw[jd n2];exact kp b o e n1 n2
 .have big:∀z:f?,(z%4294967291).natAbs<2^64:=λz=>by
   have u1:=Ł z (show(4294967291:f?)≠0 by decide);have u2:=ě z (show(0:f?)<4294967291 by decide);omega
  refine⟨_,a_,_,a_,xa2 To _ 1 (.int (c+1)) ⟨a_,a_,af.of g1,a_,xa0 _ _ ⟨a_,a_,.inl ⟨by decide,by decide⟩,xa0 _ _ ⟨a_,a_,xa0 _ _ ⟨a_,a_,(by show(0:f?)<4294967291;decide),?_⟩⟩⟩⟩⟩;refine⟨_,a_,xa0 _ _ ⟨a_,a_,⟨by decide,by decide,big _⟩,xa0 _ _ ⟨a_,a_,(by show(0:f?)<4294967279;decide),?_⟩⟩⟩;refine⟨_,a_,xa0 _ _ ⟨a_,a_,⟨by decide,by decide⟩,xa0 _ _ ⟨a_,a_,.inr ⟨by decide,by decide⟩,_,a_,xa0 _ _ ⟨a_,a_,xa0 _ _ ⟨a_,a_,(by show(0:f?)<4294967231;decide),xa0 _ _ ⟨a_,a_,⟨by decide,by decide⟩,_,a_,xa0 _ _ ⟨a_,a_,(by show(0:f?)<m;omega),?_⟩⟩⟩⟩⟩⟩⟩;exact k _ _ (Ł _ (by omega)) (ě _ (by omega)) (xa0 row (c+1) ⟨g1,g2,h3⟩) kp
theorem zo (T:Txt K mg t):zv P w K mg base CX0 2 t.HN t.HP ["_law_town_here","_law_some_here"] Ru:=by
 refine T.zg.aW (N:=["_law_town_here","_law_some_here"]) λ_ A _ s H vs Q E hr h=>?_;obtain⟨To,R,S,xs,rfl,hT,hS,n1,n2,l0,l1,k⟩:=h;refine⟨_,(@je _ _ _ (jv (gb yr (pv 1) (jm (qg T) hr.dn a_ T.qi T.qh.kp T.qj .nil jl (@y6 _ _ _ _ _ (pv 0) (jo jw a_ T.cC boot_len (jc (pv 1) jf)) a_ a_)) (λ_ _=>a_)))),?_⟩;refine⟨_,a_,_,a_,_,a_,xa0 S xs ⟨a_,.inl (af.of hS),xa1 To R _ ⟨a_,hT,by omega,by omega,λd H' d0 d1 sT kp=>?_⟩⟩⟩;have hd:d.toNat<xs.length:=by omega
 exact(xa2 S xs d (xs[d.toNat]) ⟨a_,a_,af.of (kp _ _ hS n1 n2),fW d0 (by simp[hd]),k d.toNat _ H' (by simp[hd]) sT kp⟩)
noncomputable def j8b:Sp:=λvs H Q _=>∃To R n m,vs=[.ref To,.int n,.int m]/\cW To R H/\0<=n/\n<=16/\∀r (ks:b? f?) H',H r=none->cW To R H'->kX To R H H'->H' r=some (.lst (ks.map V.int))->ks.Pairwise (·<·)->(∀k∈ks,0<=k/\k<n)->(ks.length:f?)<=(if 0<=m then m else 0)->Q (.ref r) H'
theorem Rw (T:Txt K mg t):zv P w K mg base CX0 2 t.HS t.HU ["_law_town_here","_law_size","_law_most"] j8b:=by
 refine T.IW.bF FA λ_ A _ s H vs Q E hr h=>?_;obtain⟨To,R,n,m,rfl,hT,n0,n6,k⟩:=h;refine⟨_,(@jb _ _ _ _ _ (@j7 _ _ 3 _ _ _ _ FA.nd a_ (o_ a_) (@xf _ _ _ _ jf) (by rfl) (by first|exact .inl a_|exact .inr rfl)) (@jb _ _ _ _ _ (iR ú a_ (rF a_ T.sr (jc (pv 1) jf)) (jr (i:=4) FA.nd a_ (o_ a_)) (@je _ _ _ (zf (PW.pt (kB (jz rG (jo jw a_ T.cC boot_len (jc (pv 3) jf)) (pv 2) (qe _)) (lJ (jz fH (jm (qg T) hr.dn a_ T.qi T.qh.kp T.qj .nil jl (@y6 _ _ _ _ _ (pv 0) jn a_ a_)) jn (qe _))))) (@je _ _ _ (qb (fq B? E_ F_ y8 (pv 3) (jc (pv 4) jf)))) j9))) (@je _ _ _ (jv (pv 3))))),?_⟩;refine⟨dC,λr hr=>?_⟩;have fr:=hT.fresh hr;have s1:=jh (o:=.lst []) hr;refine⟨_,a_,n,a_,by omega,by omega,Dm (lo:=0) (n:=n.toNat) (λi U H'=>∃(v:g? V)(ks:b? f?),U=[some (.ref To),some (.int n),some (.int m),some (.ref r),v]/\cW To R H'/\kX To R H H'/\H' r=some (.lst (ks.map V.int))/\ks.length<=i/\(ks.length:f?)<=(if 0<=m then m else 0)/\ks.Pairwise (·<·)/\∀z∈ks,0<=z/\z<(i:f?)) (xa0 none [] ⟨a_,hT.same s1,λb o e _ _=>s1 _ _ e,ja,r_ _,(by show(0:f?)<=_;split<;>omega),.nil,λz hz=>by cases hz⟩) ?_ ?_⟩
 .rintro i U H' hi ⟨v,ks,rfl,sT,kp,cw,l,Ce,up,rg⟩
  have lm:(ks.map V.int).length=ks.length:=g_ ..;refine⟨_,a_,xa0 r _ ⟨a_,.inl (af.of cw),_,a_,xa0 _ _ ⟨a_,a_,_,a_,?_⟩⟩⟩;have old:∃(v:g? V)(ks':b? f?),[some (.ref To),some (.int n),some (.int m),some (.ref r),some (.int (0+(i:f?)))]=[some (.ref To),some (.int n),some (.int m),some (.ref r),v]/\O?:=(xa0 _ [] ⟨a_,trivial⟩);refine bj (λh1=>?_) (λh1=>?_)
  .refine⟨_,a_,xa1 To R 3 ⟨a_,sT,by decide,by decide,λd H2 d0 d1 lF Rx=>?_⟩⟩;have fE:=Rx _ _ cw fr.1 fr.2;have Ry:kX To R H H2:=λb o e x1 x2=>Rx _ _ (kp b o e x1 x2) x1 x2;refine⟨a_,_,a_,bj (λh2=>?_) (λh2=>?_)⟩
   .refine⟨_,a_,.inl ⟨a_,_,af.of fE⟩,_,a_,xa1 r _ _ ⟨a_,a_,fE,zm (by omega),?_⟩⟩;refine(xa0 _ (ks++[0+(i:f?)]) ⟨a_,?_,λb o e x1 x2=>?_,by rw[ja,K_];rfl,?_,?_,?_,λz hz=>?_⟩)
    .obtain⟨row,cc,t1,t2,t3⟩:=lF;exact(xa0 row cc ⟨by rw[jd (M_ fr.1)];exact t1,by rw[jd (M_ fr.2)];exact t2,t3⟩)
    .rw[jd (jg e hr)];exact Ry b o e x1 x2
    .rw[p_];show ks.length+1<=i+1;omega
    .rw[p_];have:(ks.length:f?)<m:=by
      have:=n? h1;rw[lm]at this;exact this
     rw[m_ (by omega)];show((ks.length+1:i_):f?)<=m;omega
    .rw[Ľ];refine⟨up,ĕ _ _,λx hx y hy=>?_⟩;have:y=0+(i:f?):=by simpa using hy
     have:=rg x hx;omega
    .rcases v_.mp hz with y|y
     .have:=rg z y;omega
     .have:z=0+(i:f?):=by simpa using y
      omega
   .exact(xa0 _ ks ⟨a_,lF,Ry,fE,by omega,Ce,up,λz hz=>by have:=rg z hz;omega⟩)
  .exact w4 (xa0 _ ks ⟨a_,sT,kp,cw,by omega,Ce,up,λz hz=>by have:=rg z hz;omega⟩)
 .rintro U H' ⟨v,ks,rfl,sT,kp,cw,l,Ce,up,rg⟩
  exact⟨_,a_,k r ks H' hr sT kp cw up (λz hz=>by have:=rg z hz;omega) Ce⟩
theorem j7d {C a0 a1 a2 a3 a4 a5 a6 a7 a8 a9 a10 a11 a12:b_}{b0 b1 b2 b3 b4 b5 b6 b7 b8 b9 eE Rz oA:o?}(h:kinds K C [a0,a1,a2,a3,a4,a5,a6,a7,a8,a9,a10,a11,a12]=[some b0,some b1,some b2,some b3,some b4,some b5,some b6,some b7,some b8,some b9,some eE,some Rz,some oA]):S? K C a0=some b0/\S? K C a1=some b1/\S? K C a2=some b2/\S? K C a3=some b3/\S? K C a4=some b4/\S? K C a5=some b5/\S? K C a6=some b6/\S? K C a7=some b7/\
  S? K C a8=some b8/\S? K C a9=some b9/\S? K C a10=some eE/\S? K C a11=some Rz/\S? K C a12=some oA:=by
 unfold kinds at h;simpa only[A_,ĉ,b?.cons.injEq,and_true]using h
noncomputable def words:b? V:=[.str "number",.str "order",.str "houses",.str "house",.str "purse",.str "letter",.str "now",.str "much",.str "paper",.str "cut",.str "text"]
noncomputable def j0c (K:e?)(t:Ad):Sp:=λvs H Q _=>∃(ea C:c_)(b0 b1 b2 b3 b4 b5 b6 b7 b8 b9 eE:o?)(x:V),vs=[.ref ea]/\H ea=some (nU ea (.ref C))/\iD K C/\kinds K (.ref C) (asked t)=[some b0,some b1,some b2,some b3,some b4,some b5,some b6,some b7,some b8,some b9,some eE,some true,some true]/\[b0,b1,b2,b3,b4,b5,b6,b7,b8,b9,eE].count true=1/\
 words[[b0,b1,b2,b3,b4,b5,b6,b7,b8,b9,eE].idxOf true]?=some x/\∀H',x8 H H'->Q x H'
set_option maxHeartbeats 0 in
theorem RA (T:Txt K mg t) : zv P w K mg base CX0 1 t.HQ t.HR ["_law_caught"] (j0c K t):=by
 refine T.IV.bF yj λ_ A _ s H vs Q E hr h=>?_
 obtain ⟨ea,C,b0,b1,b2,b3,b4,b5,b6,b7,b8,b9,eE,x,rfl,he,hX,hk,hc,hw,k⟩:=h
 obtain ⟨k0,k1,k2,k3,k4,k5,k6,k7,k8,k9,k10,k11,k12⟩:=j7d hk
 refine ⟨_,(@jb _ _ _ _ _ (@j7 _ _ 1 _ _ _ _ yj.nd a_ (o_ a_) (@xf _ _ _ _ (@cq _ _ _ _ _ _ _ (jo xi a_ T.j5 boot_isinstance (@y6 _ _ _ _ _ (pv 0) (zk (v:=.ref t.Ir) a_ T.jrk a_) a_ a_)) (jo xi a_ T.j5 boot_isinstance (@y6 _ _ _ _ _ (pv 0) (zk (v:=.ref t.Iu) a_ T.jtm a_) a_ a_)) (jo xi a_ T.j5 boot_isinstance (@y6 _ _ _ _ _ (pv 0) (zk (v:=.ref t.Iv) a_ T.jry a_) a_ a_)) a_ a_ a_)) (by rfl) (by first | exact .inl a_ | exact .inr rfl))
  (@jb _ _ _ _ _ (j7 (i:=1) yj.nd a_ (o_ a_) (xx DP (pv 1) (@xf _ _ _ _ (@cq _ _ _ _ _ _ _ (jo xi a_ T.j5 boot_isinstance (@y6 _ _ _ _ _ (pv 0) (zk (v:=.ref t.Ip) a_ T.jwb a_) a_ a_)) (jo xi a_ T.j5 boot_isinstance (@y6 _ _ _ _ _ (pv 0) (zk (v:=.ref t.xm) a_ T.P2 a_) a_ a_)) (jo xi a_ T.j5 boot_isinstance (@y6 _ _ _ _ _ (pv 0) (zk (v:=.ref t.Iq) a_ T.jt3 a_) a_ a_)) a_ a_ a_))))
  (@jb _ _ _ _ _ (j7 (i:=1) yj.nd a_ (o_ a_) (xx DP (pv 1) (@xf _ _ _ _ (@cq _ _ _ _ _ _ _ (jo xi a_ T.j5 boot_isinstance (@y6 _ _ _ _ _ (pv 0) (zk (v:=.ref t.jK) a_ T.P5 a_) a_ a_)) (jo xi a_ T.j5 boot_isinstance (@y6 _ _ _ _ _ (pv 0) (zk (v:=.ref t.vy) a_ T.P4 a_) a_ a_)) (jo xi a_ T.j5 boot_isinstance (@y6 _ _ _ _ _ (pv 0) (zk (v:=.ref t.Io) a_ T.jts a_) a_ a_)) a_ a_ a_))))
  (@jb _ _ _ _ _ (j7 (i:=1) yj.nd a_ (o_ a_) (xx DP (pv 1) (@xf _ _ _ _ (@y6 _ _ _ _ _ (jo xi a_ T.j5 boot_isinstance (@y6 _ _ _ _ _ (pv 0) (zk (v:=.ref t.Il) a_ T.jzw a_) a_ a_)) (jo xi a_ T.j5 boot_isinstance (@y6 _ _ _ _ _ (pv 0) (zk (v:=.ref t.Im) a_ T.jwx a_) a_ a_)) a_ a_))))
  (@jb _ _ _ _ _ (zf (PW.pt (gD (jz Du (fq B? aa2 PySem.F.type_list_count WE (pv 1) (jc dZ jf)) jn (qe _)) (gD (xq (ze (jo xi a_ T.j5 boot_isinstance (@y6 _ _ _ _ _ (pv 0) (zk (v:=.ref t.wa) a_ T.Jg a_) a_ a_)))) (gS (xq (ze (jo xi a_ T.j5 boot_isinstance (@y6 _ _ _ _ _ (pv 0) (mR (v:=.ty "ValueError") a_ T.jpi Z5 a_) a_ a_)))))))) (@je _ _ _ (jv gd)) j9)
  (@jb _ _ _ _ _ (@j7 _ _ 2 _ _ _ _ yj.nd a_ (o_ a_) (@xf _ _ _ _ (@ZK _ _ _ _ _ _ _ _ _ _ _ _ _ _ _ _ _ _ _ _ _ _ _ gd gd gd gd gd gd gd gd gd gd gd a_ a_ a_ a_ a_ a_ a_ a_ a_ a_ a_)) (by rfl) (by first | exact .inl a_ | exact .inr rfl))
  (@je _ _ _ (jv (gb yr (pv 2) (fq B? aa1 PySem.F.type_list_index WH (pv 1) (jc dZ jf)) (λ_ _=>a_)))))))))),?_⟩
 refine ⟨_,a_,xa3 ea C _ _ b0 ⟨a_,he,hX,a_,k0,_,a_,xa3 ea C _ _ b1 ⟨a_,he,hX,a_,k1,_,a_,xa3 ea C _ _ b2 ⟨a_,he,hX,a_,k2,oq,λp1 h1=>?_⟩⟩⟩⟩
 have s1:=jh (o:=.lst [.bl b0,.bl b1,.bl b2]) h1
 have Kc:=s1 _ _ he
 refine ⟨_,a_,_,a_,xa3 ea C _ _ b3 ⟨a_,Kc,hX,a_,k3,_,a_,xa3 ea C _ _ b4 ⟨a_,Kc,hX,a_,k4,_,a_,xa3 ea C _ _ b5 ⟨a_,Kc,hX,a_,k5,oq,λp2 h2=>?_⟩⟩⟩⟩
 refine (xa2 p1 p2 [.bl b0,.bl b1,.bl b2] [.bl b3,.bl b4,.bl b5] ⟨a_,a_,(by rw [jd (jg ja h2)]; exact ja),ja,ZG,λp3 h3=>?_⟩)
 have s3:=(s1.trans (jh (o:=.lst [.bl b3,.bl b4,.bl b5]) h2)).trans (jh (o:=.lst ([.bl b0,.bl b1,.bl b2] ++ [.bl b3,.bl b4,.bl b5])) h3)
 have g3:(upd (upd (upd H p1 (.lst [.bl b0,.bl b1,.bl b2])) p2 (.lst [.bl b3,.bl b4,.bl b5])) p3 (.lst ([.bl b0,.bl b1,.bl b2] ++ [.bl b3,.bl b4,.bl b5]))) p3 = some (.lst [.bl b0,.bl b1,.bl b2,.bl b3,.bl b4,.bl b5]):=ja
 generalize upd (upd (upd H p1 (.lst [.bl b0,.bl b1,.bl b2])) p2 (.lst [.bl b3,.bl b4,.bl b5])) p3 (.lst ([.bl b0,.bl b1,.bl b2] ++ [.bl b3,.bl b4,.bl b5])) = H3 at s3 g3
 have Kd:=s3 _ _ he
 refine ⟨_,a_,_,a_,xa3 ea C _ _ b6 ⟨a_,Kd,hX,a_,k6,_,a_,xa3 ea C _ _ b7 ⟨a_,Kd,hX,a_,k7,_,a_,xa3 ea C _ _ b8 ⟨a_,Kd,hX,a_,k8,oq,λp4 h4=>?_⟩⟩⟩⟩
 refine (xa2 p3 p4 [.bl b0,.bl b1,.bl b2,.bl b3,.bl b4,.bl b5] [.bl b6,.bl b7,.bl b8] ⟨a_,a_,(by rw [jd (jg g3 h4)]; exact g3),ja,ZI,λp5 h5=>?_⟩)
 have s5:=(s3.trans (jh (o:=.lst [.bl b6,.bl b7,.bl b8]) h4)).trans (jh (o:=.lst ([.bl b0,.bl b1,.bl b2,.bl b3,.bl b4,.bl b5] ++ [.bl b6,.bl b7,.bl b8])) h5)
 have g5:(upd (upd H3 p4 (.lst [.bl b6,.bl b7,.bl b8])) p5 (.lst ([.bl b0,.bl b1,.bl b2,.bl b3,.bl b4,.bl b5] ++ [.bl b6,.bl b7,.bl b8]))) p5 = some (.lst [.bl b0,.bl b1,.bl b2,.bl b3,.bl b4,.bl b5,.bl b6,.bl b7,.bl b8]):=ja
 generalize upd (upd H3 p4 (.lst [.bl b6,.bl b7,.bl b8])) p5 (.lst ([.bl b0,.bl b1,.bl b2,.bl b3,.bl b4,.bl b5] ++ [.bl b6,.bl b7,.bl b8])) = H5 at s5 g5
 have vM:=s5 _ _ he
 refine ⟨_,a_,_,a_,xa3 ea C _ _ b9 ⟨a_,vM,hX,a_,k9,_,a_,xa3 ea C _ _ eE ⟨a_,vM,hX,a_,k10,oj,λp6 h6=>?_⟩⟩⟩
 refine (xa2 p5 p6 [.bl b0,.bl b1,.bl b2,.bl b3,.bl b4,.bl b5,.bl b6,.bl b7,.bl b8] [.bl b9,.bl eE] ⟨a_,a_,(by rw [jd (jg g5 h6)]; exact g5),ja,Oq,λp7 h7=>?_⟩)
 have s7:=(s5.trans (jh (o:=.lst [.bl b9,.bl eE]) h6)).trans (jh (o:=.lst ([.bl b0,.bl b1,.bl b2,.bl b3,.bl b4,.bl b5,.bl b6,.bl b7,.bl b8] ++ [.bl b9,.bl eE])) h7)
 have g7:(upd (upd H5 p6 (.lst [.bl b9,.bl eE])) p7 (.lst ([.bl b0,.bl b1,.bl b2,.bl b3,.bl b4,.bl b5,.bl b6,.bl b7,.bl b8] ++ [.bl b9,.bl eE]))) p7 = some (.lst ([b0,b1,b2,b3,b4,b5,b6,b7,b8,b9,eE].map V.bl)):=ja
 generalize upd (upd H5 p6 (.lst [.bl b9,.bl eE])) p7 (.lst ([.bl b0,.bl b1,.bl b2,.bl b3,.bl b4,.bl b5,.bl b6,.bl b7,.bl b8] ++ [.bl b9,.bl eE])) = H7 at s7 g7
 have RB:=s7 _ _ he
 have jJ:true ∈ [b0,b1,b2,b3,b4,b5,b6,b7,b8,b9,eE]:=b?.count_pos_iff.mp (by rw [hc]; decide)
 generalize [b0,b1,b2,b3,b4,b5,b6,b7,b8,b9,eE] = bs at hc hw g7 jJ
 refine ⟨_,a_,.inl ⟨a_,_,af.of g7⟩,xa1 p7 bs true ⟨a_,a_,af.of g7,a_,_,a_,?_⟩⟩
 refine bj (λz=>?_) (λ_=>?_)
 .exfalso
  rw [hc] at z
  exact w_ z (by decide)
 refine ⟨_,a_,xa3 ea C _ _ true ⟨a_,RB,hX,a_,k11,_,a_,w4 ?_⟩⟩
 refine ⟨_,a_,xa3 ea C _ _ true ⟨a_,RB,hX,a_,k12,_,a_,w4 ?_⟩⟩
 refine ⟨Oq,λp8 h8=>?_⟩
 have s8:=s7.trans (jh (o:=.lst words) h8)
 have g8:=(jh (o:=.lst words) h8) _ _ g7
 refine ⟨_,a_,_,a_,.inl ⟨a_,_,af.of g8⟩,xa1 p7 bs true ⟨a_,a_,af.of g8,jJ,?_⟩⟩
 exact (xa2 p8 words _ x ⟨a_,a_,af.of ja,fW (by omega) (by rw [R_]; exact hw),k _ s8⟩)
theorem Cf (h:f?):∀(os:b? O)(Y:Wd),Y.mB (Y.xk h os)
 |[],Y=>⟨a_,a_,a_,a_,a_⟩
 |o::os,Y=>(yB Y h o).trans (Cf h os (Y.ba h o))
structure Wd.Ke (Y Y':Wd):Prop where
 n:Y'.n=Y.n
 c:Y'.eX=Y.eX
 h:Y'.ks.map (·.1)=Y.ks.map (·.1)
theorem Wd.mB.eJ {Y Y':Wd}(l:Y.mB Y'):Y.Ke Y':=⟨l.n,l.c,by rw[l.k]⟩
theorem j5g (Y:Wd)(i:i_)(l:o?×f?×O)(B:Kp):Y.Ke (Y.xK i l B):=by have k:=Cf l.2.1 (B.take l.1 l.2.2).2 {Y with way:=Y.way.eraseIdx i,ks:=cF Y.ks l.2.1 (B.take l.1 l.2.2).1};refine⟨k.n,k.c,?_⟩;show(Wd.xk _ _ _).ks.map _=_;rw[k.k];exact Q6 _ _ _
section
variable {t:Ad}{H H':Hp}{Z Z':aq}{W:WA}{Y Y':Wd}{T F:i_}{p:Pt}{P:Role->Prop}{To R:c_}{L:b? O}
theorem Wl.next (w:Wl t H Z W Y T F p)(f:Fr P Z H Z' H')(O':qp t H' Z' 0 W Y')(kr:ay Z' H'){T2 F2:i_}(g:Gz Y' T2 F2 L p.ls p.ns)(e:Y.Ke Y'):Wl t H' Z' W Y' T2 F2 p:=⟨O',kr,lg f w.ly.1 w.ly.2,⟨L,g⟩,e.n.trans w.n,e.c.trans w.c,e.h.trans w.h,w.bB⟩
end
noncomputable def j1i (t:Ad):Sp:=λvs H Q _=>∃Z W Y T F p To R,vs=[.ref To,.ref W.x]/\Sw t H Z W Y T F p To R/\p.ls.length<=5/\T<=46/\F<=2000/\(Y.way=[]->∀H',Sw t H' Z W Y T F p To R->Fr lE Z H Z H'->Q .aj H')/\(0<F->∀Z' H' Y' a,Sw t H' Z' W Y' T (F-1) p To R->Fr lE Z H Z' H'->Q (.ref a) H')
theorem RC (T:Txt K mg t):zv P w K mg base CX0 9 t.HZ t.Ia ["_law_town_here","_law_world_here"] (j1i t):=by
 refine T.IZ.bF OD λ_ A _ s H vs Q E hr h=>?_;obtain⟨Z,W,Y,T',F,p,To,R,rfl,S,l5,hT,hF,k0,k⟩:=h;refine⟨_,(@jb _ _ _ _ _ (j7 (i:=2) OD.nd a_ (o_ a_) (jo jw a_ T.cC boot_len (jc (wo (pv 1) T.jk T.kg (JD T) hr.dn T.ID .nil jl) jf))) (@je _ _ _ (jv (zN (jz tM (pv 2) jn (qe _)) (j8 (pv 1) T.jk T.jnn (jt9 T) hr.dn T.jpt .nil jl (jc (jm (qg T) hr.dn a_ T.qi T.qh.kp T.qj .nil jl (@y6 _ _ _ _ _ (pv 0) (pv 2) a_ a_)) jf)) gR)))),?_⟩;obtain⟨L,g⟩:=S.w.g;have wl:=g.way;refine⟨_,a_,xa1 W.x W.dx _ ⟨a_,S.w.o.ob.1,zq,xa2 Z 0 W Y ⟨a_,S.w.o,by omega,λr xs nr px=>?_⟩⟩⟩;have lx:xs.length=Y.way.length:=q? px;have s1:=jh (o:=.lst xs) nr;refine(xa0 r xs ⟨a_,.inl (af.of ja),?_⟩);have S1:=S.same s1;have f1:Fr lE Z H Z (upd H r (.lst xs)):=Fr.same s1;generalize upd H r (.lst xs)=H1 at S1 f1;refine⟨_,a_,xa0 _ _ ⟨a_,a_,_,a_,bj (λz=>?_) (λz=>k0 (Ŏ.mp (by have:¬(0:f?)<(xs.length:f?):=λy=>z (i? y);omega)) _ S1 f1)⟩⟩;have pw:0<Y.way.length:=by
  have:=n? z;omega
 refine⟨_,a_,xa1 W.x W.dx _ ⟨a_,S1.w.o.ob.1,zq,_,a_,_,a_,xa1 To R (xs.length:f?) ⟨a_,S1.tn,by omega,by omega,λd H2 d0 d1 lF k2=>?_⟩⟩⟩;obtain⟨S2,f2⟩:=S1.draw lF k2;obtain⟨l,el⟩:∃l,Y.way[d.toNat]?=some l:=⟨_,u? (by omega)⟩;obtain⟨lL,lh,lc⟩:=g.g.y l (u_ el);obtain⟨B,ek,km⟩:=sQ lh;have ll:(B.take l.1 l.2.2).2.length<=L.length:=g.vn km l.1 lL lc;have kz:xQ B L.length:=g.lq km;have e1:=kz.hd;have e2:=kz.uc;have e3:=kz.dw;have z0:=g.l;have z1:=g.ok.k1;refine(xb1 Z 0 W Y d.toNat l B _ _ _ ⟨by rw[Đ d0];rfl,S2.w.o,S2.w.kr,el,ek,g.ok.nd,g.ok.ks _ km,g.ok.n8,g.lo _ lL,⟨by omega,by omega,by omega⟩,g.sz,by omega,by omega,by omega,λ Z' H' x O' f' mz ux=>?_⟩);obtain⟨S3,f3⟩:=S2.go f' (λ_ z=>z) (S2.w.next f' O' mz (g.xK el ek) (j5g Y d.toNat l B));obtain⟨_,_,rfl,_⟩:=ux;exact k (by omega) Z' H' _ _ S3 ((f1.trans (oF f2)).trans f3)
noncomputable def j7i (t:Ad):Sp:=λvs H Q _=>∃Z W Y T p To R,Sw t H Z W Y T (36*T) p To R/\T<=46/\Rt t H Z W T p To R Q/\((∃pu g m,vs=[.str "ask",.ref W.x,.int pu,.int g,.int m]/\(0<=pu/\pu<(Y.n:f?))/\(0<=g/\g<(Y.n:f?))/\g≠pu/\(1<=m/\m<=1000))\/(∃h q l,vs=[.str "lie",.ref W.x,.int h,.ref q,.int 0]/\h∈p.ls/\p.ls.length<=5/\xt H Z (.ref q) l.2.2/\l∈Y.way))
set_option maxHeartbeats 0 in
theorem RD (T:Txt K mg t) : zv P w K mg base CX0 8 t.HX t.HY ["_law_kind","_law_world_here","_law_one","_law_two","_law_three"] (j7i t):=by
 refine T.IY.ok qr (λvs H Q E h=>?_) (λaD A outer s H vs Q E hr h=>?_)
 .obtain ⟨Z,W,Y,T',p,To,R,_,_,_,⟨pu,g,m,rfl,_⟩ | ⟨h,q,l,rfl,_⟩⟩:=h
  .rfl
  .rfl
 .obtain ⟨Z,W,Y,T',p,To,R,S,hT,k,hc⟩:=h
  obtain ⟨L,gn⟩:=S.w.g
  have xR:=gn.way
  have O:=S.w.o
  have kr:=S.w.kr
  have old : ∀ {H' v},x8 H H' -> Q v H':=λsm=>k Z _ Y _ (S.same sm).wait (Fr.same sm)
  rcases hc with ⟨pu,g,m,rfl,hp,hg,ng,hm⟩ | ⟨h,q,l,rfl,hl,l5,uq,lw⟩
  .refine ⟨_,(@jb _ _ _ _ _ (j7 (i:=5) qr.nd a_ (o_ a_) gR)
   (@jb _ _ _ _ _ (j7 (i:=6) qr.nd a_ (o_ a_) gR)
   (@jb _ _ _ _ _ (NX (i:=7) a_ a_ a_ a_ T.Jg T.P6 qr.nd a_ a_ (λ_ _=>(@je _ _ _ (zf (jz fH (pv 0) gd (qe _)) (@je _ _ _ (j7 (i:=5) qr.nd a_ (o_ a_) (NW (pv 1) T.jk T.Pe (QE T) hr.dn T.Pf .nil (@cq _ _ _ _ _ _ _ (pv 2) (pv 3) (pv 4) a_ a_ a_)))) (@je _ _ _ (zf (jz fH (pv 0) gd (qe _)) ql (@je _ _ _ (zf (jz fH (pv 0) gd (qe _)) (@je _ _ _ (j7 (i:=5) qr.nd a_ (o_ a_) (j8 (pv 1) T.jk T.IG (JW T) hr.dn T.IH .nil jl (@y6 _ _ _ _ _ (pv 2) (pv 3) a_ a_)))) ql))))))) (λ_=>(@je _ _ _ (j7 (i:=6) qr.nd a_ (o_ a_) (pv 7)))))
   (@je _ _ _ (jv (zN (jz zW (pv 6) gR (qe _)) (pv 5) (jm (RA T) hr.dn a_ T.PB T.IV.kp T.PD .nil jl (jc (pv 6) jf)))))))),?_⟩
   obtain ⟨row,eY⟩:=gn.row hp.1 hp.2
   have JJ:=gn.al row (u_ eY)
   refine ⟨λ U' cls dd H'=>U' = [some (.str "ask"),some (.ref W.x),some (.int pu),some (.int g),some (.int m),some .aj,some .aj,none] /\ x8 H H' /\ (cls = .ref t.jK \/ cls = .ref t.vy \/ cls = .ref t.xm),?_,?_⟩
   .refine ⟨_,a_,a_,_,a_,bA ?_⟩
    refine ⟨_,a_,xa1 W.x W.dx _ ⟨a_,O.ob.1,zq,_,a_,_,a_,_,a_,xa9 Z 0 W Y pu g m row ⟨a_,O,kr,gn.ok,hp,hg,ng,hm,eY,by omega,by omega,λ_ d H' s'=>⟨a_,s',.inr (.inr a_)⟩,λo eo ec H' s'=>⟨a_,s',.inl a_⟩,λhcar M' eM'=>⟨λlt H' s'=>⟨a_,s',.inr (.inl a_)⟩,λle H' q O' f' mz uq=>?_⟩⟩⟩⟩
    refine ⟨_,a_,a_,_,a_,bA ⟨_,a_,?_⟩⟩
    have g2:=(gn.ask (by omega) hp hg ng hm eY).mono (T':=T' + 1) (F':=36 * (T' + 1)) (r_ _) (by omega)
    obtain ⟨S2,f2⟩:=S.go f' (λ_ z=>z) (S.w.next f' O' mz g2 ⟨a_,a_,a_⟩)
    exact k Z H' _ _ S2 f2
   .rintro U' cls dd H' ea ⟨rfl,sm,hw⟩ oa
    have sx : ∀ {u:HO},x8 H (upd H' ea u):=λ{u}=>sm.trans (jh oa)
    rcases hw with rfl | rfl | rfl
    .refine ⟨t.jK,a_,T.jcq,?_⟩
     refine ⟨_,a_,ja,?_⟩
     rw [tf]
     refine ⟨_,a_,a_,_,a_,w4 ?_⟩
     exact ⟨_,a_,ea,t.jK,false,false,false,false,false,false,true,false,false,false,false,.str "now",a_,ja,T.jwn,T.jwa,by decide,a_,λqF bU=>old (sx.trans bU)⟩
    .refine ⟨t.vy,a_,T.jbt,?_⟩
     refine ⟨_,a_,ja,?_⟩
     rw [tf]
     refine ⟨_,a_,a_,_,a_,w4 ?_⟩
     exact ⟨_,a_,xb4 ea t.vy false false false false false false false true false false false (.str "much") ⟨a_,ja,T.jtr,T.jti,by decide,a_,λqF bU=>old (sx.trans bU)⟩⟩
    .refine ⟨t.xm,a_,T.jbz,?_⟩
     refine ⟨_,a_,ja,?_⟩
     rw [tf]
     refine ⟨_,a_,a_,_,a_,w4 ?_⟩
     exact ⟨_,a_,xb4 ea t.xm false false false false true false false false false false false (.str "purse") ⟨a_,ja,T.jt2,T.jtj,by decide,a_,λqF bU=>old (sx.trans bU)⟩⟩
  .refine ⟨_,(@jb _ _ _ _ _ (j7 (i:=5) qr.nd a_ (o_ a_) gR)
   (@jb _ _ _ _ _ (j7 (i:=6) qr.nd a_ (o_ a_) gR)
   (@jb _ _ _ _ _ (NX (i:=7) a_ a_ a_ a_ T.Jg T.P6 qr.nd a_ a_ (λ_ _=>(@je _ _ _ (zf (jz fH (pv 0) gd (qe _)) (@je _ _ _ (j7 (i:=5) qr.nd a_ (o_ a_) (NW (pv 1) T.jk T.Pe (QE T) hr.dn T.Pf .nil (@cq _ _ _ _ _ _ _ (pv 2) (pv 3) (pv 4) a_ a_ a_)))) (@je _ _ _ (zf (jz fH (pv 0) gd (qe _)) ql (@je _ _ _ (zf (jz fH (pv 0) gd (qe _)) (@je _ _ _ (j7 (i:=5) qr.nd a_ (o_ a_) (j8 (pv 1) T.jk T.IG (JW T) hr.dn T.IH .nil jl (@y6 _ _ _ _ _ (pv 2) (pv 3) a_ a_)))) ql))))))) (λ_=>(@je _ _ _ (j7 (i:=6) qr.nd a_ (o_ a_) (pv 7)))))
   (@je _ _ _ (jv (zN (jz zW (pv 6) gR (qe _)) (pv 5) (jm (RA T) hr.dn a_ T.PB T.IV.kp T.PD .nil jl (jc (pv 6) jf)))))))),?_⟩
   refine ⟨λ U' cls dd H'=>w?,?_,λ U' cls dd H' ea z=>z.elim⟩
   obtain ⟨lL,lh,lc⟩:=gn.g.y l lw
   have z:=gn.sz
   have z1:=gn.l
   have z2:=gn.ok.k1
   refine ⟨_,a_,a_,_,a_,w4 ?_⟩
   refine ⟨_,a_,a_,_,a_,w4 ?_⟩
   refine ⟨_,a_,a_,_,a_,bA ?_⟩
   refine ⟨_,a_,xa1 W.x W.dx _ ⟨a_,O.ob.1,zq,_,a_,_,a_,xb2 Z 0 W Y h q l.2.2 p.ls _ _ _ ⟨a_,O,kr,S.w.ly.1,hl,uq,gn.lo _ lL,gn.mw _ lL,z,by omega,by omega,by omega,λ Z' H' O' f' mz=>?_⟩⟩⟩
   refine ⟨_,a_,a_,_,a_,bA ⟨_,a_,?_⟩⟩
   have g2:=(gn.lie hl lL).mono (T':=T' + 1) (F':=36 * (T' + 1)) (by omega) (by omega)
   obtain ⟨S2,f2⟩:=S.go f' (λr hr=>by rcases hr with hr | hr | hr <;> rw [hr]) (S.w.next f' O' mz g2 (Cf h [l.2.2] Y).eJ)
   exact k Z' H' _ _ S2 f2
theorem RE {p n d:f?}(h0:0<=p)(h1:p<n)(d0:0<=d)(d1:d<n-1):0<=(p+1+d)%n/\(p+1+d)%n<n/\(p+1+d)%n≠p:=by
 refine⟨Ł _ (by lia),ě _ (by lia),λz=>?_⟩;have e:=f?.mul_ediv_add_emod (p+1+d) n;rw[z]at e;generalize (p+1+d) / n=q at e;by_cases y:q<=0
 .have:=aba y (show 0<=n by lia);lia
 .have:=aba (show 1<=q by lia) (show 0<=n by lia);lia
noncomputable def j4c (t:Ad):Sp:=λvs H Q _=>∃Z W Y T p To R pa aQ few fo ho be ro pu,vs=[.ref To,.ref pa,.int pu]/\Sw t H Z W Y T (36*T) p To R/\Ps H Z pa W.x aQ few fo ho be ro p/\p.Ok/\0<=pu/\pu<(p.ns.length:f?)/\∀H' q o,Sw t H' Z W Y T (36*T) p To R->Fr dE Z H Z H'->xt H' Z (.ref q) o->zc p.ns.length o=true->o.p=pu->Q (.ref q) H'
theorem jvf (T:Txt K mg t):zv P w K mg base CX0 3 t.Ib t.Ic ["_law_town_here","_law_parts","_law_purse"] (j4c t):=by
 refine T.PQ.bF FD λ_ A _ s H vs Q E hr h=>?_;obtain⟨Z,W,Y,T',p,To,R,pa,aQ,few,fo,ho,be,ro,pu,rfl,S,Bq,ok,p0,p1,k⟩:=h;refine⟨_,(@jb _ _ _ _ _ (j7 (i:=3) FD.nd a_ (o_ a_) (jo jw a_ T.cC boot_len (jc (gb gY (pv 1) jn (λ_ _=>a_)) jf))) (@jb _ _ _ _ _ (j7 (i:=4) FD.nd a_ (o_ a_) (xx lQ (xx gU (xx gU (pv 2) jn) (jm (qg T) hr.dn a_ T.qi T.qh.kp T.qj .nil jl (@y6 _ _ _ _ _ (pv 0) (xx kF (pv 3) jn) a_ a_))) (pv 3))) (@je _ _ _ (jv (@iU _ _ _ _ _ (@Ot _ _ _ _ _ _ _ _ _ (pv 2) (jm (qg T) hr.dn a_ T.qi T.qh.kp T.qj .nil jl (@y6 _ _ _ _ _ (pv 0) jn a_ a_)) (pv 4) (xx gU jn (jm (zo T) hr.dn a_ T.zu T.zg.kp T.zw .nil jl (@y6 _ _ _ _ _ (pv 0) (@xf _ _ _ _ (@cq _ _ _ _ _ _ _ jn jn (jm (qg T) hr.dn a_ T.qi T.qh.kp T.qj .nil jl (@y6 _ _ _ _ _ (pv 0) jn a_ a_)) a_ a_ a_)) a_ a_))) a_ a_ a_ a_)))))),?_⟩;have l2:=ok.l2;have l8:=ok.l8;refine⟨_,a_,xa2 pa _ 5 (.ref be) ⟨a_,a_,az.of Bq.tp.1,a_,xa0 be _ ⟨a_,.inl (af.of Bq.be.1),?_⟩⟩⟩;rw[g_];refine⟨_,a_,xa0 _ _ ⟨a_,a_,_,a_,_,a_,xa0 _ _ ⟨a_,a_,xa1 To R ((p.ns.length:f?)-1) ⟨a_,S.tn,by omega,by omega,λd H1 d0 d1 qT k1=>?_⟩⟩⟩⟩;obtain⟨S1,f1⟩:=S.draw qT k1;obtain⟨g0,g1,g2⟩:=RE p0 p1 d0 d1;refine(xa0 _ _ ⟨a_,a_,_,a_,xa0 _ _ ⟨a_,a_,(by show(0:f?)<(p.ns.length:f?);omega),?_⟩⟩);refine⟨_,a_,_,a_,xa1 To R 3 ⟨a_,S1.tn,by decide,by decide,λn H2 n0 n1 lF k2=>?_⟩⟩;obtain⟨S2,f2⟩:=S1.draw lF k2;refine⟨_,a_,_,a_,_,a_,xa1 To R 12 ⟨a_,S2.tn,by decide,by decide,λm H3 m0 m1 qU k3=>?_⟩⟩;obtain⟨S3,f3⟩:=S2.draw qU k3;refine⟨oq,λl nl=>?_⟩;have s3:=jh (o:=.lst [.int 0,.int 4,.int m]) nl;have RF:=S3.same s3;obtain⟨n1',n2'⟩:=S3.tn.fresh nl;refine(xa2 To R l _ ⟨a_,RF.tn,ja,n1',n2',by show 0<3;decide,by show 3<=1000000;decide,λi x H4 ex yG k4=>?_⟩);obtain⟨S4,f4⟩:=RF.draw yG k4;obtain⟨v,rfl,v0,v1⟩:∃v,x=V.int v/\0<=v/\v<=12:=by
  have:=u_ ex;simp only[D?,abq,aeT]at this;rcases this with rfl|rfl|rfl
  .exact⟨0,a_,by decide,by decide⟩
  .exact⟨4,a_,by decide,by decide⟩
  .exact⟨m,a_,m0,by omega⟩
 refine⟨_,_,a_,a_,Oo,λq nq=>?_⟩;have s5:=jh (o:=.tup [.int pu,.int n,.int ((pu+1+d)%(p.ns.length:f?)),.int (1+v)]) nq;refine k _ q ⟨pu,n,(pu+1+d)%(p.ns.length:f?),1+v⟩ (S4.same s5) ((((f1.trans f2).trans f3).trans (Fr.same s3)).trans (f4.trans (Fr.same s5))) ⟨q,a_,S4.w.kr.none nq,ja⟩ (qc.mpr ⟨p0,by show pu<=(p.ns.length:f?)-1;omega,g0,by show(pu+1+d)%(p.ns.length:f?)<=(p.ns.length:f?)-1;omega,λy=>g2 y.symm,n0,by show n<=99;omega,by show 1<=1+v;omega,by show 1+v<=1000;omega⟩) a_
theorem int_at {zs:b? f?}{i:i_}{x:V}(e:(zs.map V.int)[i]?=some x):∃z,z∈zs/\x= .int z:=by obtain⟨z,hz,e⟩:=H?.mp (u_ e);exact⟨z,hz,e.symm⟩
theorem qV {t:Ad}{H:Hp}{Z:aq}{W:WA}{Y:Wd}{T F:i_}{p:Pt}{To R a:c_}{zs:b? f?}{Q:VK}(S:Sw t H Z W Y T F p To R)(u:Un H Z a (zs.map V.int))(l0:0<zs.length)(l1:zs.length<=1000)(k:∀z H',z∈zs->Sw t H' Z W Y T F p To R->Fr dE Z H Z H'->Q (.int z) H'):Ru [.ref To,.ref a] H Q E0:=by obtain⟨n1,n2⟩:=u.neT S;refine(xa2 To R a _ ⟨a_,S.tn,u.1,n1,n2,by rw[g_];exact l0,by rw[g_];lia,λi x H' ex hT kT=>?_⟩);obtain⟨z,hz,rfl⟩:=int_at ex;obtain⟨S',f'⟩:=S.draw hT kT;exact k z H' hz S' f'
noncomputable def qba (K:e?)(t:Ad):Sp:=λvs H Q _=>∃Z W Y T p To R pa aQ few fo ho be ro sh,vs=[.ref To,.ref pa,.int sh]/\Sw t H Z W Y T (36*T) p To R/\Ps H Z pa W.x aQ few fo ho be ro p/\p.Ok/\T<=46/\Rt t H Z W T p To R Q
set_option maxHeartbeats 0 in
theorem j0z (T:Txt K mg t) : zv P w K mg base CX0 10 t.Ie t.Ig ["_law_town_here","_law_parts","_law_share"] (qba K t):=by
 refine T.PR.bF xl λ_ A _ s H vs Q E hr h=>?_
 obtain ⟨Z,W,Y,T',p,To,R,pa,aQ,few,fo,ho,be,ro,sh,rfl,S,Bq,ok,hT,k⟩:=h
 refine ⟨_,(@jb _ _ _ _ _ (iP (pv 1) (kD a_ (ju (jr (i:=3) xl.nd a_ (o_ a_)) (ju (jr (i:=4) xl.nd a_ (o_ a_)) (ju (jr (i:=5) xl.nd a_ (o_ a_)) (ju (jr (i:=6) xl.nd a_ (o_ a_)) (ju (jr (i:=7) xl.nd a_ (o_ a_)) (ju (jr (i:=8) xl.nd a_ (o_ a_)) (ju (jr (i:=9) xl.nd a_ (o_ a_)) iO)))))))))
  (@jb _ _ _ _ _ (j7 (i:=10) xl.nd a_ (o_ a_) (jo jw a_ T.cC boot_len (jc (pv 8) jf)))
  (@jb _ _ _ _ _ (j7 (i:=11) xl.nd a_ (o_ a_) (jm (qg T) hr.dn a_ T.qi T.qh.kp T.qj .nil jl (@y6 _ _ _ _ _ (pv 0) jn a_ a_)))
  (@je _ _ _ (zf (jz rG (pv 11) (pv 2) (qe _)) (@je _ _ _ (qb (jm (RC T) hr.dn a_ T.PN T.IZ.kp T.PO .nil jl (@y6 _ _ _ _ _ (pv 0) (pv 3) a_ a_)))) (@je _ _ _ (zf (PW.pt (kB (jz fH (xx lQ (pv 11) jn) jn (qe _)) (lJ (jz (ma hr.units) (pv 9) (@xf _ _ _ _ jf) (qe _))))) (@jb _ _ _ _ _ (j7 (i:=12) xl.nd a_ (o_ a_) (jm (jvf T) hr.dn a_ T.jph T.PQ.kp T.jp5 .nil jl (@cq _ _ _ _ _ _ _ (pv 0) (pv 1) (jm (zo T) hr.dn a_ T.zu T.zg.kp T.zw .nil jl (@y6 _ _ _ _ _ (pv 0) (pv 9) a_ a_)) a_ a_ a_)))
  (@jb _ _ _ _ _ (qb (j8 (pv 3) T.jk T.jku (js2 T) hr.dn T.jn6 .nil jl (@y6 _ _ _ _ _ (pv 12) (jm (zo T) hr.dn a_ T.zu T.zg.kp T.zw .nil jl (@y6 _ _ _ _ _ (pv 0) (pv 7) a_ a_)) a_ a_)))
  (@je _ _ _ (zf (jz (ma hr.units) (pv 6) (@xf _ _ _ _ jf) (qe _)) (@je _ _ _ (qb (j8 (pv 3) T.jk T.IG (JW T) hr.dn T.IH .nil jl (@y6 _ _ _ _ _ (jm (zo T) hr.dn a_ T.zu T.zg.kp T.zw .nil jl (@y6 _ _ _ _ _ (pv 0) (pv 6) a_ a_)) (pv 12) a_ a_)))) j9)))) (@je _ _ _ (zf (PW.pt (kB (jz (ma hr.units) (pv 6) (@xf _ _ _ _ jf) (qe _)) (kB (jz (ma hr.units) (wo (pv 3) T.jk T.kg (JD T) hr.dn T.ID .nil jl) (@xf _ _ _ _ jf) (qe _)) (lJ (jz fH (jm (qg T) hr.dn a_ T.qi T.qh.kp T.qj .nil jl (@y6 _ _ _ _ _ (pv 0) jn a_ a_)) jn (qe _)))))) (@je _ _ _ (qb (jm (RD T) hr.dn a_ T.PL T.IY.kp T.PM .nil jl (@Fh _ _ _ _ _ _ _ _ _ _ _ gd (pv 3) (jm (zo T) hr.dn a_ T.zu T.zg.kp T.zw .nil jl (@y6 _ _ _ _ _ (pv 0) (pv 6) a_ a_)) (gb gY (jm (zo T) hr.dn a_ T.zu T.zg.kp T.zw .nil jl (@y6 _ _ _ _ _ (pv 0) (wo (pv 3) T.jk T.kg (JD T) hr.dn T.ID .nil jl) a_ a_)) jn (λ_ _=>a_)) jn a_ a_ a_ a_ a_)))) (@je _ _ _ (zf (PW.pt (kB (jz (ma hr.units) (wo (pv 3) T.jk T.IE (JI T) hr.dn T.IF .nil jl) (@xf _ _ _ _ jf) (qe _)) (lJ (jz fH (jm (qg T) hr.dn a_ T.qi T.qh.kp T.qj .nil jl (@y6 _ _ _ _ _ (pv 0) jn a_ a_)) jn (qe _))))) (@je _ _ _ (qb (j8 (pv 3) T.jk T.jnq (juj T) hr.dn T.jpq .nil jl (@y6 _ _ _ _ _ (jm (zo T) hr.dn a_ T.zu T.zg.kp T.zw .nil jl (@y6 _ _ _ _ _ (pv 0) (wo (pv 3) T.jk T.IE (JI T) hr.dn T.IF .nil jl) a_ a_)) (jm (zo T) hr.dn a_ T.zu T.zg.kp T.zw .nil jl (@y6 _ _ _ _ _ (pv 0) (pv 7) a_ a_)) a_ a_)))) (@jb _ _ _ _ _ (j7 (i:=13) xl.nd a_ (o_ a_) (jm (qg T) hr.dn a_ T.qi T.qh.kp T.qj .nil jl (@y6 _ _ _ _ _ (pv 0) (pv 10) a_ a_)))
  (@jb _ _ _ _ _ (j7 (i:=14) xl.nd a_ (o_ a_) (xx lQ (xx gU (xx gU (pv 13) jn) (jm (qg T) hr.dn a_ T.qi T.qh.kp T.qj .nil jl (@y6 _ _ _ _ _ (pv 0) (xx kF (pv 10) jn) a_ a_))) (pv 10)))
  (@je _ _ _ (qb (jm (RD T) hr.dn a_ T.PL T.IY.kp T.PM .nil jl (@Fh _ _ _ _ _ _ _ _ _ _ _ gd (pv 3) (pv 13) (pv 14) (xx gU jn (jm (zo T) hr.dn a_ T.zu T.zg.kp T.zw .nil jl (@y6 _ _ _ _ _ (pv 0) (@xf _ _ _ _ (@cq _ _ _ _ _ _ _ jn jn (jm (qg T) hr.dn a_ T.qi T.qh.kp T.qj .nil jl (@y6 _ _ _ _ _ (pv 0) jn a_ a_)) a_ a_ a_)) a_ a_))) a_ a_ a_ a_ a_))))))))))))))))),?_⟩
 have l2:=ok.l2
 have l8:=ok.l8
 refine fY λN hN=>⟨_,a_,xa0 pa _ ⟨a_,az.of Bq.tp.1,a_,xa0 _ _ ⟨a_,xa0 _ _ ⟨a_,xa0 _ _ ⟨a_,xa0 _ _ ⟨a_,xa0 _ _ ⟨a_,xa0 _ _ ⟨a_,xa0 _ _ ⟨a_,a_,?_⟩⟩⟩⟩⟩⟩⟩⟩⟩
 refine hN _ _ (fY λN hN=>⟨_,a_,xa0 be _ ⟨a_,.inl (af.of Bq.be.1),?_⟩⟩)
 rw [g_]
 refine hN _ _ (fY λN hN=>⟨_,a_,xa1 To R 10 ⟨a_,S.tn,by decide,by decide,λkd H1 kd0 BK qT k1=>?_⟩⟩)
 obtain ⟨S1,f1⟩:=S.draw qT k1
 have B1:=Bq.fr f1
 refine hN [some (.ref To),some (.ref pa),some (.int sh),some (.ref W.x),some (.int aQ),some (.int few),some (.ref fo),some (.ref ho),some (.ref be),some (.ref ro),some (.int (p.ns.length:f?)),some (.int kd),none,none,none] H1 (xE λN hN=>⟨_,a_,_,a_,xa0 _ _ ⟨a_,a_,_,a_,hN _ _ (bj (λ_=>?_) (λ_=>?_))⟩⟩)
 .refine ⟨_,a_,_,a_,xa9 Z W Y T' (36 * T') p To R ⟨a_,S1,ok.ll,hT,by omega,λ_ H' S' f'=>k Z H' Y _ S'.wait ((oF f1).trans f'),λ_ Z' H' Y' a S' f'=>k Z' H' Y' _ ⟨S'.w.wait (by omega),S'.tn,S'.tr⟩ ((oF f1).trans f')⟩⟩
 obtain ⟨L,gn⟩:=S.w.g
 have xR:=gn.way
 have z0:=gn.l
 have z1:=gn.ok.k1
 have z2:=ok.ll
 have bl:=gn.sz.bd
 have bne : ∀ x ∈ Y.bd,x.1 ≠ []:=λx hx z=>by
  obtain ⟨o,_,e⟩:=gn.g.b.ks x hx
  rw [e] at z
  cases z
 have jT : ∀ {HB e},HB e = none -> qt K (upd HB e (.lst [])) (.lst []) (.ref e):=λn=>by
  rw [qt]
  exact (xa0 _ [] ⟨a_,af.of ja,by rw [y9]⟩)
 refine' (λkey=>_:(∀ HB,Sw t HB Z W Y T' (36 * T') p To R -> Fr dE Z H Z HB -> (_:Hp -> Prop) HB) -> _) _
 rotate_left
 .refine xE λN hN=>⟨_,a_,xa0 _ _ ⟨a_,a_,(by show (0:f?) < 2; decide),a_,_,a_,bj (λ_=>?_) (λ_=>hN _ _ (w4 ?_))⟩⟩
  rotate_left
  .exact key H1 S1 f1
  refine ⟨_,a_,dC,λe ne=>?_⟩
  have s2:=jh (o:=.lst []) ne
  have S2:=S1.same s2
  have f2:Fr dE Z H Z (upd H1 e (.lst [])):=f1.trans (Fr.same s2)
  have B2:=Bq.fr f2
  refine (xa0 (.lst (p.cs.map Dt.int)) (.lst []) ⟨wj (af.of B2.ro.1),jT ne,rX _,_,a_,?_⟩)
  rw [yF]
  generalize upd H1 e (.lst []) = H2 at S2 f2 B2
  refine hN _ _ (bj (λz=>?_) (λ_=>?_))
  rotate_left
  .exact key H2 S2 f2
  have nc : 0 < p.cs.length:=Ō.mpr λy=>by rw [y] at z; cases z
  refine fY λN hN=>⟨_,a_,_,a_,_,a_,_,a_,qV S2 B2.ro nc ok.cl λpu H3 RG S3 f3=>?_⟩
  have B3:=B2.fr f3
  obtain ⟨Cg,Kf⟩:=ok.c pu RG
  refine (xa8 Z W Y T' p To R pa aQ few fo ho be ro pu ⟨a_,S3,B3,ok,Cg,Kf,λH4 q o S4 f4 uq4 io eo=>?_⟩)
  have B4:=B3.fr f4
  refine hN _ _ (fY λN hN=>⟨_,a_,xa1 W.x W.dx _ ⟨a_,S4.w.o.ob.1,zq,_,a_,_,a_,_,a_,qV S4 B4.ho ok.h0 (by have:=ok.h1; omega) λh H5 hh S5 f5=>?_⟩⟩)
  have RH:=uq4.fr f5
  have B5:=B4.fr f5
  have RI:zc Y.n o = true:=by rw [S.w.n]; exact io
  have oc:o.p ∈ Y.eX:=by rw [S.w.c,eo]; exact RG
  have hk:h ∈ Y.ks.map (·.1):=by rw [S.w.h]; exact hh
  obtain ⟨B,ek,km⟩:=sQ hk
  refine (xa9 Z 0 W Y q o h B ⟨a_,S5.w.o,S5.w.kr,RH,RI,oc,ek,by omega,λH6 O6 f6 kr6=>?_⟩)
  have yH:=gn.qbw RI oc hk
  obtain ⟨S6,f6'⟩:=S5.go f6 (λr hr=>by rw [hr]) (S5.w.next f6 O6 kr6 (yH.mono (T':=T' + 1) (F':=36 * (T' + 1)) (r_ _) (by omega)) ⟨a_,a_,a_⟩)
  have F6:Fr lE Z H Z H6:=(oF (((f2.trans f3).trans f4).trans f5)).trans f6'
  have B6:=B5.fr f6
  have uq6:=RH.fr f6
  refine hN _ _ (xE λN hN=>⟨_,a_,dC,λe' ne'=>?_⟩)
  have s7:=jh (o:=.lst []) ne'
  have S7:=S6.same s7
  have F7:Fr lE Z H Z (upd H6 e' (.lst [])):=F6.trans (Fr.same s7)
  have B7:=B6.fr (P:=λ_=>w?) (Fr.same s7)
  have RJ:=uq6.fr (P:=λ_=>w?) (Fr.same s7)
  refine (xa0 (.lst (p.ls.map Dt.int)) (.lst []) ⟨wj (af.of B7.fo.1),jT ne',rX _,_,a_,?_⟩)
  rw [yF]
  generalize upd H6 e' (.lst []) = H7 at S7 F7 B7 RJ
  refine hN _ _ (bj (λz=>?_) (λ_=>k Z H7 _ _ S7 F7))
  have nl : 0 < p.ls.length:=Ō.mpr λy=>by rw [y] at z; cases z
  refine ⟨_,a_,xa1 W.x W.dx _ ⟨a_,S7.w.o.ob.1,zq,_,a_,_,a_,qV S7 B7.fo nl (by omega) λh' H8 RK S8 f8=>?_⟩⟩
  have uq8:=RJ.fr f8
  refine ⟨_,a_,xb2 Z 0 W _ h' q o p.ls _ _ _ ⟨a_,S8.w.o,S8.w.kr,S8.w.ly.1,RK,uq8,yH.lo _ p?,yH.mw _ p?,yH.sz,(by rw [C?]; omega),(by show Y.ks.length + p.ls.length + 1 <= 1000; omega),by omega,λ Z9 H9 O9 f9 kr9=>?_⟩⟩
  have g9:=(yH.lie RK p?).mono (T':=T' + 1) (F':=36 * (T' + 1)) (r_ _) (by omega)
  obtain ⟨S9,f9'⟩:=S8.go f9 (λr hr=>by rcases hr with hr | hr | hr <;> rw [hr]) (S8.w.next f9 O9 kr9 g9 (Cf h' [o] _).eJ)
  exact k Z9 H9 _ _ S9 ((F7.trans (oF f8)).trans f9')
 rintro HA SA fA
 refine' (λkey=>_:(∀ HB,Sw t HB Z W Y T' (36 * T') p To R -> Fr dE Z H Z HB -> (_:Hp -> Prop) HB) -> _) _
 rotate_left
 .refine xE λN hN=>⟨_,a_,dC,λe ne=>?_⟩
  have s2:=jh (o:=.lst []) ne
  have S2:=SA.same s2
  have f2:Fr dE Z H Z (upd HA e (.lst [])):=fA.trans (Fr.same s2)
  have B2:=Bq.fr f2
  refine (xa0 (.lst (p.ls.map Dt.int)) (.lst []) ⟨wj (af.of B2.fo.1),jT ne,rX _,_,a_,?_⟩)
  rw [yF]
  generalize upd HA e (.lst []) = H2 at S2 f2 B2
  refine bj (λz=>?_) (λ_=>hN _ _ (w4 ?_))
  rotate_left
  .exact key H2 S2 f2
  have nl : 0 < p.ls.length:=Ō.mpr λy=>by rw [y] at z; cases z
  refine ⟨_,a_,xa1 W.x W.dx _ ⟨a_,S2.w.o.ob.1,zq,xa2 Z 0 W Y ⟨a_,S2.w.o,by omega,λr xs nr px=>⟨dC,λe' ne'=>?_⟩⟩⟩⟩
  have s3:=jh (o:=.lst xs) nr
  have s4:=jh (o:=.lst []) ne'
  have S3:=(S2.same s3).same s4
  have f3:Fr dE Z H Z (upd (upd H2 r (.lst xs)) e' (.lst [])):=f2.trans (Fr.same (s3.trans s4))
  have JK:h_ (bZ (upd (upd H2 r (.lst xs)) e' (.lst [])) Z) xs Y.way:=Paired.gy px λ_ _=>bZ.fr (P:=λ_=>w?) (Fr.same (s3.trans s4))
  have hd:qt K (upd (upd H2 r (.lst xs)) e' (.lst [])) (.lst (Y.way.map sS)) (.ref r):=by
   rw [qt]
   exact (xa0 r xs ⟨a_,af.of (s4 _ _ ja),J8 (λx a h=>bZ.qef h) JK⟩)
  have dl:=Rq Y.way
  refine (xa0 _ _ ⟨hd,jT ne',by rw [bN]; omega,_,a_,?_⟩)
  rw [yF]
  generalize upd (upd H2 r (.lst xs)) e' (.lst []) = H3 at S3 f3
  refine bj (λz=>?_) (λ_=>hN _ _ (w4 ?_))
  rotate_left
  .exact key H3 S3 f3
  have nw : 0 < Y.way.length:=Ō.mpr λy=>by rw [y] at z; cases z
  refine ⟨_,a_,xa1 To R 3 ⟨a_,S3.tn,by decide,by decide,λd H4 d0 d1 yG k4=>?_⟩⟩
  obtain ⟨S4,f4⟩:=S3.draw yG k4
  have F4:=f3.trans f4
  refine ⟨a_,_,a_,hN _ _ (bj (λ_=>?_) (λ_=>?_))⟩
  rotate_left
  .exact key H4 S4 F4
  have B4:=Bq.fr F4
  refine ⟨_,a_,_,a_,_,a_,qV S4 B4.fo nl (by omega) λh H5 hh S5 f5=>?_⟩
  refine ⟨_,a_,_,a_,xa1 W.x W.dx _ ⟨a_,S5.w.o.ob.1,zq,xa2 Z 0 W Y ⟨a_,S5.w.o,by omega,λr' oz yI RL=>?_⟩⟩⟩
  have lx:oz.length = Y.way.length:=q? RL
  have s6:=jh (o:=.lst oz) yI
  obtain ⟨n1,n2⟩:=S5.tn.fresh yI
  have S6:=S5.same s6
  have f6:Fr dE Z H Z (upd H5 r' (.lst oz)):=(F4.trans f5).trans (Fr.same s6)
  refine (xa2 To R r' oz ⟨a_,S6.tn,ja,n1,n2,by omega,by omega,λi x H7 ex Kg k7=>?_⟩)
  obtain ⟨S7,f7⟩:=S6.draw Kg k7
  obtain ⟨l,el,ul⟩:=qo RL ex
  obtain ⟨a,q,rfl,_,h1,uq⟩:=(ul.fr (P:=λ_=>w?) (Fr.same s6)).fr f7
  exact (xa2 a _ 2 (.ref q) ⟨a_,a_,az.of h1,a_,xa6 Z W Y T' p To R ⟨S7,hT,λ Z' H' Y' v S' f'=>k Z' H' Y' _ S' ((oF (f6.trans f7)).trans f'),.inr (xa1 h q l ⟨a_,hh,ok.ll,uq,u_ el⟩)⟩⟩)
 rintro HC SC fC
 refine' (λkey=>_:(∀ HB,Sw t HB Z W Y T' (36 * T') p To R -> Fr dE Z H Z HB -> (_:Hp -> Prop) HB) -> _) _
 rotate_left
 .refine xE λN hN=>⟨_,a_,xa1 W.x W.dx _ ⟨a_,SC.w.o.ob.1,zq,xa2 Z 0 W Y ⟨a_,SC.w.o,by omega,gn.g.b.nd,bne,λr vs ts H1 nr s1 q1 q2 q3 h1=>⟨dC,λe ne=>?_⟩⟩⟩⟩
  have s2:=jh (o:=.lst []) ne
  have S2:=(SC.same s1).same s2
  have f2:Fr dE Z H Z (upd H1 e (.lst [])):=fC.trans (Fr.same (s1.trans s2))
  have hd:qt K (upd H1 e (.lst [])) (.lst (ts.map lD)) (.ref r):=by
   rw [qt]
   exact (xa0 r vs ⟨a_,af.of (s2 _ _ h1),J8 (λx a h=>by obtain ⟨a',rfl,q⟩:=h; exact J9 (az.of (s2 _ _ q))) q3⟩)
  have dl:=Ka ts
  refine (xa0 _ _ ⟨hd,jT ne,by rw [bN]; omega,_,a_,?_⟩)
  rw [yF]
  generalize upd H1 e (.lst []) = H2 at S2 f2
  refine bj (λz=>?_) (λ_=>hN _ _ (w4 ?_))
  rotate_left
  .exact key H2 S2 f2
  have nt:ts ≠ []:=λy=>by rw [y] at z; cases z
  have nt2 : 0 < (xu Y.bd Y.en).length:=by
   rw [<- q1.length_eq]
   exact Ō.mpr nt
  refine ⟨_,a_,xa1 To R 4 ⟨a_,S2.tn,by decide,by decide,λd H3 d0 d1 qU k3=>?_⟩⟩
  obtain ⟨S3,f3⟩:=S2.draw qU k3
  have F3:=f2.trans f3
  refine ⟨a_,_,a_,hN _ _ (bj (λ_=>?_) (λ_=>?_))⟩
  rotate_left
  .exact key H3 S3 F3
  refine ⟨_,a_,xa1 W.x W.dx _ ⟨a_,S3.w.o.ob.1,zq,_,a_,_,a_,xa1 W.x W.dx _ ⟨a_,S3.w.o.ob.1,zq,xa2 Z 0 W Y ⟨a_,S3.w.o,by omega,gn.g.b.nd,bne,λr' aZ bo H4 yI s4 RM q2' RN h4=>?_⟩⟩⟩⟩
  have S4:=S3.same s4
  have F4:Fr dE Z H Z H4:=F3.trans (Fr.same s4)
  obtain ⟨n1,n2⟩:=S3.tn.fresh yI
  have lv:aZ.length = (xu Y.bd Y.en).length:=(q? RN).trans RM.length_eq
  have lc:(xu Y.bd Y.en).length <= Y.bd.length:=by
   unfold xu
   rw [g_]
   exact ê _ _
  refine (xa2 To R r' aZ ⟨a_,S4.tn,h4,n1,n2,by omega,by omega,λi x H5 ex Ap k5=>?_⟩)
  obtain ⟨S5,f5⟩:=S4.draw Ap k5
  obtain ⟨ti,eti,a,rfl,ha⟩:=qo RN ex
  obtain ⟨o,oL,rfl,oc⟩:=gn.jN (RM.mem_iff.mp (u_ eti))
  have uo:xt H4 Z (.ref a) o:=⟨a,a_,S4.w.kr.tup ha,ha⟩
  have uo5:=uo.fr f5
  have B5:=Bq.fr (F4.trans f5)
  refine ⟨_,a_,_,a_,qV S5 B5.ho ok.h0 (by have:=ok.h1; omega) λh H6 hh S6 f6=>?_⟩
  have hk:h ∈ Y.ks.map (·.1):=by rw [S.w.h]; exact hh
  obtain ⟨B,ek,km⟩:=sQ hk
  refine (xa9 Z 0 W Y a o h B ⟨a_,S6.w.o,S6.w.kr,uo5.fr f6,gn.lo _ oL,ek,oc,by omega,λH7 O7 f7 kr7=>?_⟩)
  have g7:=(gn.Rl oL hk (b:=false) λ_=>oc).mono (T':=T' + 1) (F':=36 * (T' + 1)) (by omega) (by omega)
  obtain ⟨S7,f7'⟩:=S6.go f7 (λr hr=>by rw [hr]) (S6.w.next f7 O7 kr7 g7 ⟨a_,a_,a_⟩)
  exact k Z H7 _ _ S7 ((oF ((F4.trans f5).trans f6)).trans f7')
 rintro HD SD fD
 refine fY λN hN=>⟨_,a_,_,a_,xa1 To R (p.ns.length:f?) ⟨a_,SD.tn,by omega,by omega,λpu H1 Cg Kf qT k1=>?_⟩⟩
 obtain ⟨S1,f1⟩:=SD.draw qT k1
 refine hN _ _ (fY λN hN=>⟨_,a_,xa0 _ _ ⟨a_,a_,_,a_,_,a_,xa0 _ _ ⟨a_,a_,xa1 To R ((p.ns.length:f?) - 1) ⟨a_,S1.tn,by omega,by omega,λd H2 d0 d1 lF k2=>?_⟩⟩⟩⟩)
 obtain ⟨S2,f2⟩:=S1.draw lF k2
 obtain ⟨g0,g1,g2⟩:=RE Cg Kf d0 d1
 refine (xa0 _ _ ⟨a_,a_,_,a_,xa0 _ _ ⟨a_,a_,(by show (0:f?) < (p.ns.length:f?); omega),?_⟩⟩)
 refine hN _ _ ⟨_,a_,_,a_,_,a_,_,a_,_,a_,xa1 To R 30 ⟨a_,S2.tn,by decide,by decide,λm H3 m0 m1 qU k3=>?_⟩⟩
 obtain ⟨S3,f3⟩:=S2.draw qU k3
 refine ⟨oq,λl nl=>?_⟩
 have s4:=jh (o:=.lst ([0,4,m].map V.int)) nl
 have S4:=S3.same s4
 have u4:Un (upd H3 l (.lst ([0,4,m].map V.int))) Z l ([0,4,m].map V.int):=⟨ja,S3.w.kr.none nl⟩
 refine qV S4 u4 (by show 0 < 3; decide) (by show 3 <= 1000; decide) λv H5 hv S5 f5=>?_
 have v01 : 0 <= v /\ v <= 30:=by
  simp only [D?,abq,aeT] at hv
  rcases hv with rfl | rfl | rfl <;> omega
 have en:(Y.n:f?) = (p.ns.length:f?):=by rw [S.w.n]
 have F5:Fr dE Z H Z H5:=(((fD.trans f1).trans f2).trans f3).trans ((Fr.same s4).trans f5)
 exact (xa0 _ _ ⟨a_,a_,xa6 Z W Y T' p To R ⟨S5,hT,λ Z' H' Y' v S' f'=>k Z' H' Y' _ S' ((oF F5).trans f'),.inl (xa1 pu ((pu + 1 + d) % (p.ns.length:f?)) (1 + v) ⟨a_,⟨Cg,by omega⟩,⟨g0,by omega⟩,g2,by omega,by omega⟩)⟩⟩)
structure Tw (H:Hp)(Z:aq)(To R:c_):Prop where
 kr:ay Z H
 tn:cW To R H
 tr:yE Z To R
section
variable {H H':Hp}{Z:aq}{To R:c_}
theorem Tw.same (s:x8 H H')(x:Tw H Z To R):Tw H' Z To R:=⟨x.kr.same s,x.tn.same s,x.tr⟩
theorem Tw.draw (x:Tw H Z To R)(hT:cW To R H')(k:kX To R H H'):Tw H' Z To R/\Fr dE Z H Z H':=⟨⟨Ro x.kr hT k,hT,x.tr⟩,J7 x.tr k⟩
end
noncomputable def j46 (t:Ad):Sp:=λvs H Q _=>∃Z To R,vs=[.ref To]/\Tw H Z To R/\∀Z' H' W Y pa cr few fo ho be ro p,p.Ok->Sw t H' Z' W Y 0 0 p To R->Ps H' Z' pa W.x cr few fo ho be ro p->Q (.ref pa) H'
set_option maxHeartbeats 0 in
theorem juv (T:Txt K mg t) : zv P w K mg base CX0 8 t.HV t.HW ["_law_town_here"] (j46 t):=by
 refine T.PJ.bF y3 λ_ A _ s H vs Q E hr h=>?_
 obtain ⟨Z,To,R,rfl,S,k⟩:=h
 refine ⟨_,(@jb _ _ _ _ _ (j7 (i:=1) y3.nd a_ (o_ a_) (jm (qg T) hr.dn a_ T.qi T.qh.kp T.qj .nil jl (@y6 _ _ _ _ _ (pv 0) jn a_ a_)))
  (@jb _ _ _ _ _ (j7 (i:=2) y3.nd a_ (o_ a_) (xx gU (xx gU (xx zV jn (pv 1)) jn) (jm (qg T) hr.dn a_ T.qi T.qh.kp T.qj .nil jl (@y6 _ _ _ _ _ (pv 0) jn a_ a_))))
  (@jb _ _ _ _ _ (j7 (i:=3) y3.nd a_ (ad0 a_) (jm (Rw T) hr.dn a_ T.PF T.IW.kp T.PH .nil jl (@cq _ _ _ _ _ _ _ (pv 0) (pv 2) (pv 1) a_ a_ a_)))
  (@jb _ _ _ _ _ (MW (i:=4) y3.nd a_ a_ (N':=["_law_k","_law_town_here"]) (ix:=[none,some 0]) (xr (by kernel_rfl)) a_ (rF a_ T.sr (jc (xx gU jn (jm (qg T) hr.dn a_ T.qi T.qh.kp T.qj .nil jl (@y6 _ _ _ _ _ (pv 0) jn a_ a_))) jf)) (λ_ _ _ _=>(jr (i:=0) ZU a_ (o_ a_) (.inr a_))) (λ_ _ _ _=>lY) (λ_ _ _ _=>(jm (zo T) hr.dn a_ T.zu T.zg.kp T.zw .nil jl (@y6 _ _ _ _ _ (pv 1) (@xf _ _ _ _ (@Fh _ _ _ _ _ _ _ _ _ _ _ jn jn jn jn (jm (qg T) hr.dn a_ T.qi T.qh.kp T.qj .nil jl (@y6 _ _ _ _ _ (pv 1) jn a_ a_)) a_ a_ a_ a_ a_)) a_ a_))))
  (@jb _ _ _ _ _ (j7 (i:=5) y3.nd a_ (o_ a_) (jm (Rw T) hr.dn a_ T.PF T.IW.kp T.PH .nil jl (@cq _ _ _ _ _ _ _ (pv 0) (jo jw a_ T.cC boot_len (jc (pv 4) jf)) jn a_ a_ a_)))
  (@jb _ _ _ _ _ (j7 (i:=6) y3.nd a_ (o_ a_) (X3 T.jy6 (jo6 T) hr.dn a_ T.j2t T.jex jl (jc (pv 2) jf) (xc (pv 1) (xc (pv 4) (xc (pv 3) (xc (pv 5) uu))))))
  (@je _ _ _ (jv (@iU _ _ _ _ _ (@ZJ _ _ _ _ _ _ _ _ _ _ _ _ _ _ _ (pv 6) (pv 2) (pv 1) (pv 3) (kJ (N':=["_law_k","_law_foes"]) (ix:=[none,some 3]) (xr (by kernel_rfl)) a_ (rF a_ T.sr (jc (pv 2) jf)) (λ_ _ _ _=>(jr (i:=0) ZT a_ (o_ a_) (.inr a_))) (λ_ _ _ _=>(rO (jz (NB (K:=K) a_) (pv 0) (pv 1) (by with_unfolding_all rfl)))) (λ_ _ _ _=>(pv 0))) (pv 4) (pv 5) a_ a_ a_ a_ a_ a_ a_)))))))))),?_⟩
 refine ⟨_,a_,xa1 To R 3 ⟨a_,S.tn,by decide,by decide,λf H1 f0 f1 qT k1=>?_⟩⟩
 obtain ⟨S1,r1⟩:=S.draw qT k1
 refine ⟨_,a_,xa0 _ _ ⟨a_,a_,.inl ⟨by decide,by decide⟩,xa0 _ _ ⟨a_,a_,_,a_,xa1 To R 2 ⟨a_,S1.tn,by decide,by decide,λd H2 d0 d1 lF k2=>?_⟩⟩⟩⟩
 obtain ⟨S2,r2⟩:=S1.draw lF k2
 have F2:=r1.trans r2
 obtain ⟨h,eh⟩ : ∃ h:f?,h = 3 * f + 1 + d:=⟨_,a_⟩
 refine (xa0 _ _ ⟨a_,a_,?_⟩)
 dsimp only
 rw [<- eh]
 have h1 : 1 <= h:=by omega
 have h8:h <= 16:=by omega
 have lt : 3 * f < h:=by omega
 refine ⟨_,a_,_,a_,_,a_,xa2 To R h f ⟨a_,S2.tn,by omega,by omega,λfo ls H3 nfo qU k3 hfo BN BO Kh=>?_⟩⟩
 rw [m_ f0] at Kh
 obtain ⟨S3,r3⟩:=S2.draw qU k3
 have F3:=F2.trans r3
 have U3:Un H3 Z fo (ls.map V.int):=⟨hfo,S2.kr.none nfo⟩
 show dI 3 (.ref fo) [some (.ref To),some (.int f),some (.int h),none,none,none,none] H3 _
 refine ⟨_,a_,xa1 To R 3 ⟨a_,S3.tn,by decide,by decide,λc H4 c0 c1 yG k4=>?_⟩⟩
 obtain ⟨S4,r4⟩:=S3.draw yG k4
 have U4:=U3.fr r4
 have F4:=F3.trans r4
 refine (xa0 _ _ ⟨a_,a_,2 + c,a_,by omega,by omega,MX (lo:=0) (n:=(2 + c).toNat) (λi ys U H'=>∃ v zs,U = [v,some (.ref To)] /\ ys = (zs:b? f?).map V.int /\ zs.length = i /\ (∀ z ∈ zs,0 <= z /\ z <= 1000) /\ Tw H' Z To R /\ Fr dE Z H4 Z H') (xa0 none [] ⟨a_,a_,a_,(λ_ z=>by cases z),S4,Fr.refl⟩) ?_ ?_ ?_⟩)
 .rintro i ys U H' hi ⟨v,zs,rfl,rfl,lz,_⟩
  rw [g_]
  exact Qt (by omega)
 .rintro i ys U H' hi ⟨v,zs,rfl,rfl,lz,rz,S5,r5⟩
  dsimp only [dI,pC]
  rw [m_ a_]
  refine ⟨_,a_,_,a_,xa1 To R 40 ⟨a_,S5.tn,by decide,by decide,λm H6 m0 m1 hT6 k6=>?_⟩⟩
  obtain ⟨S6,r6⟩:=S5.draw hT6 k6
  refine ⟨ZF,λl nl=>?_⟩
  have s7:=jh (o:=.lst ([0,5,20,1000,m].map V.int)) nl
  have S7:=S6.same s7
  obtain ⟨n1,n2⟩:=S6.tn.fresh nl
  refine (xa2 To R l ([0,5,20,1000,m].map V.int) ⟨a_,S7.tn,ja,n1,n2,by show 0 < 5; decide,by show 5 <= 1000000; decide,λj x H8 ex hT8 k8=>?_⟩)
  obtain ⟨S8,r8⟩:=S7.draw hT8 k8
  obtain ⟨z,hz,rfl⟩:=int_at ex
  refine (xa0 _ (zs ++ [z]) ⟨a_,by rw [K_]; rfl,by rw [p_,lz]; rfl,λy hy=>?_,S8,(r5.trans r6).trans ((Fr.same s7).trans r8)⟩)
  rcases v_.mp hy with hy | hy
  .exact rz y hy
  .rw [j'.mp hy]
   simp only [D?,abq,aeT] at hz
   rcases hz with rfl | rfl | rfl | rfl | rfl <;> omega
 rintro ys U H5 ⟨v,ns,rfl,rfl,lz,rz,S5,r5⟩ be RO
 have s6:=jh (o:=.lst (ns.map V.int)) RO
 have S6:=S5.same s6
 have Ki:Un (upd H5 be (.lst (ns.map V.int))) Z be (ns.map V.int):=⟨ja,S5.kr.none RO⟩
 have RP:Un (upd H5 be (.lst (ns.map V.int))) Z fo (ls.map V.int):=(U4.fr r5).fr (P:=λ_=>w?) (Fr.same s6)
 have F6:Fr dE Z H Z (upd H5 be (.lst (ns.map V.int))):=(F4.trans r5).trans (Fr.same s6)
 generalize upd H5 be (.lst (ns.map V.int)) = H6 at S6 Ki RP F6
 show dI 4 (.ref be) [some (.ref To),some (.int f),some (.int h),some (.ref fo),none,none,none] H6 _
 refine ⟨_,a_,_,a_,xa0 be _ ⟨a_,.inl (af.of Ki.1),?_⟩⟩
 rw [g_]
 refine (xa2 To R (ns.length:f?) 2 ⟨a_,S6.tn,by omega,by omega,λro cs H7 nro Kg k7 hro upc BP lnc=>?_⟩)
 rw [m_ (by decide)] at lnc
 obtain ⟨S7,r7⟩:=S6.draw Kg k7
 have Uro:Un H7 Z ro (cs.map V.int):=⟨hro,S6.kr.none nro⟩
 have Kj:=Ki.fr r7
 have Kk:=RP.fr r7
 have F7:=F6.trans r7
 show dI 5 (.ref ro) [some (.ref To),some (.int f),some (.int h),some (.ref fo),some (.ref be),none,none] H7 _
 refine ⟨_,a_,_,a_,_,a_,_,a_,_,a_,λx dx nx oE ne=>?_⟩
 obtain ⟨fm,krm⟩:=j78 (C:=t.j4) nx oE ne (r:=(0,.x)) S7.kr
 have qW:=Kj.fr fm
 have qX:=Kk.fr fm
 have qY:=Uro.fr fm
 have ln:ns.length = (2 + c).toNat:=lz
 refine (xb3 (aE Z x (0,.x)) 0 x dx h f be ns fo ro cs ls ⟨a_,ja,xa,krm,⟨h1,h8⟩,⟨f0,by omega⟩,lt,qW.1,(λr hr=>by rw [qW.2] at hr; cases hr),by omega,by omega,rz,.inl ⟨qX.1,λr hr=>by rw [qX.2] at hr; cases hr⟩,BN,BO,Kh,.inl ⟨qY.1,λr hr=>by rw [qY.2] at hr; cases hr⟩,upc,BP,λ Z' H8 W ex Kl O ly f8 kr8=>⟨a_,?_⟩⟩)
 have gn:=qbm (cs:=cs) ⟨h1,h8⟩ f0 lt (by omega:ns.length <= 8) (λx hx=>(rz x hx).1) Kh BO BN
 have ek:(w0 h f ns cs ls).ks.map (·.1) = aQ ls h.toNat:=by
  show ((aQ ls h.toNat).map λi=>(i,ik ns)).map (·.1) = _
  rw [aav]
  exact b?.map_id _
 have lk:(aQ ls h.toNat).length = (w0 h f ns cs ls).ks.length:=by rw [<- ek,g_]
 have k0:=gn.ok.k0
 have k1:=gn.ok.k1
 obtain ⟨tn8,tr8⟩:=Rr f8 (λz=>by cases z) (λz=>by cases z) (S7.tn.same (λb u e=>(fm b u e (λ_ _ z=>z)).1)) ⟨by rw [x9 (S7.tn.fresh nx).1.symm]; exact S7.tr.1,by rw [x9 (S7.tn.fresh nx).2.symm]; exact S7.tr.2⟩
 have S8:Sw t H8 Z' W (w0 h f ns cs ls) 0 0 ⟨ns,cs,ls,aQ ls h.toNat⟩ To R:=⟨⟨O,kr8,ly,⟨[],gn⟩,a_,a_,ek,Kl⟩,tn8,tr8⟩
 have Km:=qW.fr f8
 have yJ:=qX.fr f8
 have Kn:=qY.fr f8
 show dI 6 (V.ref x) [some (.ref To),some (.int f),some (.int h),some (.ref fo),some (.ref be),some (.ref ro),none] H8 _
 refine ⟨_,a_,_,a_,_,a_,_,a_,_,a_,h,a_,by omega,by omega,MX (lo:=0) (n:=h.toNat) (λi ys U H'=>∃ v,U = [v,some (.ref fo)] /\ H' = H8 /\ ys = (aQ ls i).map V.int) ⟨none,a_,a_,a_⟩ ?_ ?_ ?_⟩
 .rintro i ys U H' hi ⟨v,rfl,rfl,rfl⟩
  rw [g_]
  have:=JM ls i
  exact Qt (by omega)
 .rintro i ys U H' hi ⟨v,rfl,rfl,rfl⟩
  have e0:(0:f?) + (i:f?) = i:=afn _
  rw [e0]
  refine ⟨_,a_,_,a_,xa0 fo _ ⟨a_,.inl (af.of yJ.1),a_,qD _,_,a_,?_⟩⟩
  rw [m_ a_,jL]
  by_cases z:(i:f?) ∈ ls
  .rw [i? z]
   refine w4 ⟨_,a_,a_,?_⟩
   rw [BL,m_ z,â]
  .rw [z? z]
   refine bA ⟨_,a_,_,a_,a_,?_⟩
   rw [BL,j? z,K_]
   rfl
 rintro ys U H9 ⟨v,rfl,rfl,rfl⟩ ho RQ
 have dQ:=jh (o:=.lst ((aQ ls h.toNat).map V.int)) RQ
 refine ⟨_,a_,_,a_,ZH,λpa RS=>?_⟩
 have oG:=jh (o:=.tup [.ref x,.int h,.int f,.ref fo,.ref ho,.ref be,.ref ro]) RS
 have fs:Fr (λ_=>w?) Z' H9 Z' _:=Fr.same (dQ.trans oG)
 have Ci:=(S8.same dQ).same oG
 refine k Z' _ W _ pa h f fo ho be ro _ ⟨by show 2 <= ns.length; omega,by show ns.length <= 8; omega,BP,by show cs.length <= 1000; omega,by show ls.length <= 5; omega,by show 0 < (aQ ls h.toNat).length; omega,by show (aQ ls h.toNat).length <= 16; omega,rz⟩ Ci ⟨⟨?_,(S8.same dQ).w.kr.none RS⟩,yJ.fr fs,⟨oG _ _ ja,S8.w.kr.none RQ⟩,Km.fr fs,Kn.fr fs⟩
 rw [ex]
 exact ja
theorem joj (T:Txt K mg t):zv P w K mg base CX0 1 t.He t.Hf ["self"] (λvs H Q _=>∃Z id W Y,vs=[.ref W.x]/\qp t H Z id W Y/\Q (.bl (s? (Y.way=[]))) H):=by
 refine T.jhw.aW (N:=["self"]) λ_ A _ s H vs Q E hr h=>?_;obtain⟨Z,id,W,Y,rfl,O,k⟩:=h;refine⟨_,(@je _ _ _ (jv (Y3 (j3 (pv 0) a_)))),?_⟩;obtain⟨dW,xs,hw,pw⟩:=O.wy;refine⟨_,a_,xa3 W.x _ W.dx _ _ ⟨a_,O.ob.1,T.jk,T.qz,qJ,_,.inl ⟨xs,af.of hw,a_⟩,?_⟩⟩;have e:∀{ys:b? _},h_ (bZ H Z) xs ys->(! !xs.isEmpty)=s? (ys=[]):=λq=>by
  cases q with
  |nil=>rfl
  |cons _ _=>simp
 rw[e pw];exact k
theorem Sw.up {t:Ad}{H:Hp}{Z:aq}{W:WA}{Y:Wd}{T F F2:i_}{p:Pt}{To R:c_}(hF:F<=F2)(x:Sw t H Z W Y T F p To R):Sw t H Z W Y T F2 p To R:=⟨⟨x.w.o,x.w.kr,x.w.ly,let⟨L,g⟩:=x.w.g;⟨L,g.mono (r_ _) hF⟩,x.w.n,x.w.c,x.w.h,x.w.bB⟩,x.tn,x.tr⟩
noncomputable def j01 (t:Ad):Sp:=λvs H Q _=>∃Z W Y T p To R,vs=[.ref To,.ref W.x]/\Sw t H Z W Y T (36*T) p To R/\p.ls.length<=5/\T<=40/\∀Z' H' Y',Sw t H' Z' W Y' T (36*T) p To R->Fr lE Z H Z' H'->Y'.way=[]->Q (.bl true) H'
set_option maxHeartbeats 0 in
theorem jp9 (T:Txt K mg t) : zv P w K mg base CX0 10 t.Ih t.Ii ["_law_town_here","_law_world_here"] (j01 t):=by
 refine T.PU.bF OE λ_ A _ s H vs Q E hr h=>?_
 obtain ⟨Z,W,Y,T',p,To,R,rfl,S,l5,hT,k⟩:=h
 refine ⟨_,(@jb _ _ _ _ _ (iR ú a_ (rF a_ T.sr (jc jn jf)) (jr (i:=2) OE.nd a_ (o_ a_)) (@je _ _ _ (zf (jz zW (jm (RC T) hr.dn a_ T.PN T.IZ.kp T.PO .nil jl (@y6 _ _ _ _ _ (pv 0) (pv 1) a_ a_)) gR (qe _)) (@je _ _ _ (jv (gW V3 (wo (pv 1) T.jk T.jgj (joj T) hr.dn T.jhv .nil jl) dZ (qe _)))) j9)))
  (@je _ _ _ (jv dZ))),?_⟩
 refine ⟨1500,a_,by decide,by decide,Dm (lo:=0) (n:=1500) (λi U H'=>∃ v Z' Y' F,U = [some (.ref To),some (.ref W.x),v] /\ Sw t H' Z' W Y' T' F p To R /\ F + i <= 36 * T' /\ Fr lE Z H Z' H') (xa2 none Z Y _ ⟨a_,S,by omega,Fr.refl⟩) ?_ ?_⟩
 .rintro i U H1 hi ⟨v,Z1,Y1,F,rfl,S1,hF,f1⟩
  refine ⟨_,a_,_,a_,xa9 Z1 W Y1 T' F p To R ⟨a_,S1,l5,by omega,by omega,λew H2 S2 f2=>?_,λF0 Z2 H2 Y2 a S2 f2=>?_⟩⟩
  .refine ⟨a_,_,a_,bA ?_⟩
   refine ⟨_,a_,xa1 W.x W.dx _ ⟨a_,S2.w.o.ob.1,zq,xa2 Z1 0 W Y1 ⟨a_,S2.w.o,xa0 _ _ ⟨a_,a_,?_⟩⟩⟩⟩
   rw [i? ew]
   exact k Z1 H2 Y1 (S2.up (by omega)) (f1.trans f2) ew
  .exact ⟨a_,_,a_,w4 (xa2 _ Z2 Y2 (F - 1) ⟨a_,S2,by omega,f1.trans f2⟩)⟩
 .rintro U H1 ⟨v,Z1,Y1,F,rfl,S1,hF,f1⟩
  omega
theorem KX.len {L:b? O}{C:O->o?}{n:i_}{ns:b? f?}{B:Kp}(k:KX L C n ns B){p:f?}(h0:0<=p)(h1:p<(n:f?)):((aH p B.done).length:f?)=gI B.uw p:=by obtain⟨g0,eg⟩:=k.nm p h0 h1;have:=X? Ĕ eg;rw[g_]at this;rw[this];unfold upTo;rw[g_,ß];lia
section
variable {Y:Wd}{T F:i_}{L:b? O}{ls ns:b? f?}
theorem Gz.due (g:Gz Y T F L ls ns){c:f?×Kp}(hc:c∈Y.ks){o:O}(ho:o∈c.2.wait):¬(o.n=((aH o.p c.2.done).length:f?)/\o.m<=gI c.2.held o.p):=λ⟨e1,e2⟩=>by obtain⟨kx,kz,ca⟩:=g.ks c hc;obtain⟨p0,p1,_⟩:=qc.mp (g.lo o (kz.wl o ho));have d:=ca o ho;unfold Kp.due at d;rw[kx.len p0 (by lia)]at e1;rw[i? e1,i? e2]at d;cases d
theorem Gz.all (g:Gz Y T F L ls ns)(st:Y.way=[]){c:f?×Kp}(hc:c∈Y.ks){o:O}(h:Y.carried o=true):o∈c.2.done\/o∈c.2.wait:=by
 rcases g.pp c hc o h with q|q
 .rw[st]at q;cases q
 .exact q
end
theorem RT {a b c:b? (b? f?)}(h1:a.Perm c)(h2:a.Pairwise λx y=>HT.lexLt x y=true)(h3:b.Perm c)(h4:b.Pairwise λx y=>HT.lexLt x y=true):a=b:=Ď (λx y _ _ p q=>by rw[Av p]at q;cases q) h2 h4 (h1.trans h3.symm)
mutual
theorem Ko:∀d:Dt,bc d d=true
 | .aj=>by simp[bc]
 | .bl _=>by simp[bc]
 | .int _=>by simp[bc]
 | .str _=>by simp[bc]
 | .tup ds=>by rw[bc];exact Kq ds
 | .lst ds=>by rw[bc];exact Kq ds
theorem Kq:∀ds:b? Dt,cO ds ds=true
 |[]=>by rw[cO]
 |d::ds=>by rw[cO,Ko d,Kq ds];rfl
end
theorem iK (S N D:c_):(eC S N D).lookup ("held":y?)=some (.ref S)/\(eC S N D).lookup ("next_numbers":y?)=some (.ref N)/\(eC S N D).lookup ("done":y?)=some (.ref D):=by unfold eC;refine⟨?_,?_,?_⟩<;>repeat(first|rw[jj,m_ a_]|rw[jj,j? (by decide+kernel)])
theorem yK (S N D:c_){m:y?}(h:¬m="done"/\¬m="next_numbers"/\¬m="held"):(eC S N D).lookup m=none:=by unfold eC;rw[jj,j? h.1,jj,j? h.2.1,jj,j? h.2.2];rfl
noncomputable def cnt (n:i_)(L:b? O):b? f?:=(V_ n).map λ(i:i_)=>((aH i L).length:f?)
theorem qZ (n:i_)(L:b? O):(cnt n L).length=n:=by unfold cnt;rw[g_,ß]
theorem mE {n:i_}{L:b? O}{p:f?}(h0:0<=p)(h1:p<(n:f?)):(cnt n L)[p.toNat]?=some ((aH p L).length:f?):=by unfold cnt;rw[y_,aaH (by lia)];show some (((aH (p.toNat:f?) L).length:i_):f?)=_;rw[Đ h0]
theorem j5p {n:i_}{L:b? O}{o:O}(h0:0<=o.p):gm (cnt n L) o.p 1=cnt n (L++[o]):=by
 refine aa7 λi=>?_;unfold gm;by_cases hi:i<n
 .have e:=mE (n:=n) (L:=L) (p:=(i:f?)) (by lia) (by lia);have e':=mE (n:=n) (L:=L++[o]) (p:=(i:f?)) (by lia) (by lia);rw[R_]at e e';rw[e',Q8];by_cases z:o.p=(i:f?)
  .have zi:o.p.toNat=i:=by lia
   rw[zi,Y_ (by rw[qZ];exact hi),m_ z,p_];unfold gI;rw[zi,e];rfl
  .rw[ø (by lia),e,j? z,â]
 .rw[Ű (by rw[Ź,qZ];lia),Ű (by rw[qZ];lia)]
theorem cnt_nil (n:i_):(B_ n [V.int 0]).flatten=(cnt n []).map V.int:=by
 have:cnt n []=B_ n 0:=by
  unfold cnt;refine aa7 λi=>?_;rw[y_,ų];by_cases hi:i<n
  .rw[aaH hi,m_ hi];rfl
  .rw[Ű (by rw[ß];lia),j? hi];rfl
 rw[this,adq];clear this;induction n with
 |zero=>rfl
 |succ n ih=>rw[Ù,ń,ih,Ù];rfl
theorem RU (b:b? f?)(L:b? O)(o:O):bT b (L++[o])=il (bT b L) o:=by unfold bT;rw[aaY];rfl
noncomputable def sU (H:Hp)(v:V)(o:O):Prop:=cD H v (yh o)
noncomputable abbrev eF (H:Hp)(vs:b? V)(os:b? O):Prop:=h_ (sU H) vs os
theorem zh {H H':Hp}{vs:b? V}{os:b? O}(s:x8 H H')(h:eF H vs os):eF H' vs os:=Paired.gy h λ_ _=>cD.same s
structure gA (t:Ad)(H:Hp)(p dx S N D:c_)(b:b? f?)(L:b? O):Prop where
 ob:H p=some (.ins t.fU dx (eC S N D))
 he:H S=some (.lst ((bT b L).map V.int))
 nn:H N=some (.lst ((cnt b.length L).map V.int))
 dn:∃ds,H D=some (.lst ds)/\eF H ds L
 ne:S≠N/\S≠D/\N≠D
theorem gA.same {t:Ad}{H H':Hp}{p dx S N D:c_}{b:b? f?}{L:b? O}(s:x8 H H')(h:gA t H p dx S N D b L):gA t H' p dx S N D b L:=⟨s _ _ h.ob,s _ _ h.he,s _ _ h.nn,let⟨ds,h1,h2⟩:=h.dn;⟨ds,s _ _ h1,zh s h2⟩,h.ne⟩
noncomputable def gM (b:b? f?)(L:b? O)(o:O):o?:=s? (o.n=((aH o.p L).length:f?))&&s? (o.m<=gI (bT b L) o.p)
theorem jqe (T:Txt K mg t):zv P w K mg base CX0 1 t.gu t.Bl ["self","order"] (λvs H Q _=>∃p dx S N D b L q o,vs=[.ref p,.ref q]/\gA t H p dx S N D b L/\H q=some (.tup (bO o))/\zc b.length o=true/\Q (.bl (s? (o.n<((aH o.p L).length:f?)))) H):=by refine T.OZ.bF Ow λ_ A _ s H vs Q E hr h=>?_;obtain⟨p,dx,S,N,D,b,L,q,o,rfl,R,hq,ho,g⟩:=h;refine⟨_,(@je _ _ _ (jv (gW rG (gb gY (pv 1) jn (λ_ _=>a_)) (gb yr (j3 (pv 0) a_) (gb gY (pv 1) jn (λ_ _=>a_)) (λ_ _=>a_)) (qe _)))),?_⟩;obtain⟨p0,p1,_⟩:=qc.mp ho;exact⟨_,a_,xa2 q (bO o) 1 (.int o.n) ⟨a_,a_,az.of hq,a_,_,a_,xa3 p _ dx _ _ ⟨a_,R.ob,T.yg,T.qf,(iK S N D).2.1,_,a_,xa2 q (bO o) 0 (.int o.p) ⟨a_,a_,az.of hq,a_,xa2 N _ o.p _ ⟨a_,a_,af.of R.nn,fW p0 (by rw[y_,mE p0 (by omega)];rfl),xa0 _ _ ⟨a_,a_,g⟩⟩⟩⟩⟩⟩
theorem RV (T:Txt K mg t):zv P w K mg base CX0 1 t.wZ t.Bm ["self","order"] (λvs H Q _=>∃p dx S N D b L q o,vs=[.ref p,.ref q]/\gA t H p dx S N D b L/\H q=some (.tup (bO o))/\zc b.length o=true/\Q (.bl (gM b L o)) H):=by
 refine T.O0.bF qw λ_ A _ s H vs Q E hr h=>?_;obtain⟨p,dx,S,N,D,b,L,q,o,rfl,R,hq,ho,g⟩:=h;refine⟨_,(@jb _ _ _ _ _ (iP (pv 1) (kD a_ (ju (jr (i:=2) qw.nd a_ (o_ a_)) (ju (jr (i:=3) qw.nd a_ (o_ a_)) (ju (jr (i:=4) qw.nd a_ (o_ a_)) (ju (jr (i:=5) qw.nd a_ (o_ a_)) iO)))))) (@je _ _ _ (jv (lK (gW fH (pv 3) (gb yr (j3 (pv 0) a_) (pv 2) (λ_ _=>a_)) (qe _)) (mS (gW tL (pv 5) (gb yr (j3 (pv 0) a_) (pv 2) (λ_ _=>a_)) (qe _))))))),?_⟩;obtain⟨p0,p1,_⟩:=qc.mp ho;refine⟨_,a_,xa0 q _ ⟨a_,az.of hq,a_,xa0 _ _ ⟨a_,xa0 _ _ ⟨a_,xa0 _ _ ⟨a_,xa0 _ _ ⟨a_,a_,?_⟩⟩⟩⟩⟩⟩;refine⟨_,a_,_,a_,xa3 p _ dx _ _ ⟨a_,R.ob,T.yg,T.qf,(iK S N D).2.1,_,a_,xa2 N _ o.p (.int ((aH o.p L).length:f?)) ⟨a_,a_,af.of R.nn,fW p0 (by rw[y_,mE p0 (by omega)];rfl),a_,_,a_,?_⟩⟩⟩;unfold gM at g;refine bj (λz=>?_) (λz=>?_)
 .refine⟨_,a_,_,a_,xa3 p _ dx _ _ ⟨a_,R.ob,T.yg,T.uv,(iK S N D).1,_,a_,xa2 S _ o.p (.int (gI (bT b L) o.p)) ⟨a_,a_,af.of R.he,fW p0 (by rw[y_,jM p0 (by rw[qS];omega)];rfl),xa0 _ _ ⟨a_,a_,?_⟩⟩⟩⟩;rw[i? (V.int.inj (n? z)),acA]at g;exact g
 .rw[z? (λy=>z (by rw[y];exact i? a_)),acg]at g;exact g
theorem RW (T:Txt K mg t):zv P w K mg base CX0 1 t.uz t.Bn ["self","order"] (λvs H Q _=>∃p dx S N D b L q o,vs=[.ref p,.ref q]/\gA t H p dx S N D b L/\H q=some (.tup (bO o))/\zc b.length o=true/\L.length<=1000/\∀H',gA t H' p dx S N D b (L++[o])->(∀c u,H c=some u->c≠S->c≠N->c≠D->H' c=some u)->Q .aj H'):=by
 refine T.O5.bF qv λ_ A _ s H vs Q E hr h=>?_;obtain⟨p,dx,S,N,D,b,L,q,o,rfl,R,hq,ho,ld,k⟩:=h;refine⟨_,(@jb _ _ _ _ _ (iP (pv 1) (kD a_ (ju (jr (i:=2) qv.nd a_ (o_ a_)) (ju (jr (i:=3) qv.nd a_ (o_ a_)) (ju (jr (i:=4) qv.nd a_ (o_ a_)) (ju (jr (i:=5) qv.nd a_ (o_ a_)) iO)))))) (@jb _ _ _ _ _ (mV (j3 (pv 0) a_) (pv 2) nQ (pv 5) Dl set_list) (@jb _ _ _ _ _ (mV (j3 (pv 0) a_) (pv 4) nQ (pv 5) tF set_list) (@jb _ _ _ _ _ (mV (j3 (pv 0) a_) (pv 2) nQ jn tF set_list) (@je _ _ _ (qb (fq B? E_ F_ y8 (j3 (pv 0) a_) (jc (pv 1) jf)))))))),?_⟩;obtain⟨p0,p1,g0,g1,_⟩:=qc.mp ho;obtain⟨sn,sd,nd⟩:=R.ne;obtain⟨ds,hD,pd⟩:=R.dn;have hb:=R.ob;have hS:=R.he;have hN:=R.nn;have ln:=qS L b;generalize eh:bT b L=hs at hS ln;have ab:∀{c:c_}{u:HO},H c=some u->(∀xs,u≠.lst xs)->c≠S/\c≠N/\c≠D:=λe n=>⟨cT e hS (n _),cT e hN (n _),cT e hD (n _)⟩;have pa:=ab hb λ_ z=>by cases z
 have qa:=ab hq λ_ z=>by cases z
 refine⟨_,a_,xa0 q _ ⟨a_,az.of hq,a_,xa0 _ _ ⟨a_,xa0 _ _ ⟨a_,xa0 _ _ ⟨a_,xa0 _ _ ⟨a_,a_,?_⟩⟩⟩⟩⟩⟩;refine⟨_,a_,xa3 p _ dx _ _ ⟨a_,hb,T.yg,T.uv,(iK S N D).1,_,a_,xa2 S _ o.p (.int (gI hs o.p)) ⟨a_,a_,af.of hS,p0,(by rw[y_,jM p0 (by omega)];rfl),_,a_,xa0 _ _ ⟨a_,a_,xa2 S _ o.p _ ⟨a_,a_,hS,kW p0 (by rw[g_];omega),?_⟩⟩⟩⟩⟩;dsimp only;rw[mX];have l3:(gm hs o.p (-o.m)).length=b.length:=(kY ..).trans ln;refine⟨_,a_,xa3 p _ dx _ _ ⟨a_,(by rw[jd pa.1];exact hb),T.yg,T.uv,(iK S N D).1,_,a_,xa2 S ((gm hs o.p (-o.m)).map V.int) o.g (.int (gI (gm hs o.p (-o.m)) o.g)) ⟨a_,a_,af.of ja,g0,(by rw[y_,jM g0 (by omega)];rfl),_,a_,xa0 _ _ ⟨a_,a_,xa2 S ((gm hs o.p (-o.m)).map V.int) o.g _ ⟨a_,a_,ja,kW g0 (by rw[g_];omega),?_⟩⟩⟩⟩⟩;dsimp only;rw[mX,tf];show zO _ _ _ _ (upd H S (.lst ((il hs o).map V.int)));refine⟨_,a_,xa3 p _ dx _ _ ⟨a_,(by rw[jd pa.1];exact hb),T.yg,T.qf,(iK S N D).2.1,_,a_,xa2 N _ o.p (.int ((aH o.p L).length:f?)) ⟨a_,a_,af.of (by rw[jd sn.symm];exact hN),p0,(by rw[y_,mE p0 (by omega)];rfl),xa0 _ _ ⟨a_,a_,xa2 N _ o.p _ ⟨a_,a_,(by rw[jd sn.symm];exact hN),kW p0 (by rw[g_,qZ];omega),?_⟩⟩⟩⟩⟩;dsimp only;have ec:((cnt b.length L).map V.int).set o.p.toNat (.int (((aH o.p L).length:f?)+1))=(cnt b.length (L++[o])).map V.int:=by rw[mX,<-j5p p0];unfold gm gI;rw[mE p0 (by omega)];rfl
 rw[ec];refine⟨_,a_,xa3 p _ dx _ _ ⟨a_,(by rw[jd pa.2.1,jd pa.1];exact hb),T.yg,T.Jf,(iK S N D).2.2,.inl ⟨a_,ds,af.of (by rw[jd nd.symm,jd sd.symm];exact hD)⟩,_,a_,xa1 D ds (.ref q) ⟨a_,a_,(by rw[jd nd.symm,jd sd.symm];exact hD),zm (by rw[q? pd];exact ld),?_⟩⟩⟩;have kp:∀c u,H c=some u->c≠S->c≠N->c≠D->upd (upd (upd H S (.lst ((il hs o).map V.int))) N (.lst ((cnt b.length (L++[o])).map V.int))) D (.lst (ds++[.ref q])) c=some u:=λc u e c1 c2 c3=>by rw[jd c3,jd c2,jd c1];exact e
 refine k _ ⟨kp _ _ hb pa.1 pa.2.1 pa.2.2,?_,by rw[jd nd,ja],⟨_,ja,qk (Paired.gy pd λv u h=>?_) ⟨q,a_,kp _ _ hq qa.1 qa.2.1 qa.2.2⟩⟩,R.ne⟩ kp
 .rw[jd sd,jd sn,ja,RU,eh]
 .obtain⟨a,e,ha⟩:=h;have:=ab ha λ_ z=>by cases z
  exact⟨a,e,kp _ _ ha this.1 this.2.1 this.2.2⟩
theorem RX (T:Txt K mg t):zv P w K mg base CX0 1 t.yn t.Bk ["self","sums"] (λvs H Q _=>∃x dx y,∃ss:b? f?,vs=[.ref x,.ref y]/\H x=some (.ins t.fU dx [])/\H y=some (.lst (ss.map V.int))/\ss.length<=1000/\∀S N D H',H S=none->H N=none->H D=none->gA t H' x dx S N D ss []->(∀b o,H b=some o->b≠x->H' b=some o)->Q .aj H'):=by
 refine T.OX.bF Ov λ_ A _ s H vs Q E hr h=>?_;obtain⟨x,dx,y,ss,rfl,hx,hy,hl,k⟩:=h;refine⟨_,(@jb _ _ _ _ _ (g6 (pv 0) (gr ya a_ T.iF boot_list (jc (pv 1) jf)) a_) (@jb _ _ _ _ _ (g6 (pv 0) (xx Mw (@xf _ _ _ _ (jc jn jf)) (jo jw a_ T.cC boot_len (jc (pv 1) jf))) a_) (@je _ _ _ (g6 (pv 0) (@xf _ _ _ _ jf) a_)))),?_⟩;refine⟨_,a_,xa0 y _ ⟨a_,.inl (af.of hy),λS hS=>⟨_,a_,xa2 x _ dx _ ⟨a_,jh hS _ _ hx,T.yg,T.uv,(by show 0<1000;decide),?_⟩⟩⟩⟩;have xS:x≠S:=jg hx hS;have xy:y≠x:=cT hy hx (by intro z;cases z);have yS:y≠S:=jg hy hS;refine⟨oh,λ Zq hZ=>?_⟩;obtain⟨Zx,hZ1⟩:=xn hZ;obtain⟨ZS,RY⟩:=xn hZ1;have yZ:y≠Zq:=jg hy RY;refine⟨_,a_,xa0 y (ss.map V.int) ⟨a_,.inl (af.of (by rw[jd yZ,jd xy,jd yS];exact hy)),?_⟩⟩;refine(xa1 Zq _ [.int 0] ⟨a_,a_,ja,(by omega),(by rw[g_];have:=lR;omega),iG (by rw[g_,R_];show 1*_<=1000;omega),λN hN=>?_⟩);obtain⟨NZ,hN1⟩:=xn hN;obtain⟨Nx,hN2⟩:=xn hN1;obtain⟨NS,RZ⟩:=xn hN2;refine⟨_,a_,xa2 x _ dx _ ⟨a_,(by rw[jd (M_ Nx),jd (M_ Zx),ja]),T.yg,T.qf,(by show 1<1000;decide),?_⟩⟩;refine⟨dC,λD hD=>?_⟩;obtain⟨Dx,hD1⟩:=xn hD;obtain⟨DN,JP⟩:=xn hD1;obtain⟨DZ,hD3⟩:=xn JP;obtain⟨_,hD4⟩:=xn hD3;obtain⟨DS,R0⟩:=xn hD4;refine⟨_,a_,xa2 x _ dx _ ⟨a_,(by rw[jd (M_ Dx),ja]),T.yg,T.Jf,(by show 2<1000;decide),?_⟩⟩;refine k S N D _ hS RZ R0 ⟨ja,?_,?_,⟨[],?_,.nil⟩,M_ NS,M_ DS,M_ DN⟩ λb o e bx=>?_
 .rw[jd xS.symm,jd (M_ DS),jd xS.symm,jd (M_ NS),jd (M_ ZS),jd xS.symm,ja];rfl
 .rw[jd Nx,jd (M_ DN),jd Nx,ja,g_,R_,cnt_nil]
 .rw[jd Dx,ja]
 .rw[jd bx,jd (jg e R0),jd bx,jd (jg e RZ),jd (jg e RY),jd bx,jd (jg e hS)];exact e
structure mF (os:b? O)(ss:b? f?):Prop where
 l2:2<=ss.length
 l8:ss.length<=8
 nr:∀z∈ss,0<=z/\z<=1000
 few:os.length<=50
 ord:∀o∈os,zc ss.length o=true
 nd:os.Nodup
 un:∀o∈os,∀u∈os,o.p=u.p->o.n=u.n->o=u
theorem j5c {q:i_}{o:O}(h:zc q o=true)(l:q<=8):zc 8 o=true:=by rw[qc]at h⊢;lia
theorem mF.sub {os L:b? O}{ss:b? f?}(a:mF os ss)(h:∀o∈L,o∈os)(nd:L.Nodup):mF L ss:=⟨a.l2,a.l8,a.nr,P_ (zl nd h) a.few,λo ho=>a.ord o (h o ho),nd,λo ho u hu=>a.un o (h o ho) u (h u hu)⟩
theorem R5 (T:Txt K mg t):zv P w K mg base CX0 4 t.Hg t.Hh ["things","purses"] (λvs H Q _=>∃a xs os,∃q:f?,vs=[.ref a,.int q]/\H a=some (.lst xs)/\eF H xs os/\(∀o∈os,zc q o=true)/\os.length<=50/\∀H',x8 H H'->Q (.bl true) H'):=by
 refine T.II.aW (N:=["things","purses"]) λ_ A _ s H vs Q E hr h=>?_;obtain⟨a,xs,os,q,rfl,ha,ho,io,l,k⟩:=h;refine⟨_,(@je _ _ _ (jv (lK (jo uN a_ T.j5 boot_isinstance (@y6 _ _ _ _ _ (pv 0) (mR (v:=.ty "list") a_ T.iF boot_list a_) a_ a_)) (mS (jo (MY a_) a_ T.P9 boot_all (jc (kJ (N':=["thing","purses"]) (ix:=[none,some 1]) (xr (by kernel_rfl)) a_ (@pz _ _ _ _ (pv 0)) (λ_ _ _ _=>(jr (i:=0) ZV a_ (o_ a_) (.inr a_))) (λ_ _ _ _=>lY) (λ_ _ _ _=>(xb (Bw T) hr.dn a_ T.Bp T.xA.kp T.Iz jl (jc (pv 0) jf) (xc (pv 1) uu)))) jf)))))),?_⟩;have hl:xs.length=os.length:=q? ho;refine⟨_,a_,xa2 _ _ _ true ⟨a_,.lst ha,a_,_,a_,bA ?_⟩⟩;refine⟨_,a_,a,a_,⟨xs,af.of ha⟩,pF (K:=K) (a:=a) (xs:=xs) (λi ys U' H'=>∃v,U'=[v,some (.int q)]/\H'=H/\ys=(B_ i true).map V.bl) ⟨none,a_,a_,a_⟩ ?_ ?_ ?_⟩
 .rintro i ys U' H' hi ⟨v,rfl,rfl,rfl⟩
  refine⟨af.of ha,iG ?_⟩;rw[g_,Ċ];omega
 .rintro i x ys U' H' hx ⟨v,rfl,rfl,rfl⟩
  obtain⟨o,eo,c,rfl,hc⟩:=qC ho hx;refine Jh ⟨_,a_,_,a_,xa1 c o q ⟨a_,hc,_,a_,a_,?_⟩⟩;rw[io o (u_ eo),ac0,K_];rfl
 .rintro ys U' H' ⟨v,rfl,rfl,rfl⟩ p hp
  refine(xa0 p _ ⟨a_,af.of ja,?_⟩);have:(B_ xs.length true).all id=true:=ñ.mpr λb hb=>(b?.mem_replicate.mp hb).2;rw[this];exact k _ (jh hp)
theorem j18 (T:Txt K mg t):zv P w K mg base CX0 5 t.Hi t.Hj ["orders","sums"] (λvs H Q _=>∃a y xs os,∃ss:b? f?,vs=[.ref a,.ref y]/\H a=some (.lst xs)/\eF H xs os/\H y=some (.lst (ss.map V.int))/\(∀o∈os,zc ss.length o=true)/\os.length<=50/\ss.length<=8/\∀r H',H r=none->x8 H H'->H' r=some (.lst ((bT ss os).map V.int))->Q (.ref r) H'):=by
 refine T.Pj.bF qA λ_ A _ s H vs Q E hr h=>?_;obtain⟨a,y,xs,os,ss,rfl,ha,ho,hy,io,l,l8,k⟩:=h;refine⟨_,(@jb _ _ _ _ _ (zf (xq (ze (xb (R5 T) hr.dn a_ T.Pg T.II.kp T.Ph jl (jc (pv 0) jf) (xc (jo jw a_ T.cC boot_len (jc (pv 1) jf)) uu)))) ql j9) (@jb _ _ _ _ _ (j7 (i:=2) qA.nd a_ (o_ a_) (gr ya a_ T.iF boot_list (jc (pv 1) jf))) (@jb _ _ _ _ _ (iR ú a_ (@pz _ _ _ _ (pv 0)) (jr (i:=3) qA.nd a_ (o_ a_)) (@jb _ _ _ _ _ (iP (pv 3) (kD a_ (ju (jr (i:=4) qA.nd a_ (o_ a_)) (ju (jr (i:=5) qA.nd a_ (o_ a_)) (ju (jr (i:=6) qA.nd a_ (o_ a_)) (ju (jr (i:=7) qA.nd a_ (o_ a_)) iO)))))) (@jb _ _ _ _ _ (mV (pv 2) (pv 4) nQ (pv 7) Dl set_list) (@je _ _ _ (mV (pv 2) (pv 6) nQ (pv 7) tF set_list))))) (@je _ _ _ (jv (pv 2)))))),?_⟩;have hl:xs.length=os.length:=q? ho;refine⟨_,a_,_,a_,xa0 y _ ⟨a_,.inl (af.of hy),xa2 a xs os _ ⟨a_,ha,ho,?_,l,λH1 s1=>⟨_,a_,w4 ?_⟩⟩⟩⟩
 .rw[g_];exact io
 refine⟨_,a_,xa0 y _ ⟨a_,.inl (af.of (s1 _ _ hy)),λr nr=>?_⟩⟩;have R7:H r=none:=s1.free nr;have s2:=s1.trans (jh (o:=.lst (ss.map V.int)) nr);have fE:upd H1 r (.lst (ss.map V.int)) r=some (.lst (ss.map V.int)):=ja;generalize upd H1 r (.lst (ss.map V.int))=H2 at s2 fE;refine⟨_,a_,a,a_,⟨_,af.of (s2 _ _ ha)⟩,oU (K:=K) (a:=a) (xs:=xs) (λi U H'=>∃v1 v2 v3 v4 v5,U=[some (.ref a),some (.ref y),some (.ref r),v1,v2,v3,v4,v5]/\x8 H H'/\H' r=some (.lst ((bT ss (os.take i)).map V.int))) (xa3 _ _ _ _ _ ⟨a_,s2,fE⟩) (λi U H' _ ⟨_,_,_,_,_,_,s',_⟩=>af.of (s' _ _ ha)) ?_ ?_⟩
 .rintro i x U H' hx ⟨v1,v2,v3,v4,v5,rfl,s',cw⟩
  obtain⟨o,eo,c,rfl,hc⟩:=qC ho hx;obtain⟨p0,p1,g0,g1,_⟩:=qc.mp (io o (u_ eo));have lh:=qS (os.take i) ss;rw[take_snoc eo,RU];generalize bT ss (os.take i)=hs at cw lh;have l3:(gm hs o.p (-o.m)).length=ss.length:=(kY ..).trans lh;refine⟨_,a_,xa0 c _ ⟨a_,az.of (s' _ _ hc),a_,xa0 _ _ ⟨a_,xa0 _ _ ⟨a_,xa0 _ _ ⟨a_,xa0 _ _ ⟨a_,a_,?_⟩⟩⟩⟩⟩⟩;refine⟨_,a_,_,a_,xa2 r _ o.p (.int (gI hs o.p)) ⟨a_,a_,af.of cw,p0,(by rw[y_,jM p0 (by omega)];rfl),_,a_,xa0 _ _ ⟨a_,a_,xa2 r _ o.p _ ⟨a_,a_,cw,kW p0 (by rw[g_];omega),?_⟩⟩⟩⟩;dsimp only;rw[mX];refine⟨_,a_,_,a_,xa2 r ((gm hs o.p (-o.m)).map V.int) o.g (.int (gI (gm hs o.p (-o.m)) o.g)) ⟨a_,a_,af.of ja,g0,(by rw[y_,jM g0 (by omega)];rfl),_,a_,xa0 _ _ ⟨a_,a_,xa2 r ((gm hs o.p (-o.m)).map V.int) o.g _ ⟨a_,a_,ja,kW g0 (by rw[g_];omega),?_⟩⟩⟩⟩;dsimp only;rw[mX,tf];exact(xa3 _ _ _ _ _ ⟨a_,λb u e=>by rw[jd (jg e R7)];exact s' _ _ e,ja⟩)
 .rintro U H' ⟨v1,v2,v3,v4,v5,rfl,s',cw⟩
  rw[hl,Z_]at cw;exact⟨_,a_,k r H' R7 s' cw⟩
noncomputable def lG (H:Hp)(kv:b? Key×V)(o:O):Prop:=kv.1=[.inl o.p,.inl o.n]/\sU H kv.2 o
theorem yL {H H':Hp}{kvs:b? (b? Key×V)}{os:b? O}(s:x8 H H')(h:h_ (lG H) kvs os):h_ (lG H') kvs os:=Paired.gy h λ_ _ ⟨e,q⟩=>⟨e,cD.same s q⟩
theorem Cj {H:Hp}(i n:f?):∀{kvs:b? (b? Key×V)}{os:b? O},h_ (lG H) kvs os->(aY kvs [.inl i,.inl n]=none/\∀o∈os,¬(o.p=i/\o.n=n))\/∃v o,aY kvs [.inl i,.inl n]=some v/\o∈os/\o.p=i/\o.n=n/\sU H v o
 |_,_,.nil=>.inl ⟨a_,λ_ z=>by cases z⟩
 | kv::kvs,o::os,.cons ⟨e,q⟩ r=>by
  by_cases z:o.p=i/\o.n=n
  .exact .inr (xa0 kv.2 o ⟨by rw[kH (show kv.1=_ by rw[e,z.1,z.2])],p?,z.1,z.2,q⟩)
  .rw[kI (λy=>z (by rw[e]at y;simpa using y))];rcases Cj i n r with⟨h1,h2⟩|⟨v,u,h1,h2,h3⟩
   .exact .inl ⟨h1,λu hu=>(D?.mp hu).elim (λy=>y ▸ z) (h2 u)⟩
   .exact .inr (xa0 v u ⟨h1,q_ _ h2,h3⟩)
theorem Kr (T:Txt K mg t):zv P w K mg base CX0 5 t.Hk t.Hl ["orders"] (λvs H Q _=>∃a xs os ss,vs=[.ref a]/\H a=some (.lst xs)/\eF H xs os/\mF os ss/\∀D kvs H',H D=none->x8 H H'->H' D=some (.dT kvs)->h_ (lG H') kvs os->Q (.ref D) H'):=by
 refine T.Bu.aW (N:=["orders"]) λ_ A _ s H vs Q E hr h=>?_;obtain⟨a,xs,os,ss,rfl,ha,ho,G,k⟩:=h;have hl:xs.length=os.length:=q? ho;have fw:=G.few;refine⟨_,(@je _ _ _ (jv (Ez (.dT []) (.inr a_) (fM hr) (N':=["order"]) (ix:=[none]) (xr (by kernel_rfl)) a_ (@pz _ _ _ _ (pv 0)) (λ_ _ _ _=>(jr (i:=0) ZW a_ (o_ a_) (.inr a_))) (λ_ _ _ _=>lY) (λ_ _ _ _=>(jm (Bx T) hr.dn a_ T.Br T.xB.kp T.Bs .nil jl (jc (pv 0) jf))) (λ_ _ _ _=>(pv 0))))),?_⟩;refine⟨_,a_,a,a_,⟨xs,af.of ha⟩,λD hD=>?_⟩;refine Xk (K:=K) (a:=a) (xs:=xs) (λi U' H'=>∃v kvs,U'=[v]/\x8 H H'/\H' D=some (.dT kvs)/\h_ (lG H') kvs (os.take i)) (xa0 none [] ⟨a_,jh hD,ja,.nil⟩) (λi U' H' _ ⟨_,_,_,s',_⟩=>af.of (s' _ _ ha)) ?_ ?_
 .rintro i x U' H' hx ⟨v,kvs,rfl,s',qN,pk⟩
  obtain⟨o,eo,c,rfl,hc⟩:=qC ho hx;have om:=u_ eo;refine Jh ⟨_,a_,xa0 c o ⟨a_,s' _ _ hc,j5c (G.ord o om) G.l8,λq hq=>?_⟩⟩;have xO:=jh (o:=.tup [.int o.p,.int o.n]) hq;have lk:=q? pk;rw[Ñ]at lk;refine⟨_,a_,_,ft.t (k:=[.inl o.p,.inl o.n]) (xO _ _ qN) ja (zm (by omega)),xa0 _ _ ⟨a_,λb u e=>?_,ja,?_⟩⟩
  .rw[jd (jg e hD)];exact xO _ _ (s' _ _ e)
  .have nv:aY kvs [.inl o.p,.inl o.n]=none:=by
    rcases Cj o.p o.n pk with⟨h,_⟩|⟨_,u,_,um,e1,e2,_⟩
    .exact h
    .have eu:u=o:=G.un u (aat um) o om e1 e2;subst eu;obtain⟨j,hj,ej⟩:=Ý.mp um;rw[Ñ]at hj;rw[adI]at ej;have:=(abt G.nd).mp (ej.trans (l?.mp eo).2.symm);omega
   rw[uE _ nv,take_snoc eo];have kp:∀{v:V}{u:O},sU H' v u->∀kk,sU (upd (upd H' q (.tup [.int o.p,.int o.n])) D (.dT kk)) v u:=λ⟨b,e,hb⟩ kk=>⟨b,e,by rw[jd (cT hb qN (by intro z;cases z))];exact xO _ _ hb⟩;exact qk (Paired.gy pk λ_ _ ⟨e,h⟩=>⟨e,kp h _⟩) ⟨a_,kp ⟨c,a_,s' _ _ hc⟩ _⟩
 .rintro U' H' ⟨v,kvs,rfl,s',qN,pk⟩
  rw[hl,Z_]at pk;exact k D kvs H' hD s' qN pk
noncomputable def sV (R:Ad->Hp->VK->b? O->b? f?->Prop)(t:Ad):Sp:=λvs H Q _=>∃a y xs os ss,vs=[.ref a,.ref y]/\H a=some (.lst xs)/\eF H xs os/\H y=some (.lst ((ss:b? f?).map V.int))/\mF os ss/\R t H Q os ss
theorem R8 (T:Txt K mg t):zv P w K mg base CX0 6 t.Hm t.Hn ["orders","sums"] (sV (λ_ H Q _ _=>∀H',x8 H H'->Q .aj H') t):=by
 refine T.IL.aW (N:=["orders","sums"]) λ_ A _ s H vs Q E hr h=>?_;obtain⟨a,y,xs,os,ss,rfl,ha,ho,hy,G,k⟩:=h;refine⟨_,(@jb _ _ _ _ _ (zf (xq (ze (jm (QP T) hr.dn a_ T.OS T.kn.kp T.OT .nil jl (jc (pv 1) jf)))) ql j9) (@jb _ _ _ _ _ (zf (xq (ze (xb (R5 T) hr.dn a_ T.Pg T.II.kp T.Ph jl (jc (pv 0) jf) (xc (jo jw a_ T.cC boot_len (jc (pv 1) jf)) uu)))) ql j9) (@je _ _ _ (zf (jz rG (jo Xy a_ T.cC boot_len (jc (jm (Kr T) hr.dn a_ T.IJ T.Bu.kp T.IK .nil jl (jc (pv 0) jf)) jf)) (jo jw a_ T.cC boot_len (jc (pv 0) jf)) (qe _)) ql j9)))),?_⟩;refine⟨_,a_,xa0 y ss ⟨a_,hy,G.l2,G.l8,G.nr,λH1 s1=>⟨_,a_,w4 ?_⟩⟩⟩;refine⟨_,a_,_,a_,xa0 y _ ⟨a_,.inl (af.of (s1 _ _ hy)),xa2 a xs os _ ⟨a_,s1 _ _ ha,zh s1 ho,(by rw[g_];exact G.ord),G.few,λH2 s2=>⟨_,a_,w4 ?_⟩⟩⟩⟩;have bQ:=s1.trans s2;refine⟨_,a_,xa2 a xs os ss ⟨a_,bQ _ _ ha,zh bQ ho,G,λD kvs H3 nD s3 hD pk=>(xa0 D _ ⟨a_,hD,_,a_,xa0 a xs ⟨a_,.inl (af.of (s3 _ _ (bQ _ _ ha))),xa0 _ _ ⟨a_,a_,_,a_,?_⟩⟩⟩)⟩⟩;rw[z? (by rw[q? pk,q? ho];omega)];exact w4 (k _ (bQ.trans s3))
theorem R9 {U:St}{H:Hp}{F G:Hp->Prop}(h:F H):pC U H (λb H3=>if b=true then F H3 else G H3):=bA (A:=F H) (Bq:=G H) h
noncomputable def Ks (os L:b? O)(H:Hp)(v:V)(j:i_):Prop:=(v= .aj/\∀o∈os,¬(o.p=(j:f?)/\o.n=((aH (j:f?) L).length:f?)))\/∃o,o∈os/\o.p=(j:f?)/\o.n=((aH (j:f?) L).length:f?)/\sU H v o
theorem Sa {os L:b? O}{H H':Hp}{vs:b? V}{js:b? i_}(s:x8 H H')(h:h_ (Ks os L H) vs js):h_ (Ks os L H') vs js:=Paired.gy h λ_ _ h=>h.imp id λ⟨o,a,b,c,d⟩=>⟨o,a,b,c,cD.same s d⟩
structure Kt (os:b? O)(b:b? f?)(L:b? O)(i:i_)(du:b? O):Prop where
 m:∀o,o∈du↔o∈os/\gM b L o=true/\o.p<(i:f?)
 c:du.Pairwise λx y=>x.p<y.p
theorem Sb (T:Txt K mg t):zv P w K mg base CX0 2 t.Ho t.Hq ["places","book"] (λvs H Q _=>∃C p dx S N D kvs os b L,vs=[.ref C,.ref p]/\H C=some (.dT kvs)/\h_ (lG H) kvs os/\mF os b/\gA t H p dx S N D b L/\∀r ys du H',H r=none->x8 H H'->H' r=some (.lst ys)->eF H' ys du->Kt os b L b.length du->Q (.ref r) H'):=by
 refine T.IM.bF OA λ_ A _ s H vs Q E hr h=>?_;obtain⟨C,p,dx,S,N,D,kvs,os,b,L,rfl,hC,pk,G,R,k⟩:=h;have l8:=G.l8;have io:=G.ord;refine⟨_,(@jb _ _ _ _ _ (MW (i:=2) OA.nd a_ a_ (N':=["purse","number","places"]) (ix:=[none,none,some 0]) (xr (by kernel_rfl)) a_ (Xs a_ T.jsk (jc (j3 (pv 1) a_) jf)) (λ_ _ _ _=>(Nv (K:=K) (t:=(tE (dI 0) (tE (dI 1) Dj))) a_ a_ 2 (ju (jr (i:=0) OF a_ (o_ a_) (.inr a_)) (ju (jr (i:=1) OF a_ (o_ a_) (.inr a_)) iO)) a_ a_)) (λ_ _ _ _=>lY) (λ_ _ _ _=>(MI (fM hr) (pv 2) (@iU _ _ _ _ _ (@y6 _ _ _ _ _ (pv 0) (pv 1) a_ a_)) ⟨a_,a_,a_,a_⟩))) (@je _ _ _ (jv (kJ (N':=["order","book"]) (ix:=[none,some 1]) (xr (by kernel_rfl)) a_ (@pz _ _ _ _ (pv 2)) (λ_ _ _ _=>(jr (i:=0) ZX a_ (o_ a_) (.inr a_))) (λ_ _ _ _=>(rO (PW.pt (kB (jz LX (pv 0) gR (qe _)) (lJ (ze (j8 (pv 1) T.yg T.O4 (RV T) hr.dn T.Bt .nil jl (jc (pv 0) jf)))))))) (λ_ _ _ _=>(pv 0)))))),?_⟩;have isd:∀{H':Hp},x8 H H'->uI H' C:=λs'=>.inr ⟨_,.inl (s' _ _ hC)⟩;refine⟨_,a_,xa3 p _ dx _ _ ⟨a_,R.ob,T.yg,T.qf,(iK S N D).2.1,N,a_,⟨_,af.of R.nn⟩,?_⟩⟩;refine Xt (K:=K) (a:=N) (xs:=(cnt b.length L).map V.int) (λi ys U' H'=>∃v0 v1,U'=[v0,v1,some (.ref C)]/\x8 H H'/\h_ (Ks os L H') ys (V_ i)) (xa0 none none ⟨a_,x8.refl _,.nil⟩) ?_ ?_ ?_
 .rintro i ys U' H' hi ⟨v0,v1,rfl,s',hp⟩
  refine⟨af.of (s' _ _ R.nn),iG ?_⟩;have:=q? hp;rw[ß]at this;rw[g_,qZ]at hi;omega
 .rintro i x ys U' H' c hx ⟨v0,v1,rfl,s',hp⟩ hc
  have hi:i<b.length:=by have:=(l?.mp hx).1;rwa[g_,qZ]at this
  have ex:x= .int ((aH (i:f?) L).length:f?):=by have:=mE (n:=b.length) (L:=L) (p:=(i:f?)) (by omega) (by omega);rw[R_]at this;rw[y_,this]at hx;exact(s_ hx).symm
  subst ex;have s1:=s'.trans (jh (o:=.tup [.int (i:f?),.int ((aH (i:f?) L).length:f?)]) hc);refine(xa0 c _ ⟨a_,az.of ja,a_,xa0 _ _ ⟨a_,xa0 _ _ ⟨a_,a_,R9 ?_⟩⟩⟩);refine⟨_,a_,C,a_,isd s1,_,a_,_,a_,oj,λq hq=>?_⟩;have s2:=s1.trans (jh (o:=.tup [.int (i:f?),.int ((aH (i:f?) L).length:f?)]) hq);refine⟨_,gF.t (k:=[S_ (i:f?),S_ ((aH (i:f?) L).length:f?)]) (s2 _ _ hC) ja,xa0 _ _ ⟨a_,s2,?_⟩⟩;rw[abF];refine qk (Sa ((jh hc).trans (jh hq)) hp) ?_;rcases Cj (i:f?) ((aH (i:f?) L).length:f?) (yL s2 pk)with⟨h1,h2⟩|⟨v,o,h1,h2,h3,h4,h5⟩
  .rw[h1];exact .inl ⟨a_,h2⟩
  .rw[h1];exact .inr ⟨o,h2,h3,h4,h5⟩
 .rintro rh U' H1 ⟨v0,v1,rfl,s1,AG⟩ r0 ig
  rw[g_,qZ]at AG;have s2:=s1.trans (jh (o:=.lst rh) ig);have uG:=Sa (jh (o:=.lst rh) ig) AG;have sA:upd H1 r0 (.lst rh) r0=some (.lst rh):=ja;have R2:=R.same s2;generalize upd H1 r0 (.lst rh)=H2 at s2 uG sA R2;have l0:rh.length=b.length:=by rw[q? uG,ß]
  refine⟨_,a_,r0,a_,⟨_,af.of sA⟩,pF (K:=K) (a:=r0) (xs:=rh) (λi ys U' H'=>∃v du,U'=[v,some (.ref p)]/\H'=H2/\ys.length<=i/\eF H2 ys du/\Kt os b L i du) (xa0 none [] ⟨a_,a_,r_ _,.nil,λo=>⟨(λz=>by cases z),λz=>w_ z.2.2 (by have:=(qc.mp (io o z.1)).1;omega)⟩,.nil⟩) ?_ ?_ ?_⟩
  .rintro i ys U' H' hi ⟨v,du,rfl,rfl,hle,_⟩
   exact⟨af.of sA,iG (by omega)⟩
  .rintro i x ys U' H' hx ⟨v,du,rfl,rfl,hle,hy,hd⟩
   obtain⟨j,ej,hj⟩:=qo uG hx;have hi:=(l?.mp hx).1;rw[aaH (by omega)]at ej;cases ej;rcases hj with⟨rfl,no⟩|⟨o,om,ep,en,a,rfl,ha⟩
   .refine⟨_,a_,a_,_,a_,w4 (w4 ⟨_,du,a_,a_,by omega,hy,λu=>⟨λz=>?_,λz=>?_⟩,hd.c⟩)⟩
    .have:=(hd.m u).mp z;exact⟨this.1,this.2.1,by omega⟩
    .refine(hd.m u).mpr ⟨z.1,z.2.1,?_⟩;have q:=z.2.1;unfold gM at q;rw[L_,O_]at q;have:u.p≠(i:f?):=λe=>no u z.1 ⟨e,by rw[<-e];exact q.1⟩;omega
   .refine⟨_,a_,a_,_,a_,bA ?_⟩;refine⟨_,a_,xa1 p dx _ ⟨a_,R2.ob,yK S N D (by decide+kernel),_,a_,xa4 p dx S N D b L a o ⟨a_,R2,ha,io o om,_,a_,?_⟩⟩⟩;have one:∀u∈os,gM b L u=true->u.p=(i:f?)->u=o:=λu um ud e=>by
     unfold gM at ud;rw[L_,O_,e]at ud;exact G.un u um o om (e.trans ep.symm) (ud.1.trans en.symm)
    cases Sd:gM b L o with
    | false=>
     refine w4 (xa0 _ du ⟨a_,a_,by omega,hy,λu=>⟨λz=>?_,λz=>?_⟩,hd.c⟩)
     .have:=(hd.m u).mp z;exact⟨this.1,this.2.1,by omega⟩
     .refine(hd.m u).mpr ⟨z.1,z.2.1,?_⟩;have:u.p≠(i:f?):=λe=>by
       have y:=z.2.1;rw[one u z.1 y e,Sd]at y;cases y
      omega
    | true=>
     refine bA ⟨_,a_,xa0 _ (du++[o]) ⟨a_,a_,by rw[p_];show ys.length+1<=i+1;omega,qk hy ⟨a,a_,ha⟩,λu=>⟨λz=>?_,λz=>?_⟩,?_⟩⟩
     .rcases v_.mp z with z|z
      .have:=(hd.m u).mp z;exact⟨this.1,this.2.1,by omega⟩
      .rw[j'.mp z];exact⟨om,Sd,by omega⟩
     .by_cases e:u.p=(i:f?)
      .exact z_ _ (j'.mpr (one u z.1 z.2.1 e))
      .exact I_ _ ((hd.m u).mpr ⟨z.1,z.2.1,by omega⟩)
     .refine Ľ.mpr ⟨hd.c,ĕ _ _,λx hx y hy=>?_⟩;have:=((hd.m x).mp hx).2.2;rw[j'.mp hy];omega
  .rintro ys U' H' ⟨v,du,rfl,rfl,hle,hy,hd⟩ r cw
   rw[l0]at hd;exact k r ys du _ (s2.free cw) (s2.trans (jh cw)) ja (zh (jh cw) hy) hd
theorem yM {H:Hp}:∀{vs:b? V}{os:b? O},eF H vs os->h_ (cD H) vs (os.map yh)
 |_,_,.nil=>.nil
 |_,_,.cons a r=>.cons a (yM r)
structure yN (os:b? O)(b:b? f?)(L:b? O):Prop where
 h:dy b.length b L
 s:∀o∈L,o∈os
 e:∀o∈os,gM b L o=false
theorem j4p {b:b? f?}{L:b? O}{o:O}(h:dy b.length b L)(io:zc b.length o=true)(d:gM b L o=true):dy b.length b (L++[o]):=by unfold gM at d;rw[L_,O_,O_]at d;exact .snoc h io d.1 d.2
theorem Ku (T:Txt K mg t):zv P w K mg base CX0 7 t.Hr t.Hs ["orders","sums"] (sV (λt H Q os ss=>∀p dx S N D L H',H p=none->H D=none->x8 H H'->gA t H' p dx S N D ss L->yN os ss L->Q (.ref p) H') t):=by
 refine T.Bv.bF wY λ_ A _ s H vs Q E hr h=>?_;obtain⟨a,y,xs,os,ss,rfl,ha,ho,hy,G,k⟩:=h;refine⟨_,(@jb _ _ _ _ _ (qb (xb (R8 T) hr.dn a_ T.Pk T.IL.kp T.Pl jl (jc (pv 0) jf) (xc (pv 1) uu))) (@jb _ _ _ _ _ (j7 (i:=2) wY.nd a_ (o_ a_) (jm (Kr T) hr.dn a_ T.IJ T.Bu.kp T.IK .nil jl (jc (pv 0) jf))) (@jb _ _ _ _ _ (j7 (i:=3) wY.nd a_ (o_ a_) (Aa T.OY (RX T) hr.dn a_ T.Je T.IB .nil jl (jc (pv 1) jf))) (@jb _ _ _ _ _ (j7 (i:=4) wY.nd a_ (o_ a_) (jm (Sb T) hr.dn a_ T.Pm T.IM.kp T.Pn .nil jl (@y6 _ _ _ _ _ (pv 2) (pv 3) a_ a_))) (@jb _ _ _ _ _ (LH ú (L0 (pv 4) (λ_=>a_)) (@jb _ _ _ _ _ (qb (j8 (pv 3) T.yg T.O8 (RW T) hr.dn T.IC .nil jl (jc (jo (XS a_ (XR hr.units)) a_ T.qae boot_min (jc (pv 4) jf)) jf))) (@je _ _ _ (j7 (i:=4) wY.nd a_ (o_ a_) (jm (Sb T) hr.dn a_ T.Pm T.IM.kp T.Pn .nil jl (@y6 _ _ _ _ _ (pv 2) (pv 3) a_ a_)))))) (@je _ _ _ (jv (pv 3)))))))),?_⟩;have fw:=G.few;have l8:=G.l8;refine⟨_,a_,_,a_,xa3 a y xs os ss ⟨a_,ha,ho,hy,G,λH1 s1=>?_⟩⟩;refine⟨_,a_,xa2 a xs os ss ⟨a_,s1 _ _ ha,zh s1 ho,G,λC kvs H2 nC s2 hC pk=>?_⟩⟩;have bQ:=s1.trans s2;refine⟨_,a_,λp dx np oE nex=>?_⟩;have s3:x8 H2 (upd (upd H2 dx (.own p)) p (.ins t.fU dx [])):=λb o e=>by
  rw[jd (jg e np),jd (jg e oE)];exact e
 refine(xa2 p dx y ss ⟨a_,ja,s3 _ _ (bQ _ _ hy),by omega,λS N D H4 nS nN nD R keep=>⟨a_,?_⟩⟩);have s4:x8 H2 H4:=λb o e=>keep b o (s3 _ _ e) (jg e np);have rj:=bQ.trans s4;have jO:H p=none:=bQ.free np;have xX:H S=none:=bQ.free (s3.free nS);have Kv:H N=none:=bQ.free (s3.free nN);have Ck:H D=none:=bQ.free (s3.free nD);have Se:=s4 _ _ hC;have BF:=yL s4 pk;refine⟨_,a_,_,a_,xb1 C p dx S N D kvs os ss [] ⟨a_,Se,BF,G,R,λr ys du H5 nr s5 hr5 hys hd=>?_⟩⟩;refine⟨λm U H'=>∃r ys du L,U=[some (.ref a),some (.ref y),some (.ref C),some (.ref p),some (.ref r)]/\x8 H H'/\gA t H' p dx S N D ss L/\H' C=some (.dT kvs)/\h_ (lG H') kvs os/\H' r=some (.lst ys)/\eF H' ys du/\Kt os ss L ss.length du/\dy ss.length ss L/\(∀o∈L,o∈os)/\m+L.length=os.length,(xa3 os.length r ys du [] ⟨a_,rj.trans s5,R.same s5,s5 _ _ Se,yL s5 BF,hr5,hys,hd,.nil,(λ_ z=>by cases z),a_⟩),?_⟩
 rintro m U H' ⟨r,ys,du,L,rfl,s',R',sW,pk',cw,Kw,bu,hi,sub,em⟩
 refine⟨_,a_,!ys.isEmpty,.inl ⟨_,af.of cw,a_⟩,?_⟩;cases Kw with
 |nil=>
  refine w4 ⟨_,a_,k p dx S N D L H' jO Ck s' R' ⟨hi,sub,λo om=>?_⟩⟩;cases z:gM ss L o with
  |false=>rfl
  |true=>cases(bu.m o).mpr ⟨om,z,by have:=(qc.mp (G.ord o om)).2.1;omega⟩
 |@cons z o zs rest hz cJ=>
  obtain⟨c,rfl,hc⟩:=id hz;obtain⟨om,od,_⟩:=(bu.m o).mp p?;have Sf:=j4p hi (G.ord o om) od;have iq:∀u∈L++[o],u∈os:=λu hu=>(v_.mp hu).elim (sub u) λz=>by rw[j'.mp z];exact om
  have lL:=zl Sf.nd iq;rw[p_]at lL;have lL':L.length+1<=os.length:=lL;have pY:((o::rest).map yh).Pairwise (λa b=>HT.lexLt b a=false):=aaX.mpr (bu.c.imp λ{a b} cV=>Av (by unfold yh;rw[HT.oX,j? (by omega)];exact i? cV));refine bA ⟨_,λ U' qF w=>⟨m-1,by omega,w⟩,?_⟩;refine⟨_,a_,xa1 p dx _ ⟨a_,R'.ob,yK S N D (by decide+kernel),_,a_,xa2 r _ (.ref c) _ ⟨a_,af.of cw,cD.at_ (yM (.cons hz cJ)),pY,xa4 p dx S N D ss L c o ⟨a_,R',hc,G.ord o om,by omega,λH6 R6 gN=>?_⟩⟩⟩⟩;have s6:x8 H H6:=λb u e=>gN b u (s' _ _ e) (jg e xX) (jg e Kv) (jg e Ck);obtain⟨ds,yO,_⟩:=R'.dn;have k6:∀{c u},H' c=some u->(∀xs,u≠.lst xs)->H6 c=some u:=λe n=>gN _ _ e (cT e R'.he (n _)) (cT e R'.nn (n _)) (cT e yO (n _));have Sg:=k6 sW λ_ z=>by cases z
  have Sh:h_ (lG H6) kvs os:=Paired.gy pk' λ_ _ ⟨e,q,e2,hq⟩=>⟨e,q,e2,k6 hq λ_ z=>by cases z⟩;refine⟨_,a_,_,a_,xb1 C p dx S N D kvs os ss (L++[o]) ⟨a_,Sg,Sh,G,R6,λr' br yD H7 yI s7 Cm Kx hd7=>?_⟩⟩;exact(xa2 r' br yD (L++[o]) ⟨a_,s6.trans s7,R6.same s7,s7 _ _ Sg,yL s7 Sh,Cm,Kx,hd7,Sf,iq,by rw[p_];show m-1+(L.length+1)=_;omega⟩)
noncomputable def iS (t:b? f?):O:=⟨t.getD 0 0,t.getD 1 0,t.getD 2 0,t.getD 3 0⟩
theorem Cn:∀{ts:b? (b? f?)},(∀t∈ts,∃o,t=yh o)->(ts.map iS).map yh=ts
 |[],_=>a_
 |t::ts,h=>by obtain⟨o,rfl⟩:=h t p?;rw[A_,A_,Cn λt ht=>h t (q_ _ ht)];rfl
theorem Ky:∀os:b? O,(os.map yh).map iS=os
 |[]=>a_
 |o::os=>by rw[A_,A_,Ky os];rfl
theorem Co {H:Hp}:∀{vs:b? V}{os:b? O},h_ (cD H) vs (os.map yh)->eF H vs os
 |_,[],.nil=>.nil
 |_,_::_,.cons a r=>.cons a (Co r)
noncomputable def iL (L:b? O)(o:O):o?:=!s? (o.n<((aH o.p L).length:f?))
theorem Si (T:Txt K mg t):zv P w K mg base CX0 2 t.Ht t.Hu ["book","orders"] (λvs H Q _=>∃p dx S N D b L a xs os,vs=[.ref p,.ref a]/\gA t H p dx S N D b L/\H a=some (.lst xs)/\eF H xs os/\mF os b/\∀r ys Lf H',H r=none->x8 H H'->H' r=some (.lst ys)->eF H' ys Lf->Lf.Perm (os.filter (iL L))->(Lf.map yh).Pairwise (λa b=>HT.lexLt a b=true)->Q (.ref r) H'):=by
 refine T.IT.aW (N:=["book","orders"]) λ_ A _ s H vs Q E hr h=>?_;obtain⟨p,dx,S,N,D,b,L,a,xs,os,rfl,R,ha,ho,G,k⟩:=h;have hl:xs.length=os.length:=q? ho;have fw:=G.few;refine⟨_,(@je _ _ _ (jv (jo vB a_ T.qB boot_sorted (jc (kJ (N':=["order","book"]) (ix:=[none,some 0]) (xr (by kernel_rfl)) a_ (@pz _ _ _ _ (pv 1)) (λ_ _ _ _=>(jr (i:=0) ZY a_ (o_ a_) (.inr a_))) (λ_ _ _ _=>(rO (xq (ze (j8 (pv 1) T.yg T.jis (jqe T) hr.dn T.gw .nil jl (jc (pv 0) jf)))))) (λ_ _ _ _=>(pv 0))) jf)))),?_⟩;refine⟨_,a_,a,a_,⟨_,af.of ha⟩,pF (K:=K) (a:=a) (xs:=xs) (λi ys U' H'=>∃v,U'=[v,some (.ref p)]/\H'=H/\eF H ys ((os.take i).filter (iL L))) ⟨none,a_,a_,.nil⟩ ?_ ?_ ?_⟩
 .rintro i ys U' H' hi ⟨v,rfl,rfl,hy⟩
  refine⟨af.of ha,iG ?_⟩;have h1:=q? hy;have h2:=ê (iL L) (os.take i);rw[Ñ]at h2;omega
 .rintro i x ys U' H' hx ⟨v,rfl,rfl,hy⟩
  obtain⟨o,eo,c,rfl,hc⟩:=qC ho hx;have io:=G.ord o (u_ eo);refine⟨_,a_,xa1 p dx _ ⟨a_,R.ob,yK S N D (by decide+kernel),_,a_,xa4 p dx S N D b L c o ⟨a_,R,hc,io,_,a_,?_⟩⟩⟩;rw[take_snoc eo,ı];cases hd:s? (o.n<((aH o.p L).length:f?))with
  |true=>refine w4 ⟨_,a_,a_,?_⟩;rw[É (by unfold iL;rw[hd];decide),aeq,â];exact hy
  |false=>refine bA ⟨_,a_,_,a_,a_,?_⟩;rw[V' (by unfold iL;rw[hd];rfl),aeq];exact qk hy ⟨c,a_,hc⟩
 .rintro ys U' H' ⟨v,rfl,rfl,hy⟩ r0 ig
  rw[hl,Z_]at hy;have sL:=jh (o:=.lst ys) ig;have Aq:=yM (zh sL hy);have h1:=q? hy;have h2:=ê (iL L) os;refine(xa1 r0 ys _ ⟨a_,af.of ja,cD.at_ Aq,by omega,à _ (λa b cV z=>cV (qH z)) (G.nd.filter _),(λt ht z=>by
   obtain⟨o,_,rfl⟩:=H?.mp ht;cases z),λr aZ bo ix cw Kz ev et p1 p2 _ up=>?_⟩);have py:=BA Aq (ix:=ix) λi hi=>Z?.mp (Kz.mem_iff.mp hi);rw[<-ev,<-et]at py;have eu:=Cn (ts:=bo) λt ht=>by
   obtain⟨o,_,rfl⟩:=H?.mp (p2.mem_iff.mp ht);exact⟨o,a_⟩
  rw[<-eu]at py up;have pm:=p2.map iS;rw[Ky]at pm;exact k r _ _ _ (sL.free cw) (sL.trans (jh cw)) ja (zh (jh cw) (Co py)) pm up
theorem j09 (T:Txt K mg t):zv P w K mg base CX0 8 t.Hv t.Hw ["orders","sums"] (sV (λ_ H Q os ss=>∀D ds L H',H D=none->x8 H H'->H' D=some (.lst ds)->eF H' ds L->yN os ss L->Q (.ref D) H') t):=by refine T.Pq.aW (N:=["orders","sums"]) λ_ A _ s H vs Q E hr h=>?_;obtain⟨a,y,xs,os,ss,rfl,ha,ho,hy,G,k⟩:=h;refine⟨_,(@je _ _ _ (jv (j3 (xb (Ku T) hr.dn a_ T.IP T.Bv.kp T.IQ jl (jc (pv 0) jf) (xc (pv 1) uu)) a_))),?_⟩;refine⟨_,a_,_,a_,xa3 a y xs os ss ⟨a_,ha,ho,hy,G,λp dx S N D L H' np nD s' R bk=>?_⟩⟩;obtain⟨ds,hd,od⟩:=R.dn;exact(xa3 p _ dx _ _ ⟨a_,R.ob,T.yg,T.Jf,(iK S N D).2.2,k D ds L H' nD s' hd od bk⟩)
theorem Sj (T:Txt K mg t):zv P w K mg base CX0 8 t.Hx t.Hy ["orders","sums"] (sV (λ_ H Q os ss=>∀r ys Lf L H',H r=none->x8 H H'->H' r=some (.lst ys)->eF H' ys Lf->yN os ss L->Lf.Perm (os.filter (iL L))->(Lf.map yh).Pairwise (λa b=>HT.lexLt a b=true)->Q (.ref r) H') t):=by refine T.IU.aW (N:=["orders","sums"]) λ_ A _ s H vs Q E hr h=>?_;obtain⟨a,y,xs,os,ss,rfl,ha,ho,hy,G,k⟩:=h;refine⟨_,(@je _ _ _ (jv (jm (Si T) hr.dn a_ T.Po T.IT.kp T.Pp .nil jl (@y6 _ _ _ _ _ (xb (Ku T) hr.dn a_ T.IP T.Bv.kp T.IQ jl (jc (pv 0) jf) (xc (pv 1) uu)) (pv 0) a_ a_)))),?_⟩;refine⟨_,a_,_,a_,xa3 a y xs os ss ⟨a_,ha,ho,hy,G,λp dx S N D L H' np nD s' R bk=>?_⟩⟩;exact⟨_,a_,xb1 p dx S N D ss L a xs os ⟨a_,R,s' _ _ ha,zh s' ho,G,λr ys Lf H2 nr s2 fE KA q1 q2=>k r ys Lf L H2 (s'.free nr) (s'.trans s2) fE KA bk q1 q2⟩⟩
theorem dy.at_ {n:i_}{ns:b? f?}{os:b? O}(h:dy n ns os):∀{i:i_}{o:O},os[i]?=some o->gM ns (os.take i) o=true:=by
 induction h with
 |nil=>intro i o e;cases e
 | @snoc os u h io en em ih=>
  intro i o e;by_cases z:i<os.length
  .rw[Ś z]at e;rw[abg (aam z)];exact ih e
  .rw[ő (by lia)]at e;have z0:i-os.length=0:=by
    have:=(l?.mp e).1;rw[acM]at this;lia
   rw[z0]at e;cases e;have:i=os.length:=by lia
   subst this;rw[abg (r_ _),Z_];unfold gM;rw[i? en,i? em];rfl
theorem j2e (T:Txt K mg t):zv P w K mg base CX0 8 t.Hz t.HE ["orders","sums"] (sV (λ_ H Q os ss=>dy ss.length ss os/\∀H',x8 H H'->Q (.bl true) H') t):=by
 refine T.Pw.bF Fy λ_ A _ s H vs Q E hr h=>?_;obtain⟨a,y,xs,os,ss,rfl,ha,ho,hy,G,hi,k⟩:=h;have fw:=G.few;have l8:=G.l8;have lx:xs.length=os.length:=q? ho;refine⟨_,(@jb _ _ _ _ _ (qb (xb (R8 T) hr.dn a_ T.Pk T.IL.kp T.Pl jl (jc (pv 0) jf) (xc (pv 1) uu))) (@jb _ _ _ _ _ (j7 (i:=2) Fy.nd a_ (o_ a_) (Aa T.OY (RX T) hr.dn a_ T.Je T.IB .nil jl (jc (pv 1) jf))) (@jb _ _ _ _ _ (iR ú a_ (@pz _ _ _ _ (pv 0)) (jr (i:=3) Fy.nd a_ (o_ a_)) (@jb _ _ _ _ _ (zf (xq (ze (j8 (pv 2) T.yg T.O4 (RV T) hr.dn T.Bt .nil jl (jc (pv 3) jf)))) (@je _ _ _ (jv dZ)) j9) (@je _ _ _ (qb (j8 (pv 2) T.yg T.O8 (RW T) hr.dn T.IC .nil jl (jc (pv 3) jf)))))) (@je _ _ _ (jv dZ))))),?_⟩;refine⟨_,a_,_,a_,xa3 a y xs os ss ⟨a_,ha,ho,hy,G,λH2 bQ=>?_⟩⟩;refine⟨_,a_,λp dx np oE nex=>?_⟩;have s3:x8 H2 (upd (upd H2 dx (.own p)) p (.ins t.fU dx [])):=λb o e=>by
  rw[jd (jg e np),jd (jg e oE)];exact e
 refine(xa2 p dx y ss ⟨a_,ja,s3 _ _ (bQ _ _ hy),by omega,λS N D H4 nS nN nD R keep=>⟨a_,?_⟩⟩);have s4:x8 H2 H4:=λb o e=>keep b o (s3 _ _ e) (jg e np);have rj:=bQ.trans s4;have xX:H S=none:=bQ.free (s3.free nS);have Kv:H N=none:=bQ.free (s3.free nN);have Ck:H D=none:=bQ.free (s3.free nD);refine⟨_,a_,a,a_,⟨_,af.of (rj _ _ ha)⟩,oU (K:=K) (a:=a) (xs:=xs) (λi U H'=>∃v,U=[some (.ref a),some (.ref y),some (.ref p),v]/\x8 H H'/\gA t H' p dx S N D ss (os.take i)) ⟨none,a_,rj,R⟩ (λi U H' _ ⟨_,_,s',_⟩=>af.of (s' _ _ ha)) ?_ ?_⟩
 .rintro i x U H' eU ⟨v,rfl,s',R'⟩
  obtain⟨o,eo,c,rfl,hc⟩:=qC ho eU;have io:=G.ord o (u_ eo);have aw:=(l?.mp eo).1;refine⟨_,a_,xa1 p dx _ ⟨a_,R'.ob,yK S N D (by decide+kernel),_,a_,xa4 p dx S N D ss (os.take i) c o ⟨a_,R',s' _ _ hc,io,_,a_,?_⟩⟩⟩;rw[hi.at_ eo];refine w4 ?_;refine⟨_,a_,xa1 p dx _ ⟨a_,R'.ob,yK S N D (by decide+kernel),_,a_,xa4 p dx S N D ss (os.take i) c o ⟨a_,R',s' _ _ hc,io,by rw[Ñ];omega,λH6 R6 gN=>?_⟩⟩⟩;rw[<-take_snoc eo]at R6;exact⟨_,a_,λb u e=>gN b u (s' _ _ e) (jg e xX) (jg e Kv) (jg e Ck),R6⟩
 .rintro U H' ⟨v,rfl,s',_⟩
  exact k H' s'
theorem j04 (T:Txt K mg t):zv P w K mg base CX0 1 t.HF t.HG ["purse","places","book"] (λvs H Q _=>∃i C p dx S N D kvs os b L,vs=[.int i,.ref C,.ref p]/\0<=i/\i<(b.length:Int)/\Rd H C (.dT kvs)/\h_ (lG H) kvs os/\gA t H p dx S N D b L/\∀v H',x8 H H'->Q v H'):=by
 refine T.Px.bF OB λ_ A _ s H vs Q E hr h=>?_;obtain⟨i,C,p,dx,S,N,D,kvs,os,b,L,rfl,i0,i1,hC,pk,R,k⟩:=h;refine⟨_,(@jb _ _ _ _ _ (j7 (i:=3) OB.nd a_ (o_ a_) (MI (fM hr) (pv 1) (@iU _ _ _ _ _ (@y6 _ _ _ _ _ (pv 0) (gb yr (j3 (pv 2) a_) (pv 0) (λ_ _=>a_)) a_ a_)) ⟨a_,a_,a_,a_⟩)) (@jb _ _ _ _ _ (zf (jz zW (pv 3) gR (qe _)) (@je _ _ _ (jv gR)) j9) (@je _ _ _ (jv (xx kF (gb gY (pv 3) jn (λ_ _=>a_)) (gb yr (j3 (pv 2) a_) (pv 0) (λ_ _=>a_))))))),?_⟩;refine⟨_,a_,C,a_,.inr ⟨_,hC⟩,_,a_,_,a_,xa3 p _ dx _ _ ⟨a_,R.ob,T.yg,T.qf,(iK S N D).2.1,_,a_,xa2 N _ i _ ⟨a_,a_,af.of R.nn,fW i0 (by rw[y_,mE i0 i1];rfl),oj,λq hq=>?_⟩⟩⟩;have s1:=jh (o:=.tup [.int i,.int ((aH i L).length:f?)]) hq;have EO:Rd (upd H q (.tup [.int i,.int ((aH i L).length:f?)])) C (.dT kvs):=xD s1 hC;refine⟨_,.inr (xa1 _ [S_ i,S_ ((aH i L).length:f?)] q ⟨EO,a_,ja,a_⟩),?_⟩;have R1:=R.same s1;rcases Cj i ((aH i L).length:f?) (yL s1 pk)with⟨h1,h2⟩|⟨v,o,h1,h2,h3,h4,c,rfl,hc⟩
 .rw[h1];exact⟨_,a_,a_,_,a_,bA (k _ _ s1)⟩
 .rw[h1];refine⟨_,a_,a_,_,a_,w4 ?_⟩;exact⟨_,a_,c,bO o,3,.int o.m,a_,a_,az.of hc,a_,_,a_,p,_,dx,_,_,a_,R1.ob,T.yg,T.uv,(iK S N D).1,_,a_,S,_,i,.int (gI (bT b L) i),a_,a_,af.of R1.he,fW i0 (by rw[y_,jM i0 (by rw[qS];omega)];rfl),_,_,a_,a_,k _ _ s1⟩
noncomputable def sX (ks:b? f?)(p:f?):b? f?:=if p∈ks then ks else ks++[p]
theorem j5l {p:f?}{v:V}{l:b? (Key×V)}{ks:b? f?}(h:l.map (·.1)=ks.map S_):(putK l (S_ p) v).map (·.1)=(sX ks p).map S_:=by
 have e:(l.any λkv=>s? (kv.1=(S_ p:Key)))=s? (p∈ks):=by
  have e1:(l.any λkv=>s? (kv.1=(S_ p:Key)))=(l.map (·.1)).any λk=>s? (k=S_ p):=by rw[afz];rfl
  rw[e1,h,ċ];simp
 unfold putK sX;rw[e];by_cases z:p∈ks
 .rw[m_ (i? z),m_ z,aav,<-h];refine aaG λkv _=>?_;show(if kv.1=S_ p then(kv.1,v)else kv).1=kv.1;split<;>rfl
 .rw[j? (by simp[z]),j? z,K_,K_,h];rfl
theorem j9r {a b:O}(h:HT.lexLt (yh a) (yh b)=true):a.p<=b.p:=by
 unfold yh at h;rw[HT.oX]at h;by_cases e:a.p=b.p
 .omega
 .rw[j? e]at h;have:=n? h;lia
theorem jz3 (T:Txt K mg t):zv P w K mg base CX0 8 t.HH t.HI ["orders","sums"] (sV (λ_ H Q os ss=>∀F (l:b? (Key×V))(ks:b? f?)(Lf:b? O) L H',H F=none->x8 H H'->H' F=some (.dK l)->l.map (·.1)=ks.map S_->ks.Pairwise (·<·)->(∀k:f?,k∈ks↔∃o∈Lf,o.p=k)->ks.length<=50->yN os ss L->Lf.Perm (os.filter (iL L))->Q (.ref F) H') t):=by
 refine T.Py.bF Fz λ_ A _ s H vs Q E hr h=>?_;obtain⟨a,y,xs,os,ss,rfl,ha,ho,hy,G,k⟩:=h;refine⟨_,(@jb _ _ _ _ _ (j7 (i:=2) Fz.nd a_ (ad0 a_) (xb (Ku T) hr.dn a_ T.IP T.Bv.kp T.IQ jl (jc (pv 0) jf) (xc (pv 1) uu))) (@jb _ _ _ _ _ (j7 (i:=3) Fz.nd a_ (ad0 a_) (jm (Kr T) hr.dn a_ T.IJ T.Bu.kp T.IK .nil jl (jc (jm (Si T) hr.dn a_ T.Po T.IT.kp T.Pp .nil jl (@y6 _ _ _ _ _ (pv 2) (pv 0) a_ a_)) jf))) (@je _ _ _ (jv (Er (Ez (.dK []) (.inl a_) (fM hr) (N':=["purse","number","places","book"]) (ix:=[none,none,some 3,some 2]) (xr (by kernel_rfl)) a_ (Ny (pv 3)) (λ_ _ _ _=>(Nv (K:=K) (t:=(tE (dI 0) (tE (dI 1) Dj))) a_ a_ 2 (ju (jr (i:=0) OH a_ (o_ a_) (.inr a_)) (ju (jr (i:=1) OH a_ (o_ a_) (.inr a_)) iO)) a_ a_)) (λ_ _ _ _=>lY) (λ_ _ _ _=>(pv 0)) (λ_ _ _ _=>(@iU _ _ _ _ _ (@y6 _ _ _ _ _ (gb (XB (K:=K) a_) (XA (K:=K) a_ (pv 3) a_) (pv 0) (λ_ _=>a_)) (jm (j04 T) hr.dn a_ T.jxk T.Px.kp T.jwd .nil jl (@cq _ _ _ _ _ _ _ (pv 0) (pv 2) (pv 3) a_ a_ a_)) a_ a_))))))))),?_⟩;refine⟨_,a_,_,a_,xa3 a y xs os ss ⟨a_,ha,ho,hy,G,λp dx S N D L H' np nD s' R bk=>?_⟩⟩;refine⟨_,a_,_,a_,xb1 p dx S N D ss L a xs os ⟨a_,R,s' _ _ ha,zh s' ho,G,λr ys Lf H2 nr s2 fE KA q1 q2=>?_⟩⟩;have sub:∀o∈Lf,o∈os:=λo ho=>(D_.mp (q1.mem_iff.mp ho)).1;have ndL:Lf.Nodup:=q1.nodup_iff.mpr (G.nd.filter _);have GL:=G.sub sub ndL;have fw:=GL.few;have l8:=G.l8;refine(xa2 r ys Lf ss ⟨a_,fE,KA,GL,λC kvs H3 nC s3 hC pk=>?_⟩);have bQ:=s'.trans s2;have yP:=bQ.trans s3;have Sk:H C=none:=bQ.free nC;have R3:=(R.same s2).same s3;refine⟨_,a_,xa0 C _ ⟨a_,hC,λo F hF=>?_⟩⟩;obtain⟨FC,KC⟩:=xn hF;have nF0:H F=none:=yP.free KC;have lk:kvs.length=Lf.length:=q? pk;refine XX (o:=o) (λi U' H'=>∃v0 v1 l ks,U'=[v0,v1,some (.ref C),some (.ref p)]/\(∀b u,H3 b=some u->b≠C->H' b=some u)/\H' C=some (.aB o (.dT kvs))/\H' F=some (.dK l)/\l.map (·.1)=ks.map S_/\ks.Pairwise (·<·)/\(∀k,k∈ks↔∃o∈Lf.take i,o.p=k)/\ks.length<=i) (xa2 none none [] [] ⟨a_,(λb u e bC=>by rw[jd (jg e KC),jd bC];exact e),(by rw[jd (M_ FC),ja]),ja,a_,.nil,(λk=>by simp),r_ _⟩) (λi U' H' _ ⟨_,_,_,_,_,_,z,_⟩=>z) ?_ ?_
 .rintro i kv b U' H' ek eb ⟨v0,v1,l,ks,rfl,keep,sW,KG,wl,up,mem,lks⟩
  obtain⟨u,eu,kP,_⟩:=qo pk ek;have hi:i<Lf.length:=(l?.mp eu).1;rw[kP]at eb;obtain⟨p0,p1',_⟩:=qc.mp (GL.ord u (u_ eu));have p1:u.p<(ss.length:f?):=by omega
  have dF:∀{b v},H3 b=some v->(∀kvs,v≠.dT kvs)->H' b=some v:=λe nX=>keep _ _ e (cT e hC (nX _));have B':gA t H' p dx S N D ss L:=⟨dF R3.ob (λ_ z=>by cases z),dF R3.he (λ_ z=>by cases z),dF R3.nn (λ_ z=>by cases z),(let⟨ds,h1,h2⟩:=R3.dn;⟨ds,dF h1 (λ_ z=>by cases z),Paired.gy h2 λ_ _ ⟨c,e,hc⟩=>⟨c,e,dF hc λ_ z=>by cases z⟩⟩),R3.ne⟩;have pkH:h_ (lG H') kvs Lf:=Paired.gy pk λ_ _ ⟨e,c,e2,hc⟩=>⟨e,c,e2,dF hc (λ_ z=>by cases z)⟩;refine(xa0 b _ ⟨a_,az.of eb,a_,xa0 _ _ ⟨a_,xa0 _ _ ⟨a_,a_,R9 ?_⟩⟩⟩);refine⟨_,a_,_,a_,xa3 p _ dx _ _ ⟨a_,B'.ob,T.yg,T.qf,(iK S N D).2.1,_,a_,xa2 N _ u.p _ ⟨a_,a_,af.of B'.nn,fW p0 (by rw[y_,mE p0 p1];rfl),?_⟩⟩⟩;refine⟨_,a_,_,a_,_,a_,xb2 u.p C p dx S N D kvs Lf ss L ⟨a_,p0,p1,.inr ⟨o,sW⟩,pkH,B',λlv H5 s5=>⟨oj,λq hq=>?_⟩⟩⟩;have s6:=s5.trans (jh (o:=.tup [.int ((aH u.p L).length:f?),lv]) hq);have hF6:=s6 _ _ KG;refine⟨_,ft.k (k:=S_ u.p) hF6 (zm (by have:=X? Ĕ wl;rw[g_,g_]at this;omega)),xa2 _ _ _ (sX ks u.p) ⟨a_,λb v e bC=>?_,?_,ja,j5l wl,?_,λk=>?_,?_⟩⟩
  .rw[jd (λz=>by subst z;rw[KC]at e;cases e)];exact s6 _ _ (keep b v e bC)
  .rw[jd (M_ FC)];exact s6 _ _ sW
  .unfold sX;split
   .exact up
   .rename_i hn;refine Ľ.mpr ⟨up,ĕ _ _,λx hx y hy=>?_⟩;rw[j'.mp hy];obtain⟨o',aV,rfl⟩:=(mem x).mp hx;have hle:o'.p<=u.p:=by
     obtain⟨j,hj,e⟩:=Ý.mp aV;rw[Ñ]at hj;rw[adI]at e;have:=ĵ.mp (aaX.mp q2) j i (by omega) hi (by omega);rw[e,(l?.mp eu).2]at this;exact j9r this
    have:o'.p≠u.p:=λz=>hn (z ▸ hx);omega
  .rw[take_snoc eu];unfold sX;split
   .rename_i AD;rw[mem k];constructor
    .rintro⟨o',h1,h2⟩
     exact⟨o',I_ _ h1,h2⟩
    .rintro⟨o',h1,h2⟩
     rcases v_.mp h1 with z|z
     .exact⟨o',z,h2⟩
     .rw[j'.mp z]at h2;rw[<-h2];exact(mem _).mp AD
   .rw[v_,mem k];constructor
    .rintro(⟨o',h1,h2⟩|z)
     .exact⟨o',I_ _ h1,h2⟩
     .exact⟨u,z_ _ p?,(j'.mp z).symm⟩
    .rintro⟨o',h1,h2⟩
     rcases v_.mp h1 with z|z
     .exact .inl ⟨o',z,h2⟩
     .rw[j'.mp z]at h2;exact .inr (j'.mpr h2.symm)
  .unfold sX;split
   .omega
   .rw[p_];show ks.length+1<=i+1;omega
 .rintro U' H' ⟨v0,v1,l,ks,rfl,keep,sW,KG,wl,up,mem,lks⟩
  refine⟨C,o,_,sW,(λo' u' z=>by have z':H C=some (.aB o' u'):=z;rw[Sk]at z';cases z'),xv,?_⟩;rw[lk,Z_]at mem;refine k F l ks Lf L _ nF0 (λb u e=>?_) (by rw[jd FC];exact KG) wl up mem (by omega) bk q1;have bC:b≠C:=jg e Sk;rw[jd bC];exact keep _ _ (yP _ _ e) bC
theorem j3w {n:i_}{ns:b? f?}(ln:ns.length=n){A Bq:b? O}(io:∀o∈A,zc n o=true)(pm:A.Perm Bq):bT ns A=bT ns Bq:=by
 refine ad6 (by rw[qS,qS]) λi h1 h2=>?_;have e:gI (bT ns A) (i:f?)=gI (bT ns Bq) (i:f?):=by rw[yC (by lia) ln io,yC (by lia) ln λo ho=>io o (pm.mem_iff.mpr ho)];have a:oB (i:f?) A=oB (i:f?) Bq:=J1 ((pm.filter _).map _);have b:oC (i:f?) A=oC (i:f?) Bq:=J1 ((pm.filter _).map _);rw[a,b]
 have q1:=jM (xs:=bT ns A) (i:=(i:f?)) (by lia) (by lia);have q2:=jM (xs:=bT ns Bq) (i:=(i:f?)) (by lia) (by lia);rw[R_,u? h1]at q1;rw[R_,u? h2]at q2;rw[s_ q1,s_ q2,e]
theorem Sl {k:b? f?}{en:f?}(h1:1<=en):∀{is:yl},en<=((jx is k).length:f?)->k∈xu is en
 |[],h=>w_ h (by show¬en<=((0:i_):f?);lia)
 |p::ps,h=>by
  unfold xu;by_cases z:p.1=k
  .have e:jx (p::ps) k=p.2:=m_ z;rw[e]at h;exact H?.mpr ⟨p,D_.mpr ⟨p?,i? h⟩,z⟩
  .have e:jx (p::ps) k=jx ps k:=j? z;rw[e]at h;obtain⟨x,hx,ex⟩:=H?.mp (Sl h1 h);obtain⟨m1,m2⟩:=D_.mp hx;exact H?.mpr ⟨x,D_.mpr ⟨q_ _ m1,m2⟩,ex⟩
theorem dy.past {n:i_}{ns:b? f?}{L:b? O}(h:dy n ns L){o:O}(n0:0<=o.n):o.n<((aH o.p L).length:f?)↔∃u∈L,u.p=o.p/\u.n=o.n:=by
 have e:=h.nums o.p;constructor
 .intro z;have m:o.n∈upTo ((aH o.p L).length:f?):=H?.mpr ⟨o.n.toNat,Z?.mpr (by lia),by lia⟩;rw[<-e]at m;obtain⟨u,hu,en⟩:=H?.mp m;obtain⟨m1,m2⟩:=D_.mp hu;exact⟨u,m1,n? m2,en⟩
 .rintro⟨u,hu,ep,en⟩
  have m:o.n∈(aH o.p L).map (·.n):=H?.mpr ⟨u,D_.mpr ⟨hu,i? ep⟩,en⟩;rw[e]at m;obtain⟨i,hi,ei⟩:=H?.mp m;have:=Z?.mp hi;lia
structure Sm (Y:Wd)(L os:b? O):Prop where
 c:∀o,o∈os↔Y.carried o=true
 l:∀o∈os,o∈L
 nd:os.Nodup
section
variable {Y:Wd}{T F:i_}{L os:b? O}{ls ns:b? f?}
theorem Gz.qej (g:Gz Y T F L ls ns){ts:b? (b? f?)}(h:ts.Perm (xu Y.bd Y.en)):(ts.map iS).map yh=ts/\Sm Y L (ts.map iS):=by
 have hp:∀t∈ts,∃o∈L,t=yh o/\Y.carried o=true:=λt ht=>g.jN (h.mem_iff.mp ht);have eu:=Cn (ts:=ts) λt ht=>let⟨o,_,e,_⟩:=hp t ht;⟨o,e⟩;have key:∀o∈ts.map iS,o∈L/\Y.carried o=true:=λo ho=>by obtain⟨t,ht,rfl⟩:=H?.mp ho;obtain⟨o,ol,rfl,oc⟩:=hp t ht;exact⟨ol,oc⟩
 refine⟨eu,λo=>⟨λho=>(key o ho).2,λhc=>?_⟩,λo ho=>(key o ho).1,?_⟩
 .have m:=h.mem_iff.mpr (Sl g.e1 (n? hc));exact H?.mpr ⟨_,m,a_⟩
 .refine Q9 (f:=yh) ?_;rw[eu];refine h.nodup_iff.mpr ?_;exact(g.g.b.nd.sublist ((adj ..).map _))
theorem Gz.jU (g:Gz Y T F L ls ns)(hT:T<=50){A:b? O}(h2:2<=ns.length)(h8:ns.length<=8)(nr:∀x∈ns,0<=x/\x<=1000)(nd:A.Nodup)(hl:∀o∈A,o∈L)(hc:∀o∈A,Y.carried o=true):mF A ns:=⟨h2,h8,nr,P_ (zl nd hl) (P_ g.l hT),λo ho=>by rw[g.nl];exact g.lo o (hl o ho),nd,λo ho u hu ep en=>g.un (hc o ho) (hc u hu) ep en⟩
theorem Gz.Cp (g:Gz Y T F L ls ns)(st:Y.way=[])(pp:Sm Y L os){A:b? O}(bk:yN os ns A){c:f?×Kp}(hc:c∈Y.ks):A.Perm c.2.done/\(os.filter (iL A)).Perm c.2.wait:=by
 obtain⟨kx,kz,_⟩:=g.ks c hc;have hA:=bk.h;rw[g.nl]at hA;have un:∀o o':O,Y.carried o=true->Y.carried o'=true->o.p=o'.p->o.n=o'.n->o=o':=λo o' h h'=>g.un h h';have ac:∀o∈A,Y.carried o=true:=λo ho=>(pp.c o).mp (bk.s o ho);have s1:=Ra (C:=λo=>Y.carried o=true) g.nl un kz.hi (λo ho=>(kx.dl o ho).2) (λo h=>g.all st hc h) kx.wd (λo ho=>by rw[<-kx.he];exact g.due hc ho) hA ac;have s2:=Ra (C:=λo=>Y.carried o=true) (w:=os.filter λo=>s? (o∉A)) g.nl un hA ac (λo h=>by
  by_cases z:o∈A
  .exact .inl z
  .exact .inr (D_.mpr ⟨(pp.c o).mpr h,i? z⟩)) (λo ho=>n? (D_.mp ho).2) (λo ho ⟨e1,e2⟩=>by
  have:=bk.e o (D_.mp ho).1;unfold gM at this;rw[i? e1,i? e2]at this;cases this) kz.hi λo ho=>(kx.dl o ho).2;refine⟨Cc hA.nd kz.hi.nd λo=>⟨s1 o,s2 o⟩,Cc (pp.nd.filter _) (g.ok.ks c hc).nd λo=>⟨λh=>?_,λh=>?_⟩⟩
 .obtain⟨m1,m2⟩:=D_.mp h;rcases g.all st hc ((pp.c o).mp m1)with z|z
  .have n0:0<=o.n:=(qc.mp (g.lo o (pp.l o m1))).2.2.2.2.2.1;have:=(hA.past n0).mpr ⟨o,s2 o z,a_,a_⟩;unfold iL at m2;rw[i? this]at m2;cases m2
  .exact z
 .have oc:=kx.wc o h;have om:=(pp.c o).mpr oc;have n0:0<=o.n:=(qc.mp (g.lo o (pp.l o om))).2.2.2.2.2.1;refine D_.mpr ⟨om,?_⟩;unfold iL;rw[z? (λz=>?_)]
  .rfl
  .obtain⟨u,hu,ep,en⟩:=(hA.past n0).mp z;have:u=o:=un u o (ac u hu) oc ep en;subst this;exact kx.wd u h (s1 u hu)
end
noncomputable abbrev sY (a To pa x:c_)(cr few:f?)(fo ho be ro:c_)(l:b? (g? V)):St:=[some (.ref a),some (.ref To),some (.ref pa),some (.ref x),some (.int cr),some (.int few),some (.ref fo),some (.ref ho),some (.ref be),some (.ref ro)]++l
theorem Ps.same {Z:aq}{H H':Hp}{pa x fo ho be ro:c_}{aQ few:f?}{p:Pt}(s:x8 H H')(h:Ps H Z pa x aQ few fo ho be ro p):Ps H' Z pa x aQ few fo ho be ro p:=h.fr (P:=λ_=>w?) (Fr.same s)
theorem j9m {H:Hp}{Z:aq}{vs:b? V}{os:b? O}(h:h_ (xt H Z) vs os):eF H vs os:=Paired.gy h λ_ _ ⟨a,e,_,q⟩=>⟨a,e,q⟩
noncomputable def j3p (K:e?):Sp:=λvs H Q _=>∃(a:c_)(ns:b? f?),vs=[.ref a]/\af K H a (ns.map V.int)/\ns.length<=63/\∀H',Q (.bl true) H'
set_option maxHeartbeats 0 in
theorem j99 (T:Txt K mg t) : zv P w K mg base CX0 12 t.Ij t.Ik ["_law_script"] (j3p K):=by
 refine T.j9f.bF (k:=11) fT λ_ A _ s H vs Q E hr h=>?_
 obtain ⟨a,ns,rfl,hS,hn,k⟩:=h
 refine ⟨_,(@jb _ _ _ _ _ (j7 (i:=1) fT.nd a_ (o_ a_) (jm (jxn T) hr.dn a_ T.jsd T.Pz.kp T.jsg .nil jl (jc (pv 0) jf)))
  (@jb _ _ _ _ _ (j7 (i:=2) fT.nd a_ (o_ a_) (jm (juv T) hr.dn a_ T.jp2 T.PJ.kp T.jpf .nil jl (jc (pv 1) jf)))
  (@jb _ _ _ _ _ (iP (pv 2) (kD a_ (ju (jr (i:=3) fT.nd a_ (o_ a_)) (ju (jr (i:=4) fT.nd a_ (o_ a_)) (ju (jr (i:=5) fT.nd a_ (o_ a_)) (ju (jr (i:=6) fT.nd a_ (o_ a_)) (ju (jr (i:=7) fT.nd a_ (o_ a_)) (ju (jr (i:=8) fT.nd a_ (o_ a_)) (ju (jr (i:=9) fT.nd a_ (o_ a_)) iO)))))))))
  (@jb _ _ _ _ _ (iR ú a_ (rF a_ T.sr (jc jn jf)) (jr (i:=10) fT.nd a_ (o_ a_)) (@jb _ _ _ _ _ (qb (jm (j0z T) hr.dn a_ T.jwu T.PR.kp T.jwm .nil jl (@cq _ _ _ _ _ _ _ (pv 1) (pv 2) jn a_ a_ a_)))
  (@jb _ _ _ _ _ (j7 (i:=11) fT.nd a_ (o_ a_) (jm (zo T) hr.dn a_ T.zu T.zg.kp T.zw .nil jl (@y6 _ _ _ _ _ (pv 1) (pv 7) a_ a_)))
  (@je _ _ _ (zf (jz V4 (xb (j2e T) hr.dn a_ T.jzg T.Pw.kp T.jtp jl (jc (j8 (pv 3) T.jk T.Pb (Qz T) hr.dn T.Pd .nil jl (jc (pv 11) jf)) jf) (xc (pv 8) uu)) dZ (qe _)) (@je _ _ _ (jv dZ)) j9)))))
  (@jb _ _ _ _ _ (zf (xq (ze (jm (jp9 T) hr.dn a_ T.jji T.PU.kp T.jjw .nil jl (@y6 _ _ _ _ _ (pv 1) (pv 3) a_ a_)))) (@je _ _ _ (jv dZ)) j9)
  (@jb _ _ _ _ _ (j7 (i:=12) fT.nd a_ (o_ a_) (wo (pv 3) T.jk T.IE (JI T) hr.dn T.IF .nil jl))
  (@jb _ _ _ _ _ (j7 (i:=13) fT.nd a_ (o_ a_) (jo vB a_ T.qB boot_sorted (jc (xb (j09 T) hr.dn a_ T.jwo T.Pq.kp T.jsq jl (jc (pv 12) jf) (xc (pv 8) uu)) jf)))
  (@jb _ _ _ _ _ (iR ú a_ (@pz _ _ _ _ (pv 7)) (jr (i:=11) fT.nd a_ (o_ a_)) (@jb _ _ _ _ _ (zf (PW.pt (gD (jz (ma hr.units) (jo vB a_ T.qB boot_sorted (jc (j8 (pv 3) T.jk T.Pb (Qz T) hr.dn T.Pd .nil jl (jc (pv 11) jf)) jf)) (pv 13) (qe _)) (gS (jz (ma hr.units) (j8 (pv 3) T.jk T.jkz (jte T) hr.dn T.jnb .nil jl (jc (pv 11) jf)) (xb (Sj T) hr.dn a_ T.Pr T.IU.kp T.Pu jl (jc (pv 12) jf) (xc (pv 8) uu)) (qe _))))) (@je _ _ _ (jv dZ)) j9)
  (@je _ _ _ (zf (jz (ma hr.units) (j8 (pv 3) T.jk T.jnl (ju0 T) hr.dn T.jpu .nil jl (jc (pv 11) jf)) (jm (j18 T) hr.dn a_ T.jyy T.Pj.kp T.jzp .nil jl (@y6 _ _ _ _ _ (pv 13) (pv 8) a_ a_)) (qe _)) (@je _ _ _ (jv dZ)) j9))))
  (@je _ _ _ (jv (gW (V2 hr.units) (jo (ZE a_) a_ T.qB boot_sorted (jc (xb (jz3 T) hr.dn a_ T.jvp T.Py.kp T.jrq jl (jc (pv 12) jf) (xc (pv 8) uu)) jf)) (jo (ZD a_) a_ T.qB boot_sorted (jc (gr (ZC a_) a_ T.qal boot_set (jc (kJ (N':=["_law_order_here"]) (ix:=[none]) (xr (by kernel_rfl)) a_ (@pz _ _ _ _ (xb (Sj T) hr.dn a_ T.Pr T.IU.kp T.Pu jl (jc (pv 12) jf) (xc (pv 8) uu))) (λ_ _ _ _=>(jr (i:=0) ZZ a_ (o_ a_) (.inr a_))) (λ_ _ _ _=>lY) (λ_ _ _ _=>(gb (Nw (K:=K) a_) (pv 0) jn (λ_ _=>a_)))) jf)) jf)) (qe _)))))))))))),?_⟩
 refine ⟨_,a_,xa0 a ns ⟨a_,hS,λTo R H1 nT nR s1 hT=>?_⟩⟩
 have hTR:To ≠ R:=hT.ne
 obtain ⟨Z0,yQ⟩ : ∃ Z0:aq,Z0 = aE (aE (λ_=>none) R (9,.own 1)) To (9,.own 0):=⟨_,a_⟩
 have S0:Tw H1 Z0 To R:=by
  obtain ⟨row,c,t1,t2,t3⟩:=hT
  refine ⟨?_,(xa0 row c ⟨t1,t2,t3⟩),?_⟩
  .rw [yQ]
   exact ay.aE (ay.aE (λ_ _ z=>by cases z) t2 xv) t1 xv
  .rw [yQ]
   exact ⟨xa,by rw [x9 hTR.symm,xa]⟩
 refine ⟨_,a_,xa1 Z0 To R ⟨a_,S0,λ Z1 H2 W Y0 pa cr few fo ho be ro p ok S1 B1=>?_⟩⟩
 refine ⟨_,a_,xa0 pa _ ⟨a_,az.of B1.tp.1,a_,xa0 _ _ ⟨a_,xa0 _ _ ⟨a_,xa0 _ _ ⟨a_,xa0 _ _ ⟨a_,xa0 _ _ ⟨a_,xa0 _ _ ⟨a_,xa0 _ _ ⟨a_,a_,?_⟩⟩⟩⟩⟩⟩⟩⟩⟩
 show zO _ _ _ (sY a To pa W.x cr few fo ho be ro [none,none,none,none]) H2
 have l2:=ok.l2
 have l8:=ok.l8
 have h16:=ok.h1
 refine ⟨40,a_,by decide,by decide,Dm (lo:=0) (n:=40) (λi U H'=>∃ Z Y v1 v2,U = sY a To pa W.x cr few fo ho be ro [v1,v2,none,none] /\ Sw t H' Z W Y i (36 * i) p To R /\ Ps H' Z pa W.x cr few fo ho be ro p) (xa2 Z1 Y0 none none ⟨a_,S1,B1⟩) ?_ ?_⟩
 .rintro i U H4 hi ⟨Z2,Y1,v1,v2,rfl,S4,B4⟩
  refine ⟨_,a_,_,a_,xa8 Z2 W Y1 i p To R pa cr few fo ho be ro 6 ⟨a_,S4,B4,ok,by omega,λ Z3 H5 Y v S5 f5=>?_⟩⟩
  have B5:=B4.fr f5
  refine ⟨_,a_,_,a_,qV S5 B5.ho ok.h0 (by omega) λh H6 hh S6 f6=>?_⟩
  have B6:=B5.fr f6
  show dI 11 (V.int h) (sY a To pa W.x cr few fo ho be ro [some (.int (0 + (i:f?))),v2,none,none]) H6 _
  obtain ⟨L1,g1⟩:=S6.w.g
  have z1:=g1.l
  obtain ⟨B,ek,km⟩:=sQ (by rw [S6.w.h]; exact hh:h ∈ Y.ks.map (·.1))
  obtain ⟨kx,kz,_⟩:=g1.ks _ km
  have dw : B.done.length + B.wait.length <= L1.length:=(g1.lq km).dw
  have hi1:=kz.hi
  refine ⟨_,a_,xa1 W.x W.dx _ ⟨a_,S6.w.o.ob.1,zq,_,a_,xa5 Z3 0 W Y h B ⟨a_,S6.w.o,ek,by omega,λr xs nr px=>?_⟩⟩⟩
  have s7:=jh (o:=.lst xs) nr
  have S7:=S6.same s7
  have B7:=B6.same s7
  have Cm:upd H6 r (.lst xs) r = some (.lst xs):=ja
  have Sn:=zh s7 (j9m px)
  generalize upd H6 r (.lst xs) = H7 at S7 B7 Cm Sn s7
  refine ⟨_,a_,xa3 r be xs B.done p.ns ⟨a_,Cm,Sn,B7.be.1,g1.jU (by omega) l2 l8 ok.nr kz.hi.nd (λo ho=>(kx.dl o ho).1) (λo ho=>(kx.dl o ho).2),(by rw [g1.nl]; exact kz.hi),λH8 s8=>?_⟩⟩
  refine (xa0 _ _ ⟨a_,a_,_,a_,w4 ?_⟩)
  exact (xa2 Z3 Y _ _ ⟨a_,S7.same s8,B7.same s8⟩)
 rintro U H4 ⟨Z2,Y1,v1,v2,rfl,S4,B4⟩
 refine ⟨_,a_,_,a_,xa6 Z2 W Y1 40 p To R ⟨a_,S4,ok.ll,by decide,λ Z H7 Y S7 f7 st=>?_⟩⟩
 refine ⟨_,a_,w4 ?_⟩
 have B7:=B4.fr f7
 obtain ⟨L,g⟩:=S7.w.g
 have z7:=g.l
 have en:=S7.w.n
 obtain ⟨gb1,_⟩:=g.g.b.len
 refine ⟨_,a_,xa1 W.x W.dx _ ⟨a_,S7.w.o.ob.1,zq,xa2 Z 0 W Y ⟨a_,S7.w.o,by omega,g.g.b.nd,(λx hx z=>?_),λpr vs ts H8 npr s8 So KH KI KJ=>?_⟩⟩⟩
 .obtain ⟨o,_,e⟩:=g.g.b.ks x hx
  rw [z] at e
  cases e
 obtain ⟨eu,pp⟩:=g.qej So
 rw [<- eu] at KI
 have Cq:=Co KI
 generalize ts.map iS = os at Cq pp
 clear KI eu So KH ts
 have S8:=S7.same s8
 have B8:=B7.same s8
 have jU:mF os p.ns:=g.jU (by omega) l2 l8 ok.nr pp.nd pp.l λo ho=>(pp.c o).mp ho
 show dI 12 (.ref pr) (sY a To pa W.x cr few fo ho be ro [v1,v2,none,none]) H8 _
 refine ⟨_,a_,_,a_,xa3 pr be vs os p.ns ⟨a_,KJ,Cq,B8.be.1,jU,λD ds A' H9 nD s9 hD yO bk=>?_⟩⟩
 have Sq : ∀ {os:b? O},∀ t ∈ os.map yh,t ≠ []:=λt ht z=>by
  obtain ⟨o,_,rfl⟩:=H?.mp ht
  cases z
 have Sr : ∀ {os:b? O},os.Nodup -> (os.map yh).Nodup:=λh=>à _ (λa b cV z=>cV (qH z)) h
 have lA:=zl bk.h.nd bk.s
 have fw:=jU.few
 have lds:=q? yO
 have KL:=yM yO
 refine (xa1 D ds (A'.map yh) ⟨a_,af.of hD,cD.at_ KL,by omega,Sr bk.h.nd,Sq,λdn vd td ix Ss Kz ev et _ pd _ rd=>?_⟩)
 have pyd:=BA KL (ix:=ix) λi hi=>Z?.mp (Kz.mem_iff.mp hi)
 rw [<- ev,<- et] at pyd
 have eu:=Cn (ts:=td) λt ht=>by
  obtain ⟨o,_,rfl⟩:=H?.mp (pd.mem_iff.mp ht)
  exact ⟨o,a_⟩
 have sZ:=pd.map iS
 rw [Ky] at sZ
 rw [<- eu] at pyd rd
 generalize td.map iS = Ld at pyd sZ rd
 have dQ:=jh (o:=.lst vd) Ss
 have jV:=s9.trans dQ
 have Cr:=S8.same jV
 have oH:=B8.same jV
 have rl:upd H9 dn (.lst vd) dn = some (.lst vd):=ja
 have jW:=Paired.gy pyd λ_ _=>cD.same dQ
 have gO:=jV _ _ KJ
 have gP:=zh jV Cq
 show dI 13 (.ref dn) (sY a To pa W.x cr few fo ho be ro [v1,v2,some (.ref pr),none]) (upd H9 dn (.lst vd)) _
 generalize upd H9 dn (.lst vd) = Nq at Cr oH rl jW gO gP
 clear dQ jV pyd ev et KL yO Ss hD s9 nD lds S8 B8 KJ Cq
 have mG : ∀ {H:Hp} {r:c_} {vs:b? V} {ts:b? (b? f?)},H r = some (.lst vs) -> i7 K H vs ts -> qt K H (.lst (ts.map lD)) (.ref r):=λh q=>by
  rw [qt]
  exact (xa0 _ _ ⟨a_,af.of h,J8 (λx a h=>by obtain ⟨b,rfl,q⟩:=h; exact J9 q) q⟩)
 have yR : ∀ ts:b? (b? f?),bN (.lst (ts.map lD)) <= 60:=λts=>by
  have:=Ka ts
  rw [bN]
  omega
 have hk : ∀ {h:f?},h ∈ p.hs -> ∃ B,Y.keep h = some B /\ (h,B) ∈ Y.ks:=λhh=>sQ (by rw [S7.w.h]; exact hh)
 refine ⟨_,a_,ho,a_,⟨_,af.of oH.ho.1⟩,oU (K:=K) (a:=ho) (xs:=p.hs.map V.int) (λj U H'=>∃ w2,U = sY a To pa W.x cr few fo ho be ro [v1,w2,some (.ref pr),some (.ref dn)] /\ x8 Nq H') ⟨v2,a_,x8.refl _⟩ (λj U H' _ ⟨_,_,sm⟩=>af.of (sm _ _ oH.ho.1)) ?_ ?_⟩
 .rintro j y U Su ey ⟨w2,rfl,gB⟩
  obtain ⟨h,hh,rfl⟩:=int_at ey
  obtain ⟨B,ek,km⟩:=hk hh
  have dw : B.done.length + B.wait.length <= L.length:=(g.lq km).dw
  have Ci:=Cr.same gB
  obtain ⟨kx,kz,_⟩:=g.ks _ km
  refine ⟨_,a_,xa1 W.x W.dx _ ⟨a_,Ci.w.o.ob.1,zq,_,a_,xa5 Z 0 W Y h B ⟨a_,Ci.w.o,ek,by omega,λr1 xs1 Sv sJ=>?_⟩⟩⟩
  have oG:=jh (o:=.lst xs1) Sv
  refine (xa1 r1 xs1 (B.done.map yh) ⟨a_,af.of ja,Bz oG (QC sJ),by rw [q? sJ]; omega,Sr kz.hi.nd,Sq,λr2 v2 t2 ix Sy _ _ _ _ pp2 SE rr2=>?_⟩)
  have bQ:=jh (o:=.lst v2) Sy
  obtain ⟨SG,pm2⟩ : A'.Perm B.done /\ (os.filter (iL A')).Perm B.wait:=g.Cp st pp bk km
  have et2:t2 = Ld.map yh:=RT pp2 rr2 ((sZ.trans SG).map _) rd
  have ir:=(gB.trans oG).trans bQ
  refine ⟨_,a_,xa0 _ _ ⟨mG ja (Bz bQ SE),mG (ir _ _ rl) (cD.at_ (Paired.gy jW λ_ _=>cD.same ir)),yR _,_,a_,?_⟩⟩
  rw [et2,Ko]
  refine w4 ?_
  have KN:=Cr.same ir
  have B12:=oH.same ir
  generalize upd (upd Su r1 (.lst xs1)) r2 (.lst v2) = yT at ir KN B12
  clear oG bQ sJ Sv Sy SE
  refine ⟨_,a_,xa1 W.x W.dx _ ⟨a_,KN.w.o.ob.1,zq,_,a_,xa5 Z 0 W Y h B ⟨a_,KN.w.o,ek,by omega,(g.ok.ks _ km).nd,λr5 v5 t5 SH p5 q5 u5=>?_⟩⟩⟩
  have Cs:=jh (o:=.lst v5) SH
  have jX:=ir.trans Cs
  have rm:upd yT r5 (.lst v5) r5 = some (.lst v5):=ja
  have rn:=Bz Cs u5
  generalize upd yT r5 (.lst v5) = H15 at jX rm rn
  clear Cs u5 SH
  refine ⟨_,a_,_,a_,xa3 pr be vs os p.ns ⟨a_,jX _ _ gO,zh jX gP,(oH.same jX).be.1,jU,λr6 v6 Lf A2 H16 SI yU h6 o6 KO p6 q6=>?_⟩⟩
  have ew:t5 = Lf.map yh:=RT p5 q5 ((p6.trans (g.Cp st pp KO km).2).map _) q6
  refine (xa0 _ _ ⟨mG (yU _ _ rm) (Bz yU rn),mG h6 (cD.at_ (yM o6)),yR _,_,a_,?_⟩)
  rw [ew,Ko]
  refine w4 ?_
  have yV:=jX.trans yU
  have SJ:=Cr.same yV
  clear yU rm rn p5 q5 ew SI h6 o6 p6 q6
  have lh : B.held.length = Y.n:=(g.ok.ks _ km).h
  refine ⟨_,a_,xa1 W.x W.dx _ ⟨a_,SJ.w.o.ob.1,zq,_,a_,xa5 Z 0 W Y h B ⟨a_,SJ.w.o,ek,by omega,λr3 nr3=>?_⟩⟩⟩
  have SK:=jh (o:=.lst (B.held.map V.int)) nr3
  have mH:=yV.trans SK
  have lLd:=sZ.length_eq
  refine ⟨_,a_,_,a_,xa3 dn be vd Ld p.ns ⟨a_,mH _ _ rl,zh mH (Co jW),(oH.same mH).be.1,(λo ho=>jU.ord o (bk.s o (sZ.mem_iff.mp ho))),by omega,l8,λr4 H18 nr4 KP h18=>?_⟩⟩
  have eh : B.held = bT p.ns Ld:=by
   rw [kx.he]
   exact j3w a_ (λo ho=>by rw [g.nl]; exact kz.hi.ord o ho) (SG.symm.trans sZ.symm)
  refine (xa0 _ _ ⟨wj (af.of (KP _ _ ja)),wj (af.of h18),rX _,_,a_,?_⟩)
  rw [Ei,i? eh]
  exact w4 ⟨_,a_,mH.trans KP⟩
 rintro U Su ⟨w2,rfl,gB⟩
 obtain ⟨h0,eh0⟩ : ∃ h0,p.hs[0]? = some h0:=⟨_,u? ok.h0⟩
 obtain ⟨B0,_,SM⟩:=hk (u_ eh0)
 refine ⟨_,a_,_,a_,xa3 pr be vs os p.ns ⟨a_,gB _ _ gO,zh gB gP,(oH.same gB).be.1,jU,λF l ks Lf A1 yT nF bQ hF el up mem lk bk1 p1=>?_⟩⟩
 refine (xa1 F l ks ⟨a_,hF,el,by omega,up,λq nq=>?_⟩)
 have mI:=(gB.trans bQ).trans (jh (o:=.lst (ks.map V.int)) nq)
 have yW:upd yT q (.lst (ks.map V.int)) q = some (.lst (ks.map V.int)):=ja
 generalize upd yT q (.lst (ks.map V.int)) = H13 at mI yW
 refine ⟨_,a_,_,a_,xa3 pr be vs os p.ns ⟨a_,mI _ _ gO,zh mI gP,(oH.same mI).be.1,jU,λr6 v6 Ct A2 H14 SI rj h6 o6 KO p6 q6=>?_⟩⟩
 have pL:Lf.Perm Ct:=(p1.trans (g.Cp st pp bk1 SM).2).trans (p6.trans (g.Cp st pp KO SM).2).symm
 have lv:=q? o6
 have iq : ∀ o ∈ Ct,o ∈ os:=λo ho=>(D_.mp (p6.mem_iff.mp ho)).1
 have l2f:=zl (p6.nodup_iff.mpr (pp.nd.filter _)) iq
 refine ⟨r6,a_,⟨_,af.of h6⟩,pF (K:=K) (a:=r6) (xs:=v6) (λi ys U' H'=>∃ v,U' = [v] /\ H' = H14 /\ ys = ((Ct.take i).map (·.p)).map V.int) ⟨none,a_,a_,a_⟩ ?_ ?_ ?_⟩
 .rintro i ys U' H' hi ⟨v,rfl,rfl,rfl⟩
  refine ⟨af.of h6,iG ?_⟩
  rw [g_,g_,Ñ]
  omega
 .rintro i x ys U' H' hx ⟨v,rfl,rfl,rfl⟩
  obtain ⟨o,eo,c,rfl,hc⟩:=qC o6 hx
  refine Jh ⟨_,a_,xa2 c (bO o) 0 (.int o.p) ⟨a_,a_,az.of hc,a_,_,a_,a_,?_⟩⟩
  rw [take_snoc eo,K_,K_]
  rfl
 rintro ys U' H' ⟨v,rfl,rfl,rfl⟩ r7 nr7
 rw [lv,Z_]
 refine (xa0 r7 (Ct.map (·.p)) ⟨a_,af.of ja,(λz hz=>?_),λq2 js nq2 bJ yX=>?_⟩)
 .obtain ⟨o,ho,rfl⟩:=H?.mp hz
  have:=qc.mp (jU.ord o (iq o ho))
  omega
 refine (xa0 q2 js ⟨a_,ja,bJ,λq3 nq3=>?_⟩)
 have ej:js.map (λj:i_=>V.int (j:f?)) = (js.map λj:i_=>(j:f?)).map V.int:=by
  rw [aav]
  rfl
 have upj:=(AL 8 js bJ).2.1
 have yY:(js.map λj:i_=>(j:f?)).Pairwise (· < ·):=à _ (λa b cV=>by omega) upj
 have ek:ks = js.map λj:i_=>(j:f?):=by
  refine Ď (λa b _ _ h1 h2=>by omega) up yY (Cc (up.imp λh z=>by omega) (yY.imp λh z=>by omega) λk=>?_)
  rw [mem k]
  constructor
  .rintro ⟨o,ho,rfl⟩
   have h0:=(qc.mp (jU.ord o (iq o (pL.mem_iff.mp ho)))).1
   exact H?.mpr ⟨o.p.toNat,(yX _).mpr (by rw [Đ h0]; exact Q? (pL.mem_iff.mp ho)),Đ h0⟩
  .intro hk
   obtain ⟨j,hj,rfl⟩:=H?.mp hk
   obtain ⟨o,ho,e⟩:=H?.mp ((yX j).mp hj)
   exact ⟨o,pL.mem_iff.mpr ho,e⟩
 rw [ej]
 refine (xa0 _ _ ⟨wj (af.of (jh nq3 _ _ (jh nq2 _ _ (jh nr7 _ _ (rj _ _ yW))))),wj (af.of ja),rX _,?_⟩)
 rw [Ei,i? ek]
 exact k _
end
noncomputable abbrev aN (K:e?)(x:y?)(v:g? b_):Prop:=ae4 K î x=some v
noncomputable abbrev aF (K:e?)(a:c_)(x:y?)(v:g? b_):Prop:=J_ K (.ref a) x=some v
noncomputable abbrev aL (K:e?)(f:c_)(n q:y?)(s:K?)(oc:b_)(od:g? c_)(kV dc pm:b_)(an:g? c_)(cd ct:b_)(sl:E? (g? b_)):Prop:=K.lookup f=some ⟨oc,od,.func (Ă n q (rN s) (iC s) (jt s) .none kV dc pm an cd ct),sl⟩
noncomputable abbrev aC (K:e?)(q:b_)(s:y?):Prop:=aae K q s=true
noncomputable abbrev aK (K:e?)(f:c_):Prop:=ã K (.ref f)=true
noncomputable abbrev aI (K:e?)(f:c_):Prop:=aaJ K (.ref f)=true
noncomputable abbrev aR (K:e?)(s:y?)(f:c_):Prop:=aN K s (some (.ref f))
noncomputable abbrev aG (K:e?)(c:c_)(s:y?)(f:c_):Prop:=aF K c s (some (.ref f))
noncomputable abbrev aM (K:e?)(f:c_)(n:y?)(s:K?)(oc:b_)(od:g? c_)(kV dc pm:b_)(an:g? c_)(cd ct:b_)(sl:E? (g? b_)):Prop:=aL K f n n s oc od kV dc pm an cd ct sl
set_option maxHeartbeats 4000000 in
set_option autoImplicit true in
set_option relaxedAutoImplicit true in
theorem all_mk {l:W.OpenLaw} {w:World} {K:W.Frag} {h:Heap} {mg:Str -> Option Value} {fa:Addr} (X:K.In h) (G:h.Ns mainGlobals mg) (hfa:mg "law" = some (.ref fa))
 {q2 q3 q4 q5 q6 q7:Value}
 (cm0:aR K "Board" iu)
 (cg0:W.plainGet K iu Str.empty = true) (ch0:W.hasDictIn K iu = true) (co0:W.plainOver K iu = true) (cs0:aF K iu "__setattr__" (some (.builtin "object.__setattr__")))
 (cn0_0:aF K iu "enough" none)
 (cn0_1:aF K iu "signers" none)
 (cm1:aR K "Keeper" cu)
 (cg1:W.plainGet K cu Str.empty = true) (ch1:W.hasDictIn K cu = true) (co1:W.plainOver K cu = true) (cs1:aF K cu "__setattr__" (some (.builtin "object.__setattr__")))
 (cn1_0:aF K cu "held" none)
 (cn1_1:aF K cu "next_numbers" none)
 (cn1_2:aF K cu "done" none)
 (cn1_3:aF K cu "heard" none)
 (cn1_4:aF K cu "unvoted" none)
 (cn1_5:aF K cu "choices" none)
 (cn1_6:aF K cu "waiting" none)
 (cm2:aR K "World" bp)
 (cg2:W.plainGet K bp Str.empty = true) (ch2:W.hasDictIn K bp = true) (co2:W.plainOver K bp = true) (cs2:aF K bp "__setattr__" (some (.builtin "object.__setattr__")))
 (cn2_0:aF K bp "purses" none)
 (cn2_1:aF K bp "total" none)
 (cn2_2:aF K bp "lying" none)
 (cn2_3:aF K bp "cheating" none)
 (cn2_4:aF K bp "keepers" none)
 (cn2_5:aF K bp "board" none)
 (cn2_6:aF K bp "asked" none)
 (cn2_7:aF K bp "on_way" none)
 (cm3:aR K "Book" fe)
 (cg3:W.plainGet K fe Str.empty = true) (ch3:W.hasDictIn K fe = true) (co3:W.plainOver K fe = true) (cs3:aF K fe "__setattr__" (some (.builtin "object.__setattr__")))
 (cn3_0:aF K fe "held" none)
 (cn3_1:aF K fe "next_numbers" none)
 (cn3_2:aF K fe "done" none)
 (xm0:aR K "NoPurse" eG)
 (xm1:aR K "TooMuch" iw)
 (xm2:aR K "NotNow" iy)
 (xm3:aR K "PurseError" oJ)
 (xm4:aR K "BadCut" Cu)
 (xm5:aR K "BadText" Cv)
 (xm6:aR K "BadPaper" Cw)
 (xm7:aR K "NoHouse" Cy)
 (xm8:aR K "NoLetter" Cz)
 (xm9:aR K "BadNumber" CA)
 (xm10:aR K "BadOrder" mJ)
 (xm11:aR K "BadHouses" mK)
 (a0:aR K "is_whole" f0)
 (l0:au K "is_whole" "is_whole" AQ f0 dd0)
 (a1:aR K "is_between" f1)
 (l1:aM K f1 "is_between" AR o1 r1 v1 d1 p1 s1 q1 t1 u1)
 (c1:aC K q1 "is_between") (k1:aK K f1)
 (a2:aR K "is_order" f2)
 (l2:aM K f2 "is_order" AS o2 r2 (.ref kd2) d2 p2 s2 q2 t2 u2)
 (c2:aC K q2 "is_order") (k2:aK K f2)
 (e2:W.nsIn K kd2 "purses" = some (some (.int 8 kt2)))
 (a3:aR K "place_of" f3)
 (l3:aM K f3 "place_of" AU o3 r3 v3 d3 p3 s3 q3 t3 u3)
 (c3:aC K q3 "place_of") (k3:aK K f3)
 (a4:aR K "are_rising" f4)
 (l4:aM K f4 "are_rising" wB o4 r4 v4 d4 p4 s4 q4 t4 u4)
 (c4:aC K q4 "are_rising") (k4:aK K f4)
 (a5:aR K "is_rising_row" f5)
 (l5:aM K f5 "is_rising_row" AV o5 r5 v5 d5 p5 s5 q5 t5 u5)
 (c5:aC K q5 "is_rising_row") (k5:aK K f5)
 (a6:aR K "is_house_count" f6)
 (l6:aM K f6 "is_house_count" ki o6 r6 v6 d6 p6 s6 q6 t6 u6)
 (c6:aC K q6 "is_house_count") (k6:aK K f6)
 (a7:aR K "is_few" f7)
 (l7:aM K f7 "is_few" AW o7 r7 v7 d7 p7 s7 q7 t7 u7)
 (c7:aC K q7 "is_few") (k7:aK K f7)
 (a8:aR K "outnumber" f8)
 (l8:aM K f8 "outnumber" Fl o8 r8 v8 d8 p8 s8 q8 t8 u8)
 (c8:aC K q8 "outnumber") (k8:aK K f8)
 (a9:aR K "enough_of" f9)
 (l9:aM K f9 "enough_of" Fm o9 r9 v9 d9 p9 s9 q9 t9 u9)
 (c9:aC K q9 "enough_of") (k9:aK K f9)
 (a10:aR K "are_sums" KQ)
 (l10:au K "are_sums" "are_sums" AX KQ D10)
 (a11:aR K "are_first_sums" KR)
 (l11:au K "are_first_sums" "are_first_sums" kl KR D11)
 (a12:aG K eG "__init__" dU)
 (l12:au K "__init__" "NoPurse.__init__" vf dU D12)
 (xrn12:AA K eG dU = true) (xd12a:aF K eG "__setattr__" (some (.builtin "object.__setattr__"))) (xd12b:aF K eG "__getattribute__" (some (.builtin "BaseException.__getattribute__"))) (xd12c:aF K eG "__getattr__" none) (xd12d:aF K eG "purse" none)
 (a13:aR K "check_houses" KS)
 (l13:aM K KS "check_houses" Fo o13 r13 v13 d13 p13 s13 q13 t13 u13)
 (c13:aC K q13 "check_houses") (k13:aK K KS)
 (a14:aR K "check_purses" qR)
 (l14:aM K qR "check_purses" Fp o14 r14 v14 d14 p14 rj q14 t14 u14)
 (c14:aC K q14 "check_purses") (k14:aK K qR)
 (a15:aG K iu "__init__" lC) (n15:aI K lC)
 (mk15:W.makesIn K iu = true) (mq15:aK K iu)
 (l15:au K "__init__" "Board.__init__" kh lC D15)
 (a16:aG K iu "is_carried" CB) (n16:aI K CB)
 (l16:au K "is_carried" "Board.is_carried" vm CB D16)
 (a17:aG K iu "put" my) (n17:aI K my)
 (l17:au K "put" "Board.put" wC my D17)
 (a18:aG K iu "carried" CC) (n18:aI K CC)
 (l18:au K "carried" "Board.carried" AY CC D18)
 (a19:aG K fe "__init__" zA) (n19:aI K zA)
 (mk19:W.makesIn K fe = true) (mq19:aK K fe)
 (l19:au K "__init__" "Book.__init__" vq zA D19)
 (a20:aG K fe "is_past" zB) (n20:aI K zB)
 (l20:au K "is_past" "Book.is_past" gz zB D20)
 (a21:aG K fe "is_due" zC) (n21:aI K zC)
 (l21:au K "is_due" "Book.is_due" wD zC D21)
 (a22:aG K fe "settle" zE) (n22:aI K zE)
 (l22:au K "settle" "Book.settle" wF zE D22)
 (a23:aG K cu "__init__" CD) (n23:aI K CD)
 (mk23:W.makesIn K cu = true) (mq23:aK K cu)
 (l23:au K "__init__" "Keeper.__init__" wq CD D23)
 (a24:aG K cu "left_of" CF) (n24:aI K CF)
 (l24:au K "left_of" "Keeper.left_of" kc CF D24)
 (a25:aG K cu "give_votes" CG) (n25:aI K CG)
 (l25:au K "give_votes" "Keeper.give_votes" xo CG D25)
 (a26:aG K cu "first_due" CH) (n26:aI K CH)
 (l26:au K "first_due" "Keeper.first_due" yb CH D26)
 (a27:aG K cu "go_on" CI) (n27:aI K CI)
 (l27:au K "go_on" "Keeper.go_on" gs CI D27)
 (a28:aG K cu "hear" CJ) (n28:aI K CJ)
 (l28:au K "hear" "Keeper.hear" AZ CJ D28)
 (a29:aG K cu "take_paper" CK) (n29:aI K CK)
 (l29:au K "take_paper" "Keeper.take_paper" yy CK D29)
 (a30:aG K bp "__init__" CL) (n30:aI K CL)
 (mk30:W.makesIn K bp = true) (mq30:aK K bp)
 (l30:aL K CL "__init__" "World.__init__" Fq o30 r30 v30 d30 p30 s30 q30 t30 u30)
 (c30:aC K q30 "World.__init__") (k30:aK K CL)
 (a31:aG K bp "letters" CM) (n31:aI K CM)
 (l31:au K "letters" "World.letters" A0 CM D31)
 (a32:aG K bp "honest" CN) (n32:aI K CN)
 (l32:au K "honest" "World.honest" A3 CN D32)
 (a33:aG K bp "papers" CO) (n33:aI K CO)
 (l33:au K "papers" "World.papers" A4 CO D33)
 (a34:aG K bp "keeper_of" CP) (n34:aI K CP)
 (l34:au K "keeper_of" "World.keeper_of" gc CP D34)
 (a35:aG K bp "sums" CQ) (n35:aI K CQ)
 (l35:au K "sums" "World.sums" A5 CQ D35)
 (a36:aG K bp "settled" CS) (n36:aI K CS)
 (l36:au K "settled" "World.settled" A6 CS D36)
 (a37:aG K bp "waits" CT) (n37:aI K CT)
 (l37:au K "waits" "World.waits" A7 CT D37)
 (a38:aG K bp "check_purse" CU) (n38:aI K CU)
 (l38:au K "check_purse" "World.check_purse" yz CU D38)
 (a39:aG K bp "check_asker" CV) (n39:aI K CV)
 (l39:au K "check_asker" "World.check_asker" y4 CV D39)
 (a40:aG K bp "check_order" CW) (n40:aI K CW)
 (l40:au K "check_order" "World.check_order" y0 CW D40)
 (a41:aG K bp "check_liar" CY) (n41:aI K CY)
 (l41:au K "check_liar" "World.check_liar" vh CY D41)
 (a42:aG K bp "write_to_all" CZ) (n42:aI K CZ)
 (l42:au K "write_to_all" "World.write_to_all" zy CZ D42)
 (a43:aG K bp "put_votes" C0) (n43:aI K C0)
 (l43:au K "put_votes" "World.put_votes" yk C0 D43)
 (a44:aG K bp "ask" C1) (n44:aI K C1)
 (l44:au K "ask" "World.ask" wG C1 D44)
 (a45:aG K bp "cheat" C2) (n45:aI K C2)
 (l45:au K "cheat" "World.cheat" A8 C2 D45)
 (a46:aG K bp "lie" C3) (n46:aI K C3)
 (l46:au K "lie" "World.lie" A9 C3 D46)
 (a47:aG K bp "show" C4) (n47:aI K C4)
 (l47:au K "show" "World.show" Ba C4 D47)
 (a48:aG K bp "come" C5) (n48:aI K C5)
 (l48:au K "come" "World.come" wH C5 D48)
 (a49:aG K bp "is_still" C6) (n49:aI K C6)
 (l49:au K "is_still" "World.is_still" kj C6 D49)
 (a50:aR K "are_orders" KU)
 (l50:aM K KU "are_orders" Fs o50 r50 v50 d50 p50 s50 q50 t50 u50)
 (c50:aC K q50 "are_orders") (k50:aK K KU)
 (a51:aR K "summed" KW)
 (l51:au K "summed" "summed" wI KW D51)
 (a52:aR K "by_place" KY)
 (l52:au K "by_place" "by_place" Bb KY D52)
 (a53:aR K "check_orders" K0)
 (l53:aM K K0 "check_orders" Ft o53 r53 v53 d53 p53 s53 q53 t53 u53)
 (c53:aC K q53 "check_orders") (k53:aK K K0)
 (a54:aR K "due_orders" K1)
 (l54:au K "due_orders" "due_orders" wJ K1 D54)
 (a55:aR K "book_of" K2)
 (l55:aM K K2 "book_of" Bc o55 r55 v55 d55 p55 s55 q55 t55 u55)
 (c55:aC K q55 "book_of") (k55:aK K K2)
 (a56:aR K "left_in" K3)
 (l56:au K "left_in" "left_in" Bd K3 D56)
 (a57:aR K "row_for" K4)
 (l57:aM K K4 "row_for" Fu o57 r57 v57 d57 p57 s57 q57 t57 u57)
 (c57:aC K q57 "row_for") (k57:aK K K4)
 (a58:aR K "left_over" K5)
 (l58:aM K K5 "left_over" Fv o58 r58 v58 d58 p58 s58 q58 t58 u58)
 (c58:aC K q58 "left_over") (k58:aK K K5)
 (a59:aR K "is_row" K6)
 (l59:aM K K6 "is_row" Be o59 r59 v59 d59 p59 s59 q59 t59 u59)
 (c59:aC K q59 "is_row") (k59:aK K K6)
 (a60:aR K "lack_of" K7)
 (l60:au K "lack_of" "lack_of" wK K7 D60)
 (a61:aR K "wanting" K8)
 (l61:aM K K8 "wanting" Bf o61 r61 v61 d61 p61 s61 q61 t61 u61)
 (c61:aC K q61 "wanting") (k61:aK K K8)
 (a62:aR K "_law_town" K9)
 (l62:au K "_law_town" "_law_town" Bg K9 D62)
 (a63:aR K "_law_draw" La)
 (l63:au K "_law_draw" "_law_draw" wL La D63)
 (a64:aR K "_law_pick" Lb)
 (l64:au K "_law_pick" "_law_pick" Bh Lb D64)
 (a65:aR K "_law_refusal" Lc)
 (l65:au K "_law_refusal" "_law_refusal" gp Lc D65)
 (a66:aR K "_law_some" Le)
 (l66:au K "_law_some" "_law_some" wM Le D66)
 (a67:aR K "_law_world" Lg)
 (l67:au K "_law_world" "_law_world" wN Lg D67)
 (a68:aR K "_law_told" Lh)
 (l68:au K "_law_told" "_law_told" wO Lh D68)
 (a69:aR K "_law_letter" Li)
 (l69:au K "_law_letter" "_law_letter" wQ Li D69)
 (a70:aR K "_law_order" Lj)
 (l70:au K "_law_order" "_law_order" wR Lj D70)
 (a71:aR K "_law_go" Lk)
 (l71:au K "_law_go" "_law_go" wU Lk D71)
 (a72:aR K "_law_all_come" Ll)
 (l72:au K "_law_all_come" "_law_all_come" vp Ll D72)
 (a73:aR K "law" Lm)
 (l73:aM K Lm "law" wV o73 r73 v73 d73 p73 s73 q73 t73 u73)
 (c73:aC K q73 "law") (k73:aK K Lm)
 (ih0:aG K cu "is_due" zC)
 (ih1:aG K cu "is_past" zB)
 (ih2:aG K cu "settle" zE)
 (yp0:W.specialIn K (.ref fe) "__getattribute__" = some (some (.builtin "type.__getattribute__"))) (yr0:W.readsIn K fe (.type "type") = true) (yf0:W.findCls K (.ref fe) (.type "type") "__init__" = some (.val (.ref zA)))
 (hgc0:aN K "MOST_MUCH" (some (.int 1000 gt0)))
 (hgc1:aN K "LAST_NUMBER" (some (.int 99 gt1)))
 (hgc2:aN K "PAPER_LETTER" (some (.str "paper" gt2)))
 (hgc3:aN K "ORDER_LETTER" (some (.str "order" gt3)))
 (hgc4:aN K "MOST_HOUSES" (some (.int 16 gt4)))
 (hgc5:aN K "MOST_FEW" (some (.int 5 gt5)))
 (hgc6:aN K "MOST_FIRST_SUM" (some (.int 1000 gt6)))
 (hgc7:aN K "LEAST_PURSES" (some (.int 2 gt7)))
 (hgc8:aN K "MOST_PURSES" (some (.int 8 gt8)))
 (xg0:aF K eG "__getattribute__" (some (.builtin "BaseException.__getattribute__"))) (xh0:aF K eG "__getattr__" none) (xj0:aF K eG "__class__" (some (.builtin "object.__class__")))
 (xp0:W.mroIn K eG (.type "BaseException") = some true) (xo0:W.mroIn K eG (.type "object") = some true) (xs0:(W.clsIn K eG).isSome = true)
 (xk0:kinds K (.ref eG) [.ref CA,.ref mJ,.ref mK,.ref Cy,.ref eG,.ref Cz,.ref iy,.ref iw,.ref Cw,.ref Cu,.ref Cv,.ref oJ,.type "ValueError"] = [some false,some false,some false,some false,some true,some false,some false,some false,some false,some false,some false,some true,some true])
 (xc0_0:W.kitCls K (.ref eG) (.ref oJ) = some true)
 (xr1:W.excIn K iw uQ "ValueError.__new__" = true)
 (xg1:aF K iw "__getattribute__" (some (.builtin "BaseException.__getattribute__"))) (xh1:aF K iw "__getattr__" none) (xj1:aF K iw "__class__" (some (.builtin "object.__class__")))
 (xp1:W.mroIn K iw (.type "BaseException") = some true) (xo1:W.mroIn K iw (.type "object") = some true) (xs1:(W.clsIn K iw).isSome = true)
 (xk1:kinds K (.ref iw) [.ref CA,.ref mJ,.ref mK,.ref Cy,.ref eG,.ref Cz,.ref iy,.ref iw,.ref Cw,.ref Cu,.ref Cv,.ref oJ,.type "ValueError"] = [some false,some false,some false,some false,some false,some false,some false,some true,some false,some false,some false,some true,some true])
 (xc1_0:W.kitCls K (.ref iw) (.ref oJ) = some true)
 (xr2:W.excIn K iy uQ "ValueError.__new__" = true)
 (xg2:aF K iy "__getattribute__" (some (.builtin "BaseException.__getattribute__"))) (xh2:aF K iy "__getattr__" none) (xj2:aF K iy "__class__" (some (.builtin "object.__class__")))
 (xp2:W.mroIn K iy (.type "BaseException") = some true) (xo2:W.mroIn K iy (.type "object") = some true) (xs2:(W.clsIn K iy).isSome = true)
 (xk2:kinds K (.ref iy) [.ref CA,.ref mJ,.ref mK,.ref Cy,.ref eG,.ref Cz,.ref iy,.ref iw,.ref Cw,.ref Cu,.ref Cv,.ref oJ,.type "ValueError"] = [some false,some false,some false,some false,some false,some false,some true,some false,some false,some false,some false,some true,some true])
 (xc2_0:W.kitCls K (.ref iy) (.ref oJ) = some true)
 (xb0:W.mroIn K oJ (.type "BaseException") = some true)
 (z0:aN K "isinstance" none)
 (z1:aN K "bool" none)
 (z2:aN K "int" none)
 (z3:aN K "len" none)
 (z4:aN K "tuple" none)
 (z5:aN K "sorted" none)
 (z6:aN K "list" none)
 (z7:aN K "sum" none)
 (z8:aN K "max" none)
 (z9:aN K "all" none)
 (z10:aN K "range" none)
 (z11:aN K "ValueError" none)
 (z12:aN K "enumerate" none)
 (z13:aN K "min" none)
 (z14:aN K "set" none) :
 ∃ fd:FuncData,(∀ (s:Shared) (v:Value),BindsTo s fd ⟨[v],[]⟩ [("_law_script",v)]) /\ ∀ base:Heap,K.In base -> base.Ns mainGlobals mg -> zv l.prog w K mg base CX0 12 fa fd ["_law_script"] (j3p K):=by
 have T:Txt K mg ⟨f0,_,f1,_,f2,_,f3,_,f4,_,f5,_,f6,_,f7,_,f8,_,f9,_,KQ,_,KR,_,dU,_,KS,_,qR,_,lC,_,CB,_,my,_,CC,_,zA,_,zB,_,zC,_,zE,_,CD,_,CF,_,CG,_,CH,_,CI,_,CJ,_,CK,_,CL,_,CM,_,CN,_,CO,_,CP,_,CQ,_,CS,_,CT,_,CU,_,CV,_,CW,_,CY,_,CZ,_,C0,_,C1,_,C2,_,C3,_,C4,_,C5,_,C6,_,KU,_,KW,_,KY,_,K0,_,K1,_,K2,_,K3,_,K4,_,K5,_,K6,_,K7,_,K8,_,K9,_,La,_,Lb,_,Lc,_,Le,_,Lg,_,Lh,_,Li,_,Lj,_,Lk,_,Ll,_,Lm,_,iu,cu,bp,fe,eG,iw,iy,oJ,Cu,Cv,Cw,Cy,Cz,CA,mJ,mK⟩:=⟨l0,
W.mg_of X G a0,
dS l0,
ji (st:=AR) l1 c1 k1,
W.mg_of X G a1,
hU (ji (st:=AR) l1 c1 k1),
ji (st:=AS) l2 c2 k2,
W.mg_of X G a2,
jG λ_ _ _=>.of_eq rfl,
⟨_,V9 e2 rfl rfl rfl rfl rfl rfl rfl (by decide +kernel)⟩,
ji (st:=AU) l3 c3 k3,
W.mg_of X G a3,
dS (ji (st:=AU) l3 c3 k3),
ji (st:=wB) l4 c4 k4,
W.mg_of X G a4,
bY (ji (st:=wB) l4 c4 k4),
ji (st:=AV) l5 c5 k5,
W.mg_of X G a5,
bY (ji (st:=AV) l5 c5 k5),
ji (st:=ki) l6 c6 k6,
W.mg_of X G a6,
dS (ji (st:=ki) l6 c6 k6),
ji (st:=AW) l7 c7 k7,
W.mg_of X G a7,
dS (ji (st:=AW) l7 c7 k7),
ji (st:=Fl) l8 c8 k8,
W.mg_of X G a8,
jG λ_ _ _=>.of_eq rfl,
ji (st:=Fm) l9 c9 k9,
W.mg_of X G a9,
jG λ_ _ _=>.of_eq rfl,
l10,
W.mg_of X G a10,
dS l10,
l11,
W.mg_of X G a11,
dS l11,
l12,
⟨xrn12,a12,xd12a,xd12b,xd12c,xd12d⟩,
bY l12,
ji (st:=Fo) l13 c13 k13,
W.mg_of X G a13,
YZ λ_ _ _ _=>.of_eq rfl,
ji (st:=Fp) l14 c14 k14,
W.mg_of X G a14,
jG λ_ _ _=>.of_eq rfl,
l15,
⟨a15,n15,l15.kp⟩,
⟨mk15,a15,n15,mq15⟩,
bY l15,
l16,
⟨a16,n16,l16.kp⟩,
bY l16,
l17,
⟨a17,n17,l17.kp⟩,
hU l17,
l18,
⟨a18,n18,l18.kp⟩,
dS l18,
l19,
⟨a19,n19,l19.kp⟩,
⟨mk19,a19,n19,mq19⟩,
bY l19,
l20,
⟨a20,n20,l20.kp⟩,
bY l20,
l21,
⟨a21,n21,l21.kp⟩,
bY l21,
l22,
⟨a22,n22,l22.kp⟩,
bY l22,
l23,
⟨a23,n23,l23.kp⟩,
⟨mk23,a23,n23,mq23⟩,
bY l23,
l24,
⟨a24,n24,l24.kp⟩,
hU l24,
l25,
⟨a25,n25,l25.kp⟩,
dS l25,
l26,
⟨a26,n26,l26.kp⟩,
dS l26,
l27,
⟨a27,n27,l27.kp⟩,
dS l27,
l28,
⟨a28,n28,l28.kp⟩,
bY l28,
l29,
⟨a29,n29,l29.kp⟩,
bY l29,
ji (st:=Fq) l30 c30 k30,
⟨a30,n30,k30⟩,
⟨mk30,a30,n30,mq30⟩,
⟨λs us ws _ hl=>match us,ws,hl with | [_,_],[_,_,_,_],_=>.of_eq rfl,λ{vs us zs ws} r1 r2=>YO r1 r2⟩,
l31,
⟨a31,n31,l31.kp⟩,
dS l31,
l32,
⟨a32,n32,l32.kp⟩,
dS l32,
l33,
⟨a33,n33,l33.kp⟩,
dS l33,
l34,
⟨a34,n34,l34.kp⟩,
bY l34,
l35,
⟨a35,n35,l35.kp⟩,
bY l35,
l36,
⟨a36,n36,l36.kp⟩,
bY l36,
l37,
⟨a37,n37,l37.kp⟩,
bY l37,
l38,
⟨a38,n38,l38.kp⟩,
bY l38,
l39,
⟨a39,n39,l39.kp⟩,
hU l39,
l40,
⟨a40,n40,l40.kp⟩,
bY l40,
l41,
⟨a41,n41,l41.kp⟩,
bY l41,
l42,
⟨a42,n42,l42.kp⟩,
hU l42,
l43,
⟨a43,n43,l43.kp⟩,
hU l43,
l44,
⟨a44,n44,l44.kp⟩,
YX l44,
l45,
⟨a45,n45,l45.kp⟩,
hU l45,
l46,
⟨a46,n46,l46.kp⟩,
hU l46,
l47,
⟨a47,n47,l47.kp⟩,
hU l47,
l48,
⟨a48,n48,l48.kp⟩,
bY l48,
l49,
⟨a49,n49,l49.kp⟩,
dS l49,
ji (st:=Fs) l50 c50 k50,
W.mg_of X G a50,
jG λ_ _ _=>.of_eq rfl,
l51,
W.mg_of X G a51,
bY l51,
l52,
W.mg_of X G a52,
dS l52,
ji (st:=Ft) l53 c53 k53,
W.mg_of X G a53,
jG λ_ _ _=>.of_eq rfl,
l54,
W.mg_of X G a54,
bY l54,
ji (st:=Bc) l55 c55 k55,
W.mg_of X G a55,
jG λ_ _ _=>.of_eq rfl,
l56,
W.mg_of X G a56,
bY l56,
ji (st:=Fu) l57 c57 k57,
W.mg_of X G a57,
jG λ_ _ _=>.of_eq rfl,
ji (st:=Fv) l58 c58 k58,
W.mg_of X G a58,
jG λ_ _ _=>.of_eq rfl,
ji (st:=Be) l59 c59 k59,
W.mg_of X G a59,
jG λ_ _ _=>.of_eq rfl,
l60,
W.mg_of X G a60,
hU l60,
ji (st:=Bf) l61 c61 k61,
W.mg_of X G a61,
jG λ_ _ _=>.of_eq rfl,
l62,
W.mg_of X G a62,
dS l62,
l63,
W.mg_of X G a63,
bY l63,
l64,
W.mg_of X G a64,
bY l64,
l65,
W.mg_of X G a65,
dS l65,
l66,
W.mg_of X G a66,
hU l66,
l67,
W.mg_of X G a67,
dS l67,
l68,
W.mg_of X G a68,
YY l68,
l69,
W.mg_of X G a69,
bY l69,
l70,
W.mg_of X G a70,
hU l70,
l71,
W.mg_of X G a71,
hU l71,
l72,
W.mg_of X G a72,
bY l72,
ji (st:=wV) l73 c73 k73,
W.mg_of X G a73,
dS (ji (st:=wV) l73 c73 k73),
⟨_,W.mg_of X G hgc0⟩,
⟨_,W.mg_of X G hgc1⟩,
⟨_,W.mg_of X G hgc2⟩,
⟨_,W.mg_of X G hgc3⟩,
⟨_,W.mg_of X G hgc4⟩,
⟨_,W.mg_of X G hgc5⟩,
⟨_,W.mg_of X G hgc6⟩,
⟨_,W.mg_of X G hgc7⟩,
⟨_,W.mg_of X G hgc8⟩,
W.mg_of X G cm0,
⟨cg0,ch0,co0,cs0⟩,
cn0_0,
cn0_1,
W.mg_of X G cm1,
⟨cg1,ch1,co1,cs1⟩,
cn1_0,
cn1_1,
cn1_2,
cn1_3,
cn1_4,
cn1_5,
cn1_6,
W.mg_of X G cm2,
⟨cg2,ch2,co2,cs2⟩,
cn2_0,
cn2_1,
cn2_2,
cn2_3,
cn2_4,
cn2_5,
cn2_6,
cn2_7,
W.mg_of X G cm3,
⟨cg3,ch3,co3,cs3⟩,
cn3_0,
cn3_1,
cn3_2,
⟨ih0,n21,l21.kp⟩,
⟨ih1,n20,l20.kp⟩,
⟨ih2,n22,l22.kp⟩,
⟨yp0,yr0,yf0,l19.kp⟩,
W.mg_of X G xm0,
W.mg_of X G xm1,
W.mg_of X G xm2,
W.mg_of X G xm3,
W.mg_of X G xm4,
W.mg_of X G xm5,
W.mg_of X G xm6,
W.mg_of X G xm7,
W.mg_of X G xm8,
W.mg_of X G xm9,
W.mg_of X G xm10,
W.mg_of X G xm11,
⟨xg0,xh0,xj0,xp0,xo0,xs0⟩,
xk0,
xc0_0,
xr1,
⟨xg1,xh1,xj1,xp1,xo1,xs1⟩,
xk1,
xc1_0,
xr2,
⟨xg2,xh2,xj2,xp2,xo2,xs2⟩,
xk2,
xc2_0,
xb0,
W.mg_none_of X G z0,
W.mg_none_of X G z1,
W.mg_none_of X G z2,
W.mg_none_of X G z3,
W.mg_none_of X G z4,
W.mg_none_of X G z5,
W.mg_none_of X G z6,
W.mg_none_of X G z7,
W.mg_none_of X G z8,
W.mg_none_of X G z9,
W.mg_none_of X G z10,
W.mg_none_of X G z11,
W.mg_none_of X G z12,
W.mg_none_of X G z13,
W.mg_none_of X G z14⟩
 have e:=hfa.symm.trans T.j9y
 cases e
 exact ⟨_,λs v=>.of_eq rfl,λbase _ _=>j99 T⟩
end M
end
namespace PySem.W.Fast
theorem t:True:=⟨⟩
noncomputable def tw878776737412671306:=t
noncomputable def tw3662211137371212510:=t
noncomputable def tw15013099585891267440:=t
noncomputable def tw2768322555275562974:=t
noncomputable def tw14702889210094583178:=t
noncomputable def tw1704992150867270341:=t
noncomputable def tw10908674763528794558:=t
noncomputable def tw16268339562616500403:=t
noncomputable def tw13701667791043811861:=t
noncomputable def tw4054842224058043758:=t
noncomputable def tw7510245614721770761:=t
noncomputable def tw13702163691581246041:=t
noncomputable def tw16767936068381909413:=t
noncomputable def tw16585147186456044991:=t
noncomputable def tw12835805627193298068:=t
noncomputable def tw13214781838544077717:=t
noncomputable def tw5569928208101690703:=t
noncomputable def tw18325042905968704923:=t
noncomputable def tw3094935844479366924:=t
noncomputable def tw6473526305835817971:=t
noncomputable def tw16885109261939845002:=t
noncomputable def tw5107698832313158450:=t
noncomputable def tw18104088068168693543:=t
noncomputable def tw8685203163632472627:=t
noncomputable def tw3839489839333141573:=t
noncomputable def tw9042914260244956792:=t
noncomputable def tw1828365633397847200:=t
noncomputable def tw13899659536695158163:=t
noncomputable def tw6706240933990387229:=t
noncomputable def tw567065815562730260:=t
noncomputable def tw11238910013643947198:=t
noncomputable def tw1511718630203336155:=t
noncomputable def tw10135743863478451562:=t
noncomputable def tw16169069378693375340:=t
noncomputable def tw15859987858089887477:=t
noncomputable def tw3684621777090817894:=t
noncomputable def tw4473453036048207962:=t
noncomputable def tw1575285179655471292:=t
noncomputable def tw16346039888612459540:=t
noncomputable def tw551954947153771394:=t
noncomputable def tw15878835669733149658:=t
noncomputable def tw15388375406826530930:=t
noncomputable def tw17635497336389911012:=t
noncomputable def tw18137338393885003998:=t
noncomputable def tw2886376292128487867:=t
noncomputable def tw8756627914350001765:=t
noncomputable def tw4397205841189155939:=t
noncomputable def tw7386300145205304202:=t
noncomputable def tw5465331809534516106:=t
noncomputable def tw10758325277787668148:=t
noncomputable def tw13871420167397698971:=t
noncomputable def tw13288936161896154905:=t
noncomputable def tw13542669121810192985:=t
noncomputable def tw7541829453668434713:=t
noncomputable def tw14721673625619872704:=t
noncomputable def tw2114239994959738076:=t
noncomputable def tw595269530836479607:=t
noncomputable def tw12527119133400127059:=t
noncomputable def tw1756057240351457037:=t
noncomputable def tw15493077702958784639:=t
noncomputable def tw6080131003945640869:=t
noncomputable def tw15189285117925575900:=t
noncomputable def tw13863938501106472013:=t
noncomputable def tw1546130616221338266:=t
noncomputable def tw13769019637644680963:=t
noncomputable def tw17239322988274808692:=t
noncomputable def tw12151412214359847426:=t
noncomputable def tw13437363291333638165:=t
noncomputable def tw2111172653950719973:=t
noncomputable def tw17666473582148346884:=t
noncomputable def tw5230305877918757847:=t
noncomputable def tw9290824862961871178:=t
noncomputable def tw5453997272338117696:=t
noncomputable def tw12121986366610027916:=t
noncomputable def tw2569942374392644066:=t
noncomputable def tw15618387255059123960:=t
noncomputable def tw9300313793913914635:=t
noncomputable def tw369115473193475328:=t
noncomputable def tw10462834092278377102:=t
noncomputable def tw8096309039490888525:=t
noncomputable def tw2315895388410650546:=t
noncomputable def tw13773408157737826115:=t
noncomputable def tw2183674009379420665:=t
noncomputable def tw5416057348564482310:=t
noncomputable def tw11246592509103994714:=t
noncomputable def tw7479137776492544710:=t
noncomputable def tw18052973670386096441:=t
noncomputable def tw5959217642328763045:=t
noncomputable def tw3193146749878645730:=t
noncomputable def tw11191730702981229204:=t
noncomputable def tw3209117672773023197:=t
noncomputable def tw14178399408037956701:=t
noncomputable def tw18397881545843892080:=t
noncomputable def tw11404405704193926289:=t
noncomputable def tw7774992188039356751:=t
noncomputable def tw15967568457862675079:=t
noncomputable def tw11421123573301401529:=t
noncomputable def tw1913108249338427850:=t
noncomputable def tw9899273063034836658:=t
noncomputable def tw8445070502300698917:=t
noncomputable def tw13159894807273811566:=t
noncomputable def tw4232190787572854833:=t
noncomputable def tw3700779627327063957:=t
noncomputable def tw1217354298939967786:=t
noncomputable def tw3639217052437645838:=t
noncomputable def tw14563662077054460673:=t
noncomputable def tw12599631406442114992:=t
noncomputable def tw6401174972057683693:=t
noncomputable def tw11327743632204530397:=t
noncomputable def tw11981682211101730685:=t
noncomputable def tw15932510384820777515:=t
noncomputable def tw216561809038654885:=t
noncomputable def tw4945230669029464056:=t
noncomputable def tw10953687573676048977:=t
noncomputable def tw14213094455595342505:=t
noncomputable def tw9995185145581524248:=t
noncomputable def tw17748137232488294165:=t
noncomputable def tw9524233641509619710:=t
noncomputable def tw13701469282918246193:=t
noncomputable def tw7041309448805804299:=t
noncomputable def tw15981591453528947180:=t
noncomputable def tw15331748901853117321:=t
noncomputable def tw2455640672394306852:=t
noncomputable def tw1977176380181291663:=t
noncomputable def tw5799295047192279848:=t
noncomputable def tw14779094156757286921:=t
noncomputable def tw8948296630894515693:=t
noncomputable def tw17577692893990595118:=t
noncomputable def tw7961342404070252844:=t
noncomputable def tw9183932435681638523:=t
noncomputable def tw4376137096564497029:=t
noncomputable def tw12947164630506351238:=t
noncomputable def tw13496408008938374024:=t
noncomputable def tw5575229626316851998:=t
noncomputable def tw2102363784586945657:=t
noncomputable def tw15284982769463030420:=t
noncomputable def tw15470694513851239914:=t
noncomputable def tw6693258291629674736:=t
noncomputable def tw1767731397245264062:=t
noncomputable def tw8435893339332560796:=t
noncomputable def tw6283197281761760840:=t
noncomputable def tw10939882364824964601:=t
noncomputable def tw14902377279094371837:=t
noncomputable def tw4350472431650857871:=t
noncomputable def tw1675352950135142670:=t
noncomputable def tw18150435790702787081:=t
noncomputable def tw17144628975302533507:=t
noncomputable def tw8412950192609078279:=t
noncomputable def tw15989560537636948803:=t
noncomputable def tw18275465523080120315:=t
noncomputable def tw11149687420972107213:=t
noncomputable def tw10789975968832421392:=t
noncomputable def tw3640557025722702526:=t
noncomputable def tw15087352958630894503:=t
noncomputable def tw12374238377089857881:=t
noncomputable def tw5515083416469625861:=t
noncomputable def tw15334242513818209540:=t
noncomputable def tw7670094656370201126:=t
noncomputable def tw15675191539946439346:=t
noncomputable def tw9347521097719715215:=t
noncomputable def tw10359436464377824500:=t
noncomputable def tw14757475890084056351:=t
noncomputable def tw13263433745333944332:=t
noncomputable def tw11636296411419037317:=t
noncomputable def tw3785931633070302519:=t
noncomputable def tw16561902148465065806:=t
noncomputable def tw15649494658504621266:=t
noncomputable def tw9395057180492384884:=t
noncomputable def tw17097715716647529401:=t
noncomputable def tw14054714998940093312:=t
noncomputable def tw8094987270160102266:=t
noncomputable def tw14503377464077364562:=t
noncomputable def tw2765722617837630149:=t
noncomputable def tw12753609711306073678:=t
noncomputable def tw14605408362213114518:=t
noncomputable def tw1970384628101910595:=t
noncomputable def tw5135170449824410712:=t
noncomputable def tw2752746162239304448:=t
noncomputable def tw12490333367753082189:=t
noncomputable def tw1809701539992106118:=t
noncomputable def tw9325524939172083715:=t
noncomputable def tw537111841785553616:=t
noncomputable def tw16816590697023242714:=t
noncomputable def tw10553336947232778068:=t
noncomputable def tw15131393364625473803:=t
noncomputable def tw1845145633083006811:=t
noncomputable def tw12588657959946126853:=t
noncomputable def tw6069961476486354309:=t
noncomputable def tw14329527179267648150:=t
noncomputable def tw6801680747385693200:=t
noncomputable def tw1995448073536752843:=t
noncomputable def tw8933784623592033043:=t
noncomputable def tw6627753314709719295:=t
noncomputable def tw12118429332804564525:=t
noncomputable def tw7997469730258999177:=t
noncomputable def tw8599190986930858564:=t
noncomputable def tw1512502177286516606:=t
noncomputable def tw4822139096792601318:=t
noncomputable def tw8357189807163286546:=t
noncomputable def tw16320783434088712246:=t
noncomputable def tw6712134320479110014:=t
noncomputable def tw6840949124351101153:=t
noncomputable def tw10236958790798407694:=t
noncomputable def tw12011795990891436536:=t
noncomputable def tw15363328145913809014:=t
noncomputable def tw8440627869196141057:=t
noncomputable def tw14234221576736277522:=t
noncomputable def tw12300094188861456017:=t
noncomputable def tw13738770152961767010:=t
noncomputable def tw9070351130238985411:=t
noncomputable def tw12481978346285700507:=t
noncomputable def tw17027642899651051394:=t
noncomputable def tw873037109990851966:=t
noncomputable def tw4548088648429773552:=t
noncomputable def tw7481815518195020567:=t
noncomputable def tw12846242553826638658:=t
noncomputable def tw15277542835386241570:=t
noncomputable def tw10466823494592393074:=t
noncomputable def tw17984222522540274897:=t
noncomputable def tw17595506032126352877:=t
noncomputable def tw18369890961029125074:=t
noncomputable def tw1633337986055523315:=t
noncomputable def tw3837979680898107403:=t
noncomputable def tw12144240854438705795:=t
noncomputable def tw8123208153814082033:=t
noncomputable def tw13476415877666041426:=t
noncomputable def tw6920008668320683023:=t
noncomputable def tw12593747784946640207:=t
noncomputable def tw17032790345782792512:=t
noncomputable def tw574622697621422318:=t
noncomputable def tw10293939038336905283:=t
noncomputable def tw9913972734731032341:=t
noncomputable def tw939870793571263964:=t
noncomputable def tw14409326189475761000:=t
noncomputable def tw10060919910794135206:=t
noncomputable def tw15214526079813929952:=t
noncomputable def tw98874103466718122:=t
noncomputable def tw12946396474639276029:=t
noncomputable def tw4716669192684968111:=t
noncomputable def tw2827320391710921954:=t
noncomputable def tw4038055082930023504:=t
noncomputable def tw5952010176175664624:=t
noncomputable def tw7604034827341468877:=t
noncomputable def tw6481950705400186439:=t
noncomputable def tw8993399781313151753:=t
noncomputable def tw3798090266675635684:=t
noncomputable def tw17139832000241379208:=t
noncomputable def tw1512489419385237876:=t
noncomputable def tw14209545518830398357:=t
noncomputable def tw11501583612461314829:=t
noncomputable def tw838294689728148955:=t
noncomputable def tw1430051539565274303:=t
noncomputable def tw17694188296901354723:=t
noncomputable def tw14947831247485160153:=t
noncomputable def tw11468439179649926819:=t
noncomputable def tw6735103945671988995:=t
noncomputable def tw4816920842166893223:=t
noncomputable def tw388658670843773578:=t
noncomputable def tw341293061423383420:=t
noncomputable def tw14823301918176029223:=t
noncomputable def tw12628966578012916572:=t
noncomputable def tw11919480635484336980:=t
noncomputable def tw8051777892646963263:=t
noncomputable def tw11495109735328018514:=t
noncomputable def tw9589380211717424032:=t
noncomputable def tw10441987346065073334:=t
noncomputable def tw3816976578246539220:=t
noncomputable def tw12656689211424792880:=t
noncomputable def tw17445441362965696238:=t
noncomputable def tw2764487443857851720:=t
noncomputable def tw3441107626033073148:=t
noncomputable def tw1772086684453738272:=t
noncomputable def tw5367997301087247702:=t
noncomputable def tw10180136727945135016:=t
noncomputable def tw1697678562742364871:=t
noncomputable def tw9389120159724861256:=t
noncomputable def tw15194878740404744787:=t
noncomputable def tw1396546527095841238:=t
noncomputable def tw1458778886264068394:=t
noncomputable def tw7264567213004800080:=t
noncomputable def tw14879491173170039190:=t
noncomputable def tw12752642057291585867:=t
noncomputable def tw967133101474222652:=t
noncomputable def tw2077719338199486836:=t
noncomputable def tw18204043541111686327:=t
noncomputable def tw7036411518334877382:=t
noncomputable def tw12175143571780715362:=t
noncomputable def tw3402567553493578322:=t
noncomputable def tw4925188470682648535:=t
noncomputable def tw6644186673882542202:=t
noncomputable def tw13201926698133870676:=t
noncomputable def tw1665521632234282039:=t
noncomputable def tw7128107565857746383:=t
noncomputable def tw975718201162173562:=t
noncomputable def tw3136640358145727011:=t
noncomputable def tw12278181029753053785:=t
noncomputable def tw13529063888051216090:=t
noncomputable def tw13255977778881009713:=t
noncomputable def tw16174260260257700306:=t
noncomputable def tw4622332661858438815:=t
noncomputable def tw2845077471844767161:=t
noncomputable def tw17509189159296770631:=t
noncomputable def tw13081112546512053253:=t
noncomputable def tw2524877700202534253:=t
noncomputable def tw3176814356329257119:=t
noncomputable def tw4918489441418619363:=t
noncomputable def tw15207288907771904605:=t
noncomputable def tw5667985266711425749:=t
noncomputable def tw8946713481869527086:=t
noncomputable def tw15446385324249647567:=t
noncomputable def tw1240082410897368683:=t
noncomputable def tw2918163725258306006:=t
noncomputable def tw17038376386068510723:=t
noncomputable def tw1860701188397825917:=t
noncomputable def tw10530352665784155895:=t
noncomputable def tw8500674236658781519:=t
noncomputable def tw17833609806467000359:=t
noncomputable def tw4163769781816009053:=t
noncomputable def tw13361900404340944814:=t
noncomputable def tw17976283518136734082:=t
noncomputable def tw16219561662706032389:=t
noncomputable def tw8694016001826070990:=t
noncomputable def tw11957760517298224580:=t
noncomputable def tw9342201168451659227:=t
noncomputable def tw9963591209143655223:=t
noncomputable def tw2359826727940605410:=t
noncomputable def tw10020000440784256343:=t
noncomputable def tw17547679428643216457:=t
noncomputable def tw15694009436710104716:=t
noncomputable def tw17592476270196045767:=t
noncomputable def tw4657050901346401520:=t
noncomputable def tw16170370165503822966:=t
noncomputable def tw9672557261434808133:=t
noncomputable def tw14668282944054358257:=t
noncomputable def tw8434973330067042794:=t
noncomputable def tw4408007758133438663:=t
noncomputable def tw17761035120620188084:=t
noncomputable def tw14811304244385714973:=t
noncomputable def tw13943216667973631549:=t
noncomputable def tw10556191653907947230:=t
noncomputable def tw10070764104590702403:=t
noncomputable def tw10780577465706802477:=t
noncomputable def tw10410343348080143920:=t
noncomputable def tw7905408997472412961:=t
noncomputable def tw5789567384216234718:=t
noncomputable def tw18056519754830497606:=t
noncomputable def tw17439316748642222738:=t
noncomputable def tw1476670779352212079:=t
noncomputable def tw10137831440674884939:=t
noncomputable def tw7792998335647744580:=t
noncomputable def tw5305043522876026320:=t
noncomputable def tw14385809472536900756:=t
noncomputable def tw9170458868631946415:=t
noncomputable def tw15266743105008154673:=t
noncomputable def tw9283215613198211970:=t
noncomputable def tw8774224683575213728:=t
noncomputable def tw3454530981207863446:=t
noncomputable def tw9649019228088265082:=t
noncomputable def tw12784793175595460613:=t
noncomputable def tw14976786347702601838:=t
noncomputable def tw11161704653491400640:=t
noncomputable def tw14500639535943229825:=t
noncomputable def tw3639289384836711727:=t
noncomputable def tw2216935798000878757:=t
noncomputable def tw14132901074127877005:=t
noncomputable def tw15983294191319728939:=t
noncomputable def tw13740471418924780623:=t
noncomputable def tw3452593888431332463:=t
noncomputable def tw12954032074866218998:=t
noncomputable def tw1222052118130965881:=t
noncomputable def tw4321713643270131074:=t
noncomputable def tw17559538785114698499:=t
noncomputable def tw17074735149699115376:=t
noncomputable def tw7588021652117222705:=t
noncomputable def tw8540492234629297426:=t
noncomputable def tw16413447607461886510:=t
noncomputable def tw12667869581487669637:=t
noncomputable def tw9657383773187865669:=t
noncomputable def tw4700307379942697021:=t
noncomputable def tw13130665895427647422:=t
noncomputable def tw13253820061631888856:=t
noncomputable def tw4224705406305547434:=t
noncomputable def tw16274414223881236497:=t
noncomputable def tw11450692618749683397:=t
noncomputable def tw7299011321200040847:=t
noncomputable def tw16182368835177975196:=t
noncomputable def tw13468001015324789158:=t
noncomputable def tw6767772771661318056:=t
noncomputable def tw10381928659942385189:=t
noncomputable def tw17453253969412358984:=t
noncomputable def tw16909142136461309374:=t
noncomputable def tw18033479620233653660:=t
noncomputable def tw445418480675826845:=t
noncomputable def tw10486497065661137708:=t
noncomputable def tw18031037558099429839:=t
noncomputable def tw1623381146113932288:=t
noncomputable def tw5240468031927331996:=t
noncomputable def tw3374101587008973764:=t
noncomputable def tw18157032322168634027:=t
noncomputable def tw1537816078183478263:=t
noncomputable def tw13844716686055245304:=t
noncomputable def tw14632417929490461493:=t
noncomputable def tw4230562750762552591:=t
noncomputable def tw3998006559391240544:=t
noncomputable def tw9614863243933733081:=t
noncomputable def tw17877513937070709708:=t
noncomputable def tw14287326387811055312:=t
noncomputable def tw12941178600036252994:=t
noncomputable def tw7008023612395290722:=t
noncomputable def tw2051814939215135793:=t
noncomputable def tw11221438898638479464:=t
noncomputable def tw16997203232221844144:=t
noncomputable def tw16377110269124681296:=t
noncomputable def tw274196802883030576:=t
noncomputable def tw14827084710696369331:=t
noncomputable def tw8198671084130087578:=t
noncomputable def tw15499049727267754683:=t
noncomputable def tw1267659834544141865:=t
noncomputable def tw5231370418387919641:=t
noncomputable def tw11068099021084168965:=t
noncomputable def tw12814530234532746632:=t
noncomputable def tw2780118749896442180:=t
noncomputable def tw15394251472817149883:=t
noncomputable def tw12007909384416234669:=t
noncomputable def tw2804199022768306983:=t
noncomputable def tw17091296485354997367:=t
noncomputable def tw6766858567458831541:=t
noncomputable def tw2316662560058656921:=t
noncomputable def tw7705660563245692177:=t
noncomputable def tw2544451292697450487:=t
noncomputable def tw3880737119261948445:=t
noncomputable def tw1496650732042292539:=t
noncomputable def tw11395705389286875765:=t
noncomputable def tw2139598499113342527:=t
noncomputable def tw5036403536383211892:=t
noncomputable def tw513073458656663669:=t
noncomputable def tw12093353839917384387:=t
noncomputable def tw11661194724467141348:=t
noncomputable def tw14217542986045999681:=t
noncomputable def tw9309827922090808367:=t
noncomputable def tw10877580851799997886:=t
noncomputable def tw18251299309428655715:=t
noncomputable def tw17985038774014579524:=t
noncomputable def tw11323530163014369788:=t
noncomputable def tw7423438990010692996:=t
noncomputable def tw16667831195260021298:=t
noncomputable def tw8888339216182886556:=t
noncomputable def tw2701577759892570845:=t
noncomputable def tw18243752210532066448:=t
noncomputable def tw18032005595324107944:=t
noncomputable def tw7712883577735598965:=t
noncomputable def tw13610719568685338656:=t
noncomputable def tw7290003835793672700:=t
noncomputable def tw8602756648834016871:=t
noncomputable def tw12829334566467122476:=t
noncomputable def tw9757306049791016357:=t
noncomputable def tw18286513074277684633:=t
noncomputable def tw15349370772968338836:=t
noncomputable def tw10336858352521213492:=t
noncomputable def tw1827948598540232145:=t
noncomputable def tw11035491434661462876:=t
noncomputable def tw17447426342136241369:=t
noncomputable def tw11264169850003828724:=t
noncomputable def tw9012905431819436672:=t
noncomputable def tw3792040767201486712:=t
noncomputable def tw18111093498629509735:=t
noncomputable def tw13711947055120059572:=t
noncomputable def tw6567067836123705651:=t
noncomputable def tw15373211052741058730:=t
noncomputable def tw11158290609134201315:=t
noncomputable def tw15428947259814467493:=t
noncomputable def tw5479724833111288305:=t
noncomputable def tw13001393412838003916:=t
noncomputable def tw13155508555109347947:=t
noncomputable def tw14897120103182581574:=t
noncomputable def tw1627921601213436900:=t
noncomputable def tw12586495572009401603:=t
noncomputable def tw643556318280405724:=t
noncomputable def tw3361875230948873738:=t
noncomputable def tw17142341204767770006:=t
noncomputable def tw7245637817969308258:=t
noncomputable def tw9352380621955686009:=t
noncomputable def tw3478878603184034511:=t
noncomputable def tw6734722633818557308:=t
noncomputable def tw13759827055462603910:=t
noncomputable def tw12703283361751502436:=t
noncomputable def tw14482365125002022195:=t
noncomputable def tw3036730640242821208:=t
noncomputable def tw8137821198460597127:=t
noncomputable def tw12858029396479902852:=t
noncomputable def tw466260864659723185:=t
noncomputable def tw15916979180452309017:=t
noncomputable def tw13197338182696265013:=t
noncomputable def tw7922584471473533137:=t
noncomputable def tw11969949274465151205:=t
noncomputable def tw17077876812280436082:=t
noncomputable def tw10246361190930052955:=t
noncomputable def tw4139782547356775550:=t
noncomputable def tw3010747291276563562:=t
noncomputable def tw8419604160124101680:=t
noncomputable def tw15283154701245065038:=t
noncomputable def tw17949818083011266047:=t
noncomputable def tw8949211256429419004:=t
noncomputable def tw15408417160409377394:=t
noncomputable def tw12767165472188604936:=t
noncomputable def tw17162571095619651023:=t
noncomputable def tw262429264846558860:=t
noncomputable def tw1721500400678621561:=t
noncomputable def tw1690459512378738903:=t
noncomputable def tw13334246558814076202:=t
noncomputable def tw16206863687525945729:=t
noncomputable def tw8072407707747366782:=t
noncomputable def tw18421672870329277698:=t
noncomputable def tw1735011688344677505:=t
noncomputable def tw7310872270791347604:=t
noncomputable def tw7850959960940389089:=t
noncomputable def tw4228094253135276787:=t
noncomputable def tw9154979299229365264:=t
noncomputable def tw15560367798294385657:=t
noncomputable def tw13149159669614881228:=t
noncomputable def tw2347795978140208293:=t
noncomputable def tw3916681739422751314:=t
noncomputable def tw14582520306201438285:=t
noncomputable def tw5185454257258992741:=t
noncomputable def tw15514921306998076794:=t
noncomputable def tw14286750467149345893:=t
noncomputable def tw18433220038984477157:=t
noncomputable def tw12136150959033079317:=t
noncomputable def tw13435794822213303972:=t
noncomputable def tw10796005097714870739:=t
noncomputable def tw9493148760933053397:=t
noncomputable def tw15458579049086546549:=t
noncomputable def tw10066881597615608229:=t
noncomputable def tw9285453423794741125:=t
noncomputable def tw3175821737535683216:=t
noncomputable def tw15995370588366717626:=t
noncomputable def tw15207856829394912656:=t
noncomputable def tw14475916331659137731:=t
noncomputable def tw2358771253421584015:=t
noncomputable def tw6152953725454264483:=t
noncomputable def tw12814903047883341875:=t
noncomputable def tw10305542597502845258:=t
noncomputable def tw16808353111108704558:=t
noncomputable def tw13787564234067821044:=t
noncomputable def tw3405492103594358218:=t
noncomputable def tw18174067886603220019:=t
noncomputable def tw14788587164363384087:=t
noncomputable def tw2876244489544949551:=t
noncomputable def tw12116463959054954938:=t
noncomputable def tw18373600946124497295:=t
noncomputable def tw1531468781219907775:=t
noncomputable def tw1564806480290664577:=t
noncomputable def tw7140120320512964359:=t
noncomputable def tw5337159420903924728:=t
noncomputable def tw8634010595997990673:=t
noncomputable def tw15045898310457629930:=t
noncomputable def tw8449446802507437720:=t
noncomputable def tw13226286226176208434:=t
noncomputable def tw1495061592209422964:=t
noncomputable def tw14899299202855409959:=t
noncomputable def tw13786476923713504117:=t
noncomputable def tw1482892089366752103:=t
noncomputable def tw18331020928427818054:=t
noncomputable def tw2924809646869014013:=t
noncomputable def tw17988153442025767674:=t
noncomputable def tw6641051341161424005:=t
noncomputable def tw11350056934559320811:=t
noncomputable def tw14194302460679108355:=t
noncomputable def tw14137230465927697941:=t
noncomputable def tw11250433338212487069:=t
noncomputable def tw12941743940617517677:=t
noncomputable def tw4165720551106189568:=t
noncomputable def tw4690456746793661510:=t
noncomputable def tw17037176916449516772:=t
noncomputable def tw9001579400955923309:=t
noncomputable def tw12693079168264438404:=t
noncomputable def tw9708292640115036034:=t
noncomputable def tw2404734812358945136:=t
noncomputable def tw13615335473844941498:=t
noncomputable def tw6504537265580581684:=t
noncomputable def tw3593186687232657567:=t
noncomputable def tw7438335012962757091:=t
noncomputable def tw5861995212109854532:=t
noncomputable def tw5428719594788960728:=t
noncomputable def tw173047225734437996:=t
noncomputable def tw3020626463933483616:=t
noncomputable def tw12592480735220017976:=t
noncomputable def tw7287453914469439382:=t
noncomputable def tw9360436548238694:=t
noncomputable def tw4411069526979533174:=t
noncomputable def tw16396068068518354930:=t
noncomputable def tw10059786578275367249:=t
noncomputable def tw15169035880251259324:=t
noncomputable def tw2403643667171359422:=t
noncomputable def tw6597952458113679995:=t
noncomputable def tw2577300414230042572:=t
noncomputable def tw17417418356536475716:=t
noncomputable def tw7792673705061956598:=t
noncomputable def tw18435495248370322551:=t
noncomputable def tw5626906859350770651:=t
noncomputable def tw4572140865736848383:=t
noncomputable def tw13735324977829995417:=t
noncomputable def tw6886821682315444464:=t
noncomputable def tw7058401195569887374:=t
noncomputable def tw9944732362872554732:=t
noncomputable def tw6550771599080645997:=t
noncomputable def tw17896038669768636460:=t
noncomputable def tw8224269492158206118:=t
noncomputable def tw216039375773108167:=t
noncomputable def tw3837338956992998567:=t
noncomputable def tw10669263593849761129:=t
noncomputable def tw7379563730350529157:=t
noncomputable def tw3953658529313857:=t
noncomputable def tw14674578272988567928:=t
noncomputable def tw7344225625771014193:=t
noncomputable def tw10514760883270305868:=t
noncomputable def tw17432076432651153344:=t
noncomputable def tw2260170455899648980:=t
noncomputable def tw4370651072543731548:=t
noncomputable def tw11226115521019655356:=t
noncomputable def tw8060790462400683635:=t
noncomputable def tw10977278325922290802:=t
noncomputable def tw7559662086659048123:=t
noncomputable def tw9909398304608663422:=t
noncomputable def tw10690950887877205625:=t
noncomputable def tw16713525885581088189:=t
noncomputable def tw10259501155011448698:=t
noncomputable def tw11207281715481261533:=t
noncomputable def tw10138599964185734190:=t
noncomputable def tw11237215796072260864:=t
noncomputable def tw16282874598623875039:=t
noncomputable def tw4608930165625727308:=t
noncomputable def tw11144624138557848542:=t
noncomputable def tw8111428789551296650:=t
noncomputable def tw15985154875064848677:=t
noncomputable def tw12914427437253870807:=t
noncomputable def tw1501684157499385194:=t
noncomputable def tw17017018988612563155:=t
noncomputable def tw17603864632307601664:=t
noncomputable def tw17980539881084099890:=t
noncomputable def tw13090519492353988867:=t
noncomputable def tw2167383437695045880:=t
noncomputable def tw6592825693748863232:=t
noncomputable def tw4885219371262817590:=t
noncomputable def tw5942169970957997968:=t
noncomputable def tw7480272155639797539:=t
noncomputable def tw8708349099421123940:=t
noncomputable def tw9397395835355829416:=t
noncomputable def tw13405245438273281792:=t
noncomputable def tw4705959130289880594:=t
noncomputable def tw4651554693664467554:=t
noncomputable def tw7383960926038627696:=t
noncomputable def tw3913014246645650596:=t
noncomputable def tw9359750223305692088:=t
noncomputable def tw5186929065719567726:=t
noncomputable def tw2094798498077963665:=t
noncomputable def tw14535660553867498445:=t
noncomputable def tw17294449885338300356:=t
noncomputable def tw11147340189455267168:=t
noncomputable def tw1233322786662592327:=t
noncomputable def tw5979367428164902241:=t
noncomputable def tw14143238228505741926:=t
noncomputable def tw8638683966482759489:=t
noncomputable def tw7231080747879815967:=t
noncomputable def tw15719398209429182004:=t
noncomputable def tw13819522615053738654:=t
noncomputable def tw8681112733076185223:=t
noncomputable def tw2365506599293938621:=t
noncomputable def tw6378064524921898766:=t
noncomputable def tw4022083410188041554:=t
noncomputable def tw2258288433831078158:=t
noncomputable def tw14199450577247735451:=t
noncomputable def tw921881046463095814:=t
noncomputable def tw3740719171233915363:=t
noncomputable def tw1214945558974539027:=t
noncomputable def tw8163638156126032319:=t
noncomputable def tw8649625388038665613:=t
noncomputable def tw7735260540684450080:=t
noncomputable def tw1425931142735455620:=t
noncomputable def tw4905225108224733534:=t
noncomputable def tw6908277920620439835:=t
noncomputable def tw12139213105649506288:=t
noncomputable def tw15768355654662007133:=t
noncomputable def tw298906254158534323:=t
noncomputable def tw3041440332360623692:=t
noncomputable def tw11317850408870884163:=t
noncomputable def tw662788058910309615:=t
noncomputable def tw8671389418647474771:=t
noncomputable def tw14878052986172595689:=t
noncomputable def tw4143357813210175980:=t
noncomputable def tw10207988163305270657:=t
noncomputable def tw4320722284633220084:=t
noncomputable def tw13895194185548583474:=t
noncomputable def tw1518951821598775326:=t
noncomputable def tw4028281728258387101:=t
noncomputable def tw6320578604517005321:=t
noncomputable def tw14356000800011107264:=t
noncomputable def tw1504154191615262947:=t
noncomputable def tw887880687167556977:=t
noncomputable def tw8543768343926197840:=t
noncomputable def tw17740490772376230726:=t
noncomputable def tw14249134061693282944:=t
noncomputable def tw10029602106686009818:=t
noncomputable def tw14970921423031763391:=t
noncomputable def tw12770783104438045485:=t
noncomputable def tw18041644989029801834:=t
noncomputable def tw16418448979935802728:=t
noncomputable def tw13844374049258385253:=t
noncomputable def tw11364623170630618821:=t
noncomputable def tw15732004079599055103:=t
noncomputable def tw4519392274361184496:=t
noncomputable def tw6028078379988537438:=t
noncomputable def tw11381269762734257521:=t
noncomputable def tw17118306891633859333:=t
noncomputable def tw18059292581037072690:=t
noncomputable def tw10642382759687085603:=t
noncomputable def tw10979330604425386769:=t
noncomputable def tw1283671825193667222:=t
noncomputable def tw1396349218620480417:=t
noncomputable def tw16226326629339186210:=t
noncomputable def tw14704596107094455065:=t
noncomputable def tw3256787325675058793:=t
noncomputable def tw17451019171259384436:=t
noncomputable def tw11537385905025819856:=t
noncomputable def tw17546155711888128063:=t
noncomputable def tw6542805919807951294:=t
noncomputable def tw14556504737512623104:=t
noncomputable def tw10216837689214300670:=t
noncomputable def tw11462066875113179132:=t
noncomputable def tw893900692876201811:=t
noncomputable def tw6686697903633055132:=t
noncomputable def tw6702786894670410333:=t
noncomputable def tw3449207915664801879:=t
noncomputable def tw1749884038283420059:=t
noncomputable def tw10989798341986125218:=t
noncomputable def tw1978753647512463654:=t
noncomputable def tw6307929006362914049:=t
noncomputable def tw11306656098010081866:=t
noncomputable def tw15690733855644693448:=t
noncomputable def tw6145057014762916197:=t
noncomputable def tw12876596782280444863:=t
noncomputable def tw8867755029941985042:=t
noncomputable def tw2333281869463826803:=t
noncomputable def tw1353174698887306603:=t
noncomputable def tw5934969391443337807:=t
noncomputable def tw18258009976776354179:=t
noncomputable def tw6487674632280064243:=t
noncomputable def tw14095497309466376055:=t
noncomputable def tw11969503097566947976:=t
noncomputable def tw1550270263965139891:=t
noncomputable def tw12274195689757447964:=t
noncomputable def tw9732571540719045597:=t
noncomputable def tw10386030387794598778:=t
noncomputable def tw4109386572769186448:=t
noncomputable def tw15195735058097582672:=t
noncomputable def tw1073832559147742188:=t
noncomputable def tw2656074564915302731:=t
noncomputable def tw9376192257097405088:=t
noncomputable def tw16742759179696493008:=t
noncomputable def tw9039868304410842495:=t
noncomputable def tw7472340857924866928:=t
noncomputable def tw9795634692326856802:=t
noncomputable def tw7070981336337286443:=t
noncomputable def tw15615166996306545365:=t
noncomputable def tw9671571417627680113:=t
noncomputable def tw11746641601929085617:=t
noncomputable def tw16264946879912723137:=t
noncomputable def tw18307270414769429747:=t
noncomputable def tw5667517222863846268:=t
noncomputable def tw16502728435819832762:=t
noncomputable def tw9925174380847739360:=t
noncomputable def tw1553422438328397402:=t
noncomputable def tw15219295384880623817:=t
noncomputable def tw15424275206775996416:=t
noncomputable def tw18216571150886512458:=t
noncomputable def tw14915972350108730800:=t
noncomputable def tw9430832744888803324:=t
noncomputable def tw7276508851060084003:=t
noncomputable def tw10931525643125577510:=t
noncomputable def tw10120010378013140842:=t
noncomputable def tw3797580446480979867:=t
noncomputable def tw16689932712636772500:=t
noncomputable def tw1269536853350083160:=t
noncomputable def tw17937852969639197250:=t
noncomputable def tw5418910441494120841:=t
noncomputable def tw8861198842260203213:=t
noncomputable def tw6079117695197366146:=t
noncomputable def tw6703570693379255854:=t
noncomputable def tw16754200671175046827:=t
noncomputable def tw2323318800318489820:=t
noncomputable def tw4760811513343222092:=t
noncomputable def tw12443153733104217052:=t
noncomputable def tw8112230232470136229:=t
noncomputable def tw14145542489484677418:=t
noncomputable def tw9945150032280314126:=t
noncomputable def tw9358258382463148441:=t
noncomputable def tw4823310325660926332:=t
noncomputable def tw3626082872175126986:=t
noncomputable def tw553479263424179181:=t
noncomputable def tw1283254728247576440:=t
noncomputable def tw2173907887007283717:=t
noncomputable def tw12466714995820389213:=t
noncomputable def tw15957035577891843207:=t
noncomputable def tw16916732013822325927:=t
noncomputable def tw6228316127460919189:=t
noncomputable def tw6426713696566887211:=t
noncomputable def tw8783572523979899129:=t
noncomputable def tw6521002737854772440:=t
noncomputable def tw1847263750932525414:=t
noncomputable def tw5072726147074430362:=t
noncomputable def tw15546788251779606408:=t
noncomputable def tw12563640345589038063:=t
noncomputable def tw5366422129292802899:=t
noncomputable def tw14384500589092669604:=t
noncomputable def tw1010827669018399563:=t
noncomputable def tw2207110026465797694:=t
noncomputable def tw13052875604977914615:=t
noncomputable def tw7328720284158645363:=t
noncomputable def tw10651603792051516952:=t
noncomputable def tw6882238485895981227:=t
noncomputable def tw17629965483527843099:=t
noncomputable def tw5668840169660143303:=t
noncomputable def tw14007532601426241210:=t
noncomputable def tw4156737913851131675:=t
noncomputable def tw1754668533339954028:=t
noncomputable def tw9358086021284459875:=t
noncomputable def tw161792963854245243:=t
noncomputable def tw13339272338847493604:=t
noncomputable def tw12349666381284115117:=t
noncomputable def tw6354233922198488023:=t
noncomputable def tw4654385144047416847:=t
noncomputable def tw6202943630709875490:=t
noncomputable def tw4474649719859782566:=t
noncomputable def tw12691849804376550992:=t
noncomputable def tw16950633830088022123:=t
noncomputable def tw2428692044567858949:=t
noncomputable def tw2794163754041575805:=t
noncomputable def tw13275224543265133513:=t
noncomputable def tw5042259294465810873:=t
noncomputable def tw11979399671966763417:=t
noncomputable def tw6043079988806847479:=t
noncomputable def tw5744205478081081835:=t
noncomputable def tw16827357654098255641:=t
noncomputable def tw11743271311840772367:=t
noncomputable def tw10957498305900976083:=t
noncomputable def tw8583945099238333711:=t
noncomputable def tw15078905784480181516:=t
noncomputable def tw13638614753408250613:=t
noncomputable def tw16865953629553923593:=t
noncomputable def tw10451877410054527607:=t
noncomputable def tw15089153217445511739:=t
noncomputable def tw12702779055852788430:=t
noncomputable def tw4560301504913208031:=t
noncomputable def tw9256637225163328266:=t
noncomputable def tw13873086755581370620:=t
noncomputable def tw7481733883217393118:=t
noncomputable def tw3930495962663195799:=t
noncomputable def tw5343275722928384750:=t
noncomputable def tw8540071676546871200:=t
noncomputable def tw6787981488211553252:=t
noncomputable def tw18234945961929553447:=t
noncomputable def tw8198192264923285262:=t
noncomputable def tw8470181755262971577:=t
noncomputable def tw12613715759736525484:=t
noncomputable def tw5875635214748316743:=t
noncomputable def tw4170379802945963160:=t
noncomputable def tw5607280099645846577:=t
noncomputable def tw5716388639575900527:=t
noncomputable def tw9510738788165610262:=t
noncomputable def tw12033367248545569630:=t
noncomputable def tw12515991538976180903:=t
noncomputable def tw4687678799952069655:=t
noncomputable def tw12771427727075361689:=t
noncomputable def tw9863471268970268315:=t
noncomputable def tw892919302531596157:=t
noncomputable def tw15179863942082963526:=t
noncomputable def tw1660865332209152263:=t
noncomputable def tw10134708815891643188:=t
noncomputable def tw6290884356312899634:=t
noncomputable def tw8495176911442702526:=t
noncomputable def tw2400309199149513852:=t
noncomputable def tw10790736336898906022:=t
noncomputable def tw13624555851725562995:=t
noncomputable def tw7199370999256702410:=t
noncomputable def tw17611359646001045832:=t
noncomputable def tw15409205923262993429:=t
noncomputable def tw8530007296725966128:=t
noncomputable def tw1634529304220650116:=t
noncomputable def tw14317919867766757774:=t
noncomputable def tw8676642006953878662:=t
noncomputable def tw13649467410537311662:=t
noncomputable def tw7495482034913286887:=t
noncomputable def tw1241014130221779472:=t
noncomputable def tw11879985230767352519:=t
noncomputable def tw617564188384864045:=t
noncomputable def tw13816022121681410645:=t
noncomputable def tw18102417960883745752:=t
noncomputable def tw2804670340210041988:=t
noncomputable def tw3382297850649615147:=t
end PySem.W.Fast
open PySem PySem.W PyProof.Rows
set_option maxRecDepth 100000 in
set_option maxHeartbeats 0 in
theorem PySem.Challenge.cw_manypurses_k20_whole_world_audits_holds : PySem.Challenge.rw_manypurses_k20_whole_world_audits.Holds := by
  w_on; o_law; k_head; (case hw=>w_witness2)
  k_fill
  refine L2.j5m (l:=PySem.Challenge.rw_manypurses_k20_whole_world_audits) (n:=63) (k:=12) (x := "_law_script") (CX:=L2.CX0) (sp:=M.j3p) rfl (by decide) rfl ⟨rfl,by decide,by decide⟩ (fun w h Y=>PySem.W.kIn_of Y) ?F ?S ?C
  case F=>
    intro w mg fa h KX G hmg
    refine' M.all_mk KX G hmg ..
    iterate 93 (show _ = _; k_is)
    iterate 1 (show _ = _; kernel_rfl)
    iterate 144 (show _ = _; k_is)
    iterate 3 (show _ = _; kernel_rfl)
    iterate 14 (show _ = _; k_is)
    iterate 4 (show _ = _; kernel_rfl)
    iterate 5 (show _ = _; k_is)
    iterate 4 (show _ = _; kernel_rfl)
    iterate 5 (show _ = _; k_is)
    iterate 3 (show _ = _; kernel_rfl)
    iterate 16 (show _ = _; k_is)
    iterate 54 (show L2.au _ _ _ _ _ _;refine' L2.ji ?_ ?_ ?_;iterate 3 (show _ = _;k_is))
  case S=>exact fun K H a ns hl _ hS=>⟨a,ns,rfl,hS,hl,fun _=>rfl⟩
  case C=>exact fun _ _ _ _ z=>z
