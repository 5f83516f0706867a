import PyProof.Rows.All
import Wide.All
import OpenK.AllK
import Wide.FinOn
import Lean
import PyProof.EqAt
import PyProof.EqKinds
import PyProof.TupleCall
import PyProof.NeKinds
import PySem.Challenge.RW_manypurses_k10_whole_cuts
open List (mem_filter mem_range filterMap_cons mem_cons_self mem_cons_of_mem mem_cons mem_append mem_append_left getElem_inj getElem?_set_self getElem?_set_ne mem_filterMap mem_append_right size_toArray length_cons map_cons length_map append_nil nodup_cons length_take getElem?_map mem_of_getElem? length_append length_replicate zip_cons_cons length_nil map_nil length_set any_cons replicate_succ flatten_cons foldl_cons find?_cons nodup_nil mem_map lookup_cons forIn_cons all_eq_true mem_singleton getElem?_eq_getElem forIn_nil length_range getD_eq_getElem?_getD map_append mem_iff_getElem length_eraseIdx_le length_eq_one_iff mem_map_of_mem map_congr_left take_length map_map map_set mem_of_find?_eq_some nodup_append length_filter_le filter_append length_erase_of_mem length_pos_of_mem eq_of_mem_replicate sum_cons map_id)
open Nat (lt_of_lt_of_le lt_irrefl ne_of_lt le_trans le_of_lt le_refl zero_le lt_succ_self le_succ succ_le_succ lt_of_le_of_lt lt_succ_of_lt not_lt_zero le_succ_of_le pos_of_ne_zero)
set_option Elab.async false
set_option genSizeOf false
set_option genInjectivity false
set_option linter.all false
set_option compiler.extract_closed false
set_option maxRecDepth 100000
section
open Array renaming append_assoc->ad3,forIn_toList->abr,getD_eq_getD_getElem?->abT,getElem?_eq_none->ada,getElem?_toList->ĺ,length_toList->Ú,perm_iff_toList_perm->ack,range->aes,toList_inj->aeP
open Bool renaming and_eq_true->M_,and_false->Ť,and_true->afH,eq_false_iff->ad2,eq_iff_iff->ġ,false_and->aff,false_eq_true->Ĝ,false_ne_true->p?,false_or->afG,not_eq_true'->ad1,not_true->abh,or_eq_true->Ġ,or_true->aaC,true_and->afF
open Classical renaming propDecidable->Z?
open Decidable renaming decide->p_
open False renaming elim->H?
open ForInStep renaming yield->đ
open Int renaming emod_lt_of_pos->Đ,emod_nonneg->Ĺ,le_antisymm->aeq,le_refl->aaB,mul_le_mul_of_nonneg_left->abq,toNat_natCast->Ù,toNat_of_nonneg->ĸ,zero_add->acV
open LT renaming lt->Ś
open LawfulBEq renaming eq_of_beq->ł
open List renaming all_cons->acU,all_eq_true->Ó,any_cons->Ō,any_eq_true->aep,append_assoc->abp,append_nil->å,contains_cons->adK,drop_eq_getElem_cons->aci,eq_of_mem_replicate->ÿ,eraseIdxIfInBounds_toArray->ģ,ext_getElem?->ad0,filterMap_cons->ě,filter_append->Ĉ,filter_cons->aeo,filter_cons_of_neg->acC,filter_cons_of_pos->acB,filter_sublist->aaQ,find?_append->abo,find?_cons->É,find?_some->aeN,flatten_cons->ŀ,foldl->acT,foldl_append->adZ,foldl_cons->ż,forIn_cons->Ż,forIn_nil->abz,getD_eq_getElem?_getD->J?,getElem?_append_left->ach,getElem?_append_right->abS,getElem?_cons_succ->acA,getElem?_eq_getElem->n?,getElem?_eq_none->ac8,getElem?_eq_none_iff->acg,getElem?_eq_some_iff->xv,getElem?_map->J',getElem?_replicate->acz,getElem?_set_ne->ċ,getElem?_set_self->Ç,getElem?_zip_eq_some->acf,getElem_inj->abH,idxOf_cons->abR,idxOf_lt_length_iff->acq,length->ć,length_append->r_,length_cons->E?,length_drop->aen,length_eq_one_iff->Ě,length_eq_zero_iff->acy,length_eraseIdx_le->č,length_erase_of_mem->þ,length_filter_le->Q_,length_map->i?,length_nil->ź,length_pos_of_mem->ę,length_range->Ź,length_replicate->W?,length_set->aaX,length_take->ø,lookup->ò,lookup_cons->à,map_append->H_,map_congr_left->Ę,map_cons->y?,map_inj_right->ř,map_map->Ÿ,map_nil->ī,map_set->aem,mem_append->A_,mem_append_left->X_,mem_append_right->C_,mem_cons->B_,mem_cons_of_mem->u_,mem_cons_self->t?,mem_filter->Č,mem_filterMap->aaP,mem_iff_getElem->Î,mem_iff_getElem?->aam,mem_map->O_,mem_map_of_mem->N_,mem_of_find?_eq_some->į,mem_of_getElem?->r?,mem_of_mem_drop->ads,mem_of_mem_erase->ac7,mem_of_mem_take->adq,mem_or_eq_of_mem_set->Ř,mem_range->ħ,mem_singleton->m?,nil_append->abQ,nodup_append->ä,nodup_cons->X?,nodup_nil->acS,nodup_range->abG,not_mem_nil->abF,not_of_lt_findIdx->acR,of_mem_zip->abP,pairwise_append->aaA,pairwise_iff_getElem->ace,pairwise_map->adY,pairwise_singleton->Ų,perm_ext_iff_of_nodup->abO,range->U_,range_succ->aeM,replicate->l',replicate_succ->X',replicate_succ'->adp,size_toArray->D',sum_cons->abg,take_append_drop->aal,take_length->Ò,take_of_length_le->acQ,toArray->ado,toList_toArray->aaO,zip_cons_cons->aaN,zip_nil_right->aa2
open List.Pairwise renaming filter->afE,map->aak,nil->afD
open List.Perm renaming eq_of_pairwise->ō,refl->adD
open List.cons renaming inj->Ĵ
open Nat renaming add_le_add_left->adn,le_of_eq->afC,le_of_lt->Ć,le_refl->s_,le_succ->ŷ,le_succ_of_le->Ã,le_trans->K?,lt_irrefl->ý,lt_of_le_of_lt->ė,lt_of_lt_of_le->F?,lt_succ_of_lt->aaM,lt_succ_self->Ė,mul_comm->acP,ne_of_gt->afB,ne_of_lt->N?,not_lt_zero->abE,pos_of_ne_zero->ŋ,succ->Ä,succ_le_succ->abf,succ_mul->afA,succ_pos->afz,zero_le->W_
open Ne renaming symm->Í
open Option renaming isSome_map->aas,isSome_some->ael,map_eq_some_iff->adm
open Option.some renaming inj->o_
open Or renaming inl->w_,inr->ţ
open Prod renaming ext->ű
open Prod.mk renaming inj->Ô
open Pure renaming pure->Ø
open PyProof.Rows renaming AllBare->ŗ,IntsAre->U?,IsTup->ē,args_list_sort->afy,callWith_builtin1->afe,callWith_type1->aaj,entry_list_sort->afd,envOfC->Â,isBoolOf->adC,listUpdate_at->acx,lt_int->aaF,seqEpoch_at->adB,seqObj->ö,slot_list_sort->afx,sortedAll->aeL,sortedAll_old->afY,sortedHeap->adX,subscriptTail->afX,subscriptTail_builtinR->ac6,units_in1->aeK
open PySem renaming Addr->c_,Around->B?,BindsTo->aaz,Builtin->V_,CmpOp->aek,DictEntry->ì,Env->š,Expr->G?,FuncData->l?,GenState->aca,Heap->k_,HeapKind->afw,IsTupleKey->ab9,KeyKind->acN,Keyword->aa9,Meets->aei,Model->aaJ,NameKind->D?,Obj->J_,Operator->afv,OwnTail->aax,Paired->g?,PassesOwn->ë,Pos->Ī,Program->n_,Result->ş,Scope->Xg,Sem->Ģ,SetTable->Ē,Shared->d_,Stmt->I_,Str->y_,Value->b_,Within->ĩ,World->z?,argBest->aa6,assign->aap,assignEach->ŵ,atKey->ň,attributeBase->Ŝ,backTo->Y?,backToKw->Ñ,behindInMarks->aaG,binaryOp->ă,bindArgs->ady,bindC->acJ,bindL->acI,bootBuiltins->N4,builtinLookup_eq_fast->adg,builtinsNs->ab5,cLine->P?,call->Ħ,callWith->aao,call_list_seq->afP,call_meets->ã,call_meetsIn->ļ,callerA->aav,cellOf->adT,cellsFrom->ū,checkBuiltinCall->Ū,checkCount->ab4,closureFor->adS,codeAny->Ð,codeAny_builtin->Ž,codeAny_call_builtin->ó,codeAny_loop->ac2,codeAny_mono->û,codeAny_of_tree->aeS,compEnvC->adx,compPost->adw,compareOp->M?,comprehension->afO,dictSetDefault->ab3,entryFor->ab2,entryFor_alias->afq,entryOfKey->ab1,entryPlaceOf->ac1,eqIsQuiet->acH,eval->T?,eval_ListComp->afN,excClassObj->Ď,firstArgMember->afp,fitsIndex_both->afo,foldedSetIterable->Ĕ,frameOf->abu,getItem->abK,getMethod->ũ,holding->Ĩ,intBits_le_64->afM,intItems->ab0,intKind->aau,intKind_is->abZ,isInstance->Ň,isSubtype_stop->afn,isSubtype_tuple_tuple->aac,isSubtype_type->afm,isTrue->abY,keywordEach->S_,leaving->aee,letOwnedTupleGo->Ķ,mainGlobals->Þ,meetsH_dict_get_default->acG,mem_of_lookup->ï,model->m_,newFunctionEnv->ņ,noFill_tuple_add->aex,noteFrame->acF,nums_intItems->afL,pastItsLine_dict->aew,pickOrder->Ũ,plainId_quiet->acu,plainObj_wpAny_Assign_Attribute->abi,pushCells->abt,putSet_of->acE,pyHashByItsType->Œ,pyIter->abX,pyNext->Ŵ,rawInt->ś,recursionLimit->afl,refuseLoop_ref->afk,relabel->aed,seqIndex?->acD,seqIndex_neg->ac0,seqIndex_of->adv,seqSlot_of->acZ,seq_tuple_add->afJ,setAttr->aec,setField->afj,setItem->aeb,setsByText->adR,signature?_of->afI,sizeLine->k?,sizeLine_eq->Ĭ,standAt->ų,starEach->x_,storedH->aea,subscripted->abB,swapsWith->ŧ,sysModules->V',theTreesLotGoes->aeR,tupleKeyHash->aa5,tupleKind->Ł,tupleKind_room_in1->â,typeIs_int->Ņ,typeLookup->ń,typeLookup_type->aeQ,typeOf->adQ,unbindBehindTheSuite->adu,valueAt->aa4,wpAny->l_,wpAny_Assign_Subscript->acY,wpAny_Call_Name_kw->á,wpAny_Call_method->ad9,wpAny_Name->adP,wpAny_askSetting->ĥ,wpAny_assign_Name->ad8,wpAny_attempt->acs,wpAny_binaryOp_repeat_ref->ő,wpAny_bind->d?,wpAny_call->Ĥ,wpAny_callSpecial?_slot->Ŧ,wpAny_call_entry->W',wpAny_comprehension_free->Ă,wpAny_dictEntries->ŕ,wpAny_dictEpoch->abI,wpAny_eqBool_int->aev,wpAny_eqBool_tuple->Ń,wpAny_execs_cons->aeu,wpAny_execs_nil->ĵ,wpAny_fieldsOf->abW,wpAny_getItem_heap->adO,wpAny_holding->L_,wpAny_isInstance->ť,wpAny_isOneOf_keyiter->aab,wpAny_isSubtype_exc->aaD,wpAny_isTrue_Compare1->adf,wpAny_ite_split->è,wpAny_loadPart->afi,wpAny_loadPart_at->L?,wpAny_lookBehind->aet,wpAny_mono->F',wpAny_newList->acr,wpAny_newObj_type->î,wpAny_notOrdered_dict->ade,wpAny_passesOwn->ç,wpAny_pure->h_,wpAny_pyHash_tuple->adN,wpAny_pyIter_keyiter->aan,wpAny_pyIter_list->Ŕ,wpAny_pyIter_slot->aa3,wpAny_pyIter_tuple->adM,wpAny_pyNext_list_end->adb,wpAny_pyNext_list_item->acX,wpAny_rule->aaU,wpAny_seqItems->afh,wpAny_setEntries_of->adE,wpAny_setEpoch_of->ad7,wpAny_setField->abV,wpAny_setItem_heap->adL,wpAny_setState_of->œ,wpAny_specialOf->ĉ,wpAny_standAt->Õ,wpAny_storeSet_of->ad6,wpAny_truthy_bool->S?,wpAny_tupleItemsOf->aaT,wpAny_typeNameOfWhole_keyiter->Ý,wpAny_typeOf->Ļ
open PySem.AutoSeq1 renaming wpAny_loadPart'->ĳ
open PySem.Builtin.List renaming listLengthHint->aby,listTooLong->ů
open PySem.Builtin.Tuple renaming tupleExact->abJ,tupleHashOf->abD,tupleTooMany->Ő
open PySem.Calls renaming Name_function_global->Į,callWith_builtin->ą,call_function_entry->abn,evalArgs_plain->ê,loadGlobal_global->abC,spliced_cons->ü,spliced_nil->aar
open PySem.Code renaming quiet_builtin->Ĳ
open PySem.EqMixed renaming eq_bool_str->aeH,eq_int_str->aeG,eq_str_bool->aeF,eq_str_int->aeE,ne_bool_str->aeD,ne_int_str->aeC,ne_str_bool->aeB,ne_str_int->aeA
open PySem.EqNone renaming eq_bool_none->ae9,eq_int_none->ae8,eq_none_bool->ae7,eq_none_int->ae6,eq_none_none->ae5,eq_none_str->ae4,eq_str_none->ae3,ne_bool_none->ae2,ne_int_none->ae1,ne_none_bool->ae0,ne_none_int->aeZ,ne_none_none->aeY,ne_none_str->aeX,ne_str_none->aeW
open PySem.F renaming args_dict_get_3->Ŀ,args_dict_keyiterator_next_1->abe,args_dict_setdefault_3->aaq,args_int_rmul_2->aaW,args_tuple_add_2->abd,args_tuple_mul_2->adA,attr_ValueError->adJ,entry_dict_get->Ŋ,entry_dict_keyiterator_next->abm,entry_dict_setdefault->aay,entry_int_rmul->abc,entry_tuple_add->abl,entry_tuple_mul->adI,excBase_ValueError->ac5,fills_int_mul->abx,plainAttrs_dict->ľ,plainAttrs_list->A?,slot_dict_get->Ċ,slot_dict_getitem->aa0,slot_dict_iter->adV,slot_dict_keyiterator_next->Æ,slot_dict_setdefault->ĕ,slot_dict_values->abb,slot_gs_get->acd,slot_int_index->aba,slot_int_rmul->ā,slot_list_append->D_,slot_list_count->abk,slot_list_index->abj,slot_list_pop->acO,slot_list_remove->acb,slot_set_iter->aej,slot_tuple_add->abw,slot_tuple_eq->Ű,slot_tuple_hash->ŏ,slot_tuple_mul->Š,slot_tuple_rmul->adH,store_ValueError->Z_,typeOf_object_class->Ŷ,type_list_append->E_
open PySem.Heap renaming FlyingW->Ā,MadeExcOf->aaL,SameBut->F_,get?_none_of_le->ķ,get?_push_at->adU,get?_push_of_some->g_,get?_push_size->x?,get?_some_iff->adG,get?_update_ne->ŉ,get?_update_other->ſ,get?_update_self->R?,lt_size->u?,size_push->ď
open PySem.Heap.SameBut renaming update->Ą
open PySem.MeetsSeq renaming entry_remove_loop->aaK,plain_remove_loop->ß
open PySem.NameKind renaming cell->ğ,free->Ö
open PySem.Obj renaming cls_mapFields->aaZ,data_mapDictKeys->ac3,data_mapFields->é,isFreed_of_fields->ž,mapFields->ñ,mapSeq->Å
open PySem.Paired renaming length->q?,snoc->adz
open PySem.PassesOwn renaming never->Ŗ
open PySem.Sem renaming wp->ĭ,wp_mono->afU
open PySem.SeqAt renaming EqAt->z_,RcNeAt->R_,in_listAt->adi,notIn_listAt->aai
open PySem.SeqAt.RcAt renaming lists->abN,lists_lengths->aaI,tuples->afR
open PySem.Value renaming bool->À,builtin->aaw,float->aeh,int->ù,isInt->aeg,isStrOf->afQ,none->Ğ,notImplemented->aaH,ref->o?,str->adh,type->ĝ
open PySem.W renaming Frag->e?,KatTups->Ů,Looks->P_,OpenLaw->ı,WalkO->acw,callWith_K->õ,callWith_KW->abM,cellsFrom_some->abv,clsIn->aa8,codeIn->aah,emptyDict->V?,excIn->aa7,findIn->G_,fnOf->ô,handedIn->acv,hasDictIn->aag,hideAll->ð,hideAll_get->abL,hideAll_none->Ş,instObj->Ë,isFn->aaV,kas_place->aez,kas_sort->aft,kat_cons->afs,kat_nil->aef,keepIn->Û,kia_one->O?,kia_tup->acM,kitCls->Ì,kitOne->K_,kitx_dict->acn,kitx_list->aaf,kitx_tuple->ab8,lookIn->ŝ,looks_findIn->Y_,looks_mroIn->ŭ,makesIn->acL,methodCall_KW->Ü,methodObj->aae,mroIn->æ,nsIn->afr,of_hideAll->ab7,plainGet->Ľ,plainGet_of->Ŭ,plainOver->acm,specialIn->aad,tail_of_in->ab6,takerIn->aaE,takesIn->acK
open Sum renaming inl->Q?,inr->Ŏ
open True renaming intro->q_
open _root_ renaming Array->C?,Bool->s?,Decidable->aeO,DecidableEq->İ,False->v?,ForInStep->È,Int->i_,List->b?,Nat->j?,Option->f_,String->í,Sum->Ţ,True->I?,absurd->v_,autoParam->e_,beq_eq_false_iff_ne->Ê,beq_iff_eq->Á,beq_self_eq_true->ú,bne_iff_ne->aaS,bne_self_eq_false->ad5,congrArg->T_,decide_eq_false->t_,decide_eq_true->j',decide_eq_true_eq->Ï,decide_eq_true_iff->aaR,if_false->abU,if_neg->f?,if_pos->j_,if_true->acW,of_decide_eq_true->w?,or_false->afg,rfl->a_,trivial->ad4
noncomputable section
theorem aP (a:I?:=by rfl)(b:I?:=by decide)(c:I?:=by intro _;rfl)(d:I?:=by decide+kernel)(e:I?:=by first|exact .inl rfl|exact .inr rfl|assumption)(f:I?:=by intro vs H Q E h;repeat(first|(obtain⟨rfl,_⟩:=h;rfl)|(obtain⟨_,h⟩:=h)))(g:I?:=by exact True.intro)(h:I?:=by exact cv):I?:=a
def aP1:=aP._auto_1
def aP2:=aP._auto_2
def aP3:=aP._auto_3
def aP4:=aP._auto_4
def aP5:=aP._auto_5
def aP6:=aP._auto_6
def aP7:=aP._auto_7
def aP8:=aP._auto_8
theorem xa0 {A0 A1:Type}{p:A0->A1->Prop}(a0:A0)(a1:A1)(h:p a0 a1):∃b0 b1,p b0 b1:=⟨a0,a1,h⟩
theorem xa1 {A0 A1 A2:Type}{p:A0->A1->A2->Prop}(a0:A0)(a1:A1)(a2:A2)(h:p a0 a1 a2):∃b0 b1 b2,p b0 b1 b2:=⟨a0,a1,a2,h⟩
theorem xa2 {A0 A1 A2 A3:Type}{p:A0->A1->A2->A3->Prop}(a0:A0)(a1:A1)(a2:A2)(a3:A3)(h:p a0 a1 a2 a3):∃b0 b1 b2 b3,p b0 b1 b2 b3:=⟨a0,a1,a2,a3,h⟩
theorem xa3 {A0 A1 A2 A3 A4:Type}{p:A0->A1->A2->A3->A4->Prop}(a0:A0)(a1:A1)(a2:A2)(a3:A3)(a4:A4)(h:p a0 a1 a2 a3 a4):∃b0 b1 b2 b3 b4,p b0 b1 b2 b3 b4:=⟨a0,a1,a2,a3,a4,h⟩
theorem xa5 {A0 A1 A2 A3 A4 A5:Type}{p:A0->A1->A2->A3->A4->A5->Prop}(a0:A0)(a1:A1)(a2:A2)(a3:A3)(a4:A4)(a5:A5)(h:p a0 a1 a2 a3 a4 a5):∃b0 b1 b2 b3 b4 b5,p b0 b1 b2 b3 b4 b5:=⟨a0,a1,a2,a3,a4,a5,h⟩
theorem xa6 {A0 A1 A2 A3 A4 A5 A6:Type}{p:A0->A1->A2->A3->A4->A5->A6->Prop}(a0:A0)(a1:A1)(a2:A2)(a3:A3)(a4:A4)(a5:A5)(a6:A6)(h:p a0 a1 a2 a3 a4 a5 a6):∃b0 b1 b2 b3 b4 b5 b6,p b0 b1 b2 b3 b4 b5 b6:=⟨a0,a1,a2,a3,a4,a5,a6,h⟩
theorem xa9 {A0 A1 A2 A3 A4 A5 A6 A7:Type}{p:A0->A1->A2->A3->A4->A5->A6->A7->Prop}(a0:A0)(a1:A1)(a2:A2)(a3:A3)(a4:A4)(a5:A5)(a6:A6)(a7:A7)(h:p a0 a1 a2 a3 a4 a5 a6 a7):∃b0 b1 b2 b3 b4 b5 b6 b7,p b0 b1 b2 b3 b4 b5 b6 b7:=⟨a0,a1,a2,a3,a4,a5,a6,a7,h⟩
theorem xa4 {A0 A1 A2 A3 A4 A5 A6 A7 A8:Type}{p:A0->A1->A2->A3->A4->A5->A6->A7->A8->Prop}(a0:A0)(a1:A1)(a2:A2)(a3:A3)(a4:A4)(a5:A5)(a6:A6)(a7:A7)(a8:A8)(h:p a0 a1 a2 a3 a4 a5 a6 a7 a8):∃b0 b1 b2 b3 b4 b5 b6 b7 b8,p b0 b1 b2 b3 b4 b5 b6 b7 b8:=⟨a0,a1,a2,a3,a4,a5,a6,a7,a8,h⟩
theorem xb1 {A0 A1 A2 A3 A4 A5 A6 A7 A8 A9:Type}{p:A0->A1->A2->A3->A4->A5->A6->A7->A8->A9->Prop}(a0:A0)(a1:A1)(a2:A2)(a3:A3)(a4:A4)(a5:A5)(a6:A6)(a7:A7)(a8:A8)(a9:A9)(h:p a0 a1 a2 a3 a4 a5 a6 a7 a8 a9):∃b0 b1 b2 b3 b4 b5 b6 b7 b8 b9,p b0 b1 b2 b3 b4 b5 b6 b7 b8 b9:=⟨a0,a1,a2,a3,a4,a5,a6,a7,a8,a9,h⟩
theorem xb2 {A0 A1 A2 A3 A4 A5 A6 A7 A8 A9 A10:Type}{p:A0->A1->A2->A3->A4->A5->A6->A7->A8->A9->A10->Prop}(a0:A0)(a1:A1)(a2:A2)(a3:A3)(a4:A4)(a5:A5)(a6:A6)(a7:A7)(a8:A8)(a9:A9)(a10:A10)(h:p a0 a1 a2 a3 a4 a5 a6 a7 a8 a9 a10):∃b0 b1 b2 b3 b4 b5 b6 b7 b8 b9 b10,p b0 b1 b2 b3 b4 b5 b6 b7 b8 b9 b10:=⟨a0,a1,a2,a3,a4,a5,a6,a7,a8,a9,a10,h⟩
theorem xb3 {A0 A1 A2 A3 A4 A5 A6 A7 A8 A9 A10 A11:Type}{p:A0->A1->A2->A3->A4->A5->A6->A7->A8->A9->A10->A11->Prop}(a0:A0)(a1:A1)(a2:A2)(a3:A3)(a4:A4)(a5:A5)(a6:A6)(a7:A7)(a8:A8)(a9:A9)(a10:A10)(a11:A11)(h:p a0 a1 a2 a3 a4 a5 a6 a7 a8 a9 a10 a11):∃b0 b1 b2 b3 b4 b5 b6 b7 b8 b9 b10 b11,p b0 b1 b2 b3 b4 b5 b6 b7 b8 b9 b10 b11:=⟨a0,a1,a2,a3,a4,a5,a6,a7,a8,a9,a10,a11,h⟩
theorem xb5 {A0 A1 A2 A3 A4 A5 A6 A7 A8 A9 A10 A11 A12:Type}{p:A0->A1->A2->A3->A4->A5->A6->A7->A8->A9->A10->A11->A12->Prop}(a0:A0)(a1:A1)(a2:A2)(a3:A3)(a4:A4)(a5:A5)(a6:A6)(a7:A7)(a8:A8)(a9:A9)(a10:A10)(a11:A11)(a12:A12)(h:p a0 a1 a2 a3 a4 a5 a6 a7 a8 a9 a10 a11 a12):∃b0 b1 b2 b3 b4 b5 b6 b7 b8 b9 b10 b11 b12,p b0 b1 b2 b3 b4 b5 b6 b7 b8 b9 b10 b11 b12:=⟨a0,a1,a2,a3,a4,a5,a6,a7,a8,a9,a10,a11,a12,h⟩
theorem xb4 {A0 A1 A2 A3 A4 A5 A6 A7 A8 A9 A10 A11 A12 A13:Type}{p:A0->A1->A2->A3->A4->A5->A6->A7->A8->A9->A10->A11->A12->A13->Prop}(a0:A0)(a1:A1)(a2:A2)(a3:A3)(a4:A4)(a5:A5)(a6:A6)(a7:A7)(a8:A8)(a9:A9)(a10:A10)(a11:A11)(a12:A12)(a13:A13)(h:p a0 a1 a2 a3 a4 a5 a6 a7 a8 a9 a10 a11 a12 a13):∃b0 b1 b2 b3 b4 b5 b6 b7 b8 b9 b10 b11 b12 b13,p b0 b1 b2 b3 b4 b5 b6 b7 b8 b9 b10 b11 b12 b13:=⟨a0,a1,a2,a3,a4,a5,a6,a7,a8,a9,a10,a11,a12,a13,h⟩
theorem xa8 {A0 A1 A2 A3 A4 A5 A6 A7 A8 A9 A10 A11 A12 A13 A14:Type}{p:A0->A1->A2->A3->A4->A5->A6->A7->A8->A9->A10->A11->A12->A13->A14->Prop}(a0:A0)(a1:A1)(a2:A2)(a3:A3)(a4:A4)(a5:A5)(a6:A6)(a7:A7)(a8:A8)(a9:A9)(a10:A10)(a11:A11)(a12:A12)(a13:A13)(a14:A14)(h:p a0 a1 a2 a3 a4 a5 a6 a7 a8 a9 a10 a11 a12 a13 a14):∃b0 b1 b2 b3 b4 b5 b6 b7 b8 b9 b10 b11 b12 b13 b14,p b0 b1 b2 b3 b4 b5 b6 b7 b8 b9 b10 b11 b12 b13 b14:=⟨a0,a1,a2,a3,a4,a5,a6,a7,a8,a9,a10,a11,a12,a13,a14,h⟩
theorem xa7 {A0 A1 A2 A3 A4 A5 A6 A7 A8 A9 A10 A11 A12 A13 A14 A15 A16:Type}{p:A0->A1->A2->A3->A4->A5->A6->A7->A8->A9->A10->A11->A12->A13->A14->A15->A16->Prop}(a0:A0)(a1:A1)(a2:A2)(a3:A3)(a4:A4)(a5:A5)(a6:A6)(a7:A7)(a8:A8)(a9:A9)(a10:A10)(a11:A11)(a12:A12)(a13:A13)(a14:A14)(a15:A15)(a16:A16)(h:p a0 a1 a2 a3 a4 a5 a6 a7 a8 a9 a10 a11 a12 a13 a14 a15 a16):∃b0 b1 b2 b3 b4 b5 b6 b7 b8 b9 b10 b11 b12 b13 b14 b15 b16,p b0 b1 b2 b3 b4 b5 b6 b7 b8 b9 b10 b11 b12 b13 b14 b15 b16:=⟨a0,a1,a2,a3,a4,a5,a6,a7,a8,a9,a10,a11,a12,a13,a14,a15,a16,h⟩
namespace L2
open PySem PySem.Spec PyProof.Rows
noncomputable abbrev Key:=Ţ i_ y_
noncomputable def oT:Key->b_->s?
 | .inl k,v=>aeg k v
 | .inr x,v=>afQ x v
noncomputable def R0 (w:z?):Key->i_
 | .inl k=>hashInt k
 | .inr x=>hashStr w x
theorem ya:∀{k:Key}{v:b_},oT k v=true->(∃i t,k=Q? i/\v=ù i t)\/(∃x t,k=Ŏ x/\v=adh x t)
 | .inl i,v,h=>by obtain⟨t,e⟩:=b_.isInt_shape (k:=i) (v:=v) h;exact .inl (xa0 i t ⟨a_,e⟩)
 | .inr x,v,h=>by obtain⟨t,e⟩:=b_.isStrOf_shape (x:=x) (v:=v) h;exact .inr (xa0 x t ⟨a_,e⟩)
theorem R5 (i:i_)(t:Tok):oT (.inl i) (.int i t)=true:=by simp[oT,aeg]
theorem R6 (x:y_)(t:Tok):oT (.inr x) (.str x t)=true:=by simp[oT,afQ]
theorem R7 (a b:i_):p_ ((Q? a:Key)=Q? b)=(a==b):=by
 by_cases e:a=b
 .subst e;simp
 .have h:¬(Q? a:Key)=Q? b:=λq=>e (Q?.inj q);rw[t_ h];exact(Ê.mpr e).symm
theorem R8 (a b:y_):p_ ((Ŏ a:Key)=Ŏ b)=p_ (a=b):=by
 by_cases e:a=b
 .subst e;simp
 .have h:¬(Ŏ a:Key)=Ŏ b:=λq=>e (Ŏ.inj q);rw[t_ h,t_ e]
theorem Sa (a:i_)(b:y_):p_ ((Q? a:Key)=Ŏ b)=false:=t_ (λq=>nomatch q)
theorem Sb (a:y_)(b:i_):p_ ((Ŏ a:Key)=Q? b)=false:=t_ (λq=>nomatch q)
noncomputable def qp (prog:n_)(w:z?):acN prog w Key where
 is:=oT
 hash:=R0 w
 inj:=λv a b ha hb=>by
  rcases ya ha with⟨i,t,rfl,rfl⟩|⟨x,t,rfl,rfl⟩
  .rcases ya hb with⟨j,u,rfl,e⟩|⟨y,u,rfl,e⟩
   .injection e with e1 _;rw[e1]
   .exact nomatch e
  .rcases ya hb with⟨j,u,rfl,e⟩|⟨y,u,rfl,e⟩
   .exact nomatch e
   .injection e with e1 _;rw[e1]
 byValue:=λk v h=>by rcases ya h with⟨i,t,rfl,rfl⟩|⟨x,t,rfl,rfl⟩<;>rfl
 pyHash:=λhv h=>by
  rcases ya hv with⟨i,t,rfl,rfl⟩|⟨x,t,rfl,rfl⟩
  .exact wpAny_pyHash_int h
  .exact wpAny_pyHash_str h
 eqBool:=λhu hv h=>by
  rcases ya hu with⟨i,t,rfl,rfl⟩|⟨x,t,rfl,rfl⟩
  .rcases ya hv with⟨j,u,rfl,rfl⟩|⟨y,u,rfl,rfl⟩
   .rw[R7]at h;exact aev h
   .rw[Sa]at h;exact z_.int_str i t y u _ _ _ _ h
  .rcases ya hv with⟨j,u,rfl,rfl⟩|⟨y,u,rfl,rfl⟩
   .rw[Sb]at h;exact z_.str_int x t j u _ _ _ _ h
   .rw[R8]at h;exact wpAny_eqBool_str h
 «strs»:=λk x t v h=>by
  rcases ya h with⟨i,u,rfl,e⟩|⟨y,u,rfl,e⟩
  .exact nomatch e
  .injection e with e1 _;subst e1;cases v<;>rfl
theorem Kz (prog:n_)(w:z?)(i:i_)(t:Tok):(qp prog w).is (.inl i) (.int i t)=true:=R5 i t
theorem Se (prog:n_)(w:z?)(x:y_)(t:Tok):(qp prog w).is (.inr x) (.str x t)=true:=R6 x t
set_option genInjectivity true in
inductive V where
 | ar | bl (b:s?) | int (i:i_) | str (x:y_) | fZ (b:C? UInt8) | ni (b:UInt64) | ref (a:c_) | ty (n:í)
 deriving DecidableEq
noncomputable def RelV:V->b_->Prop
 | .ar,u=>u=Ğ
 | .bl b,u=>u=À b
 | .int i,u=>∃t,u=ù i t
 | .str x,u=>∃t,u=adh x t
 | .fZ b,u=>∃t,u=b_.bytes b t
 | .ni b,u=>∃t,u=aeh b t
 | .ref a,u=>u=o? a
 | .ty n,u=>u=ĝ n
noncomputable abbrev Vals:b? V->b? b_->Prop:=g? RelV
theorem Vals.length {xs:b? V}{us:b? b_}(r:Vals xs us):xs.length=us.length:=q? r
theorem Vals.get:∀{xs:b? V}{us:b? b_}{i:j?}{x:V},Vals xs us->xs[i]?=some x->∃u,us[i]?=some u/\RelV x u
 |_,_,_,_,.nil,e=>by simp at e
 |_,_,0,_,.cons r _,e=>by simp at e;subst e;exact⟨_,a_,r⟩
 |_,_,i+1,x,.cons _ t,e=>by obtain⟨u,h1,h2⟩:=Vals.get (i:=i) (x:=x) t (by simpa using e);exact⟨u,by simpa using h1,h2⟩
theorem Vals.set {x:V}{u:b_}(r:RelV x u):∀{xs:b? V}{us:b? b_}(i:j?),Vals xs us->Vals (xs.set i x) (us.set i u)
 |_,_,_,.nil=>.nil
 |_,_,0,.cons _ t=>.cons r t
 |_,_,i+1,.cons q t=>.cons q (Vals.set r i t)
theorem Vals.append:∀{xs ys:b? V}{us ws:b? b_},Vals xs us->Vals ys ws->Vals (xs++ys) (us++ws)
 |_,_,_,_,.nil,s=>s
 |_,_,_,_,.cons r t,s=>.cons r (Vals.append t s)
noncomputable def dJ:f_ V->f_ b_->Prop
 |some v,some u=>RelV v u
 |none,none=>I?
 |_,_=>v?
noncomputable def KV {B:Type}:b? (B×V)->b? (B×b_)->Prop:=g? λ(p:B×V)(q:B×b_)=>p.1=q.1/\RelV p.2 q.2
noncomputable def kV:Key->V
 | .inl i=>.int i
 | .inr x=>.str x
set_option genInjectivity true in
inductive HO where
  | lst (xs:b? V)
  | tup (xs:b? V)
  | dK (aa:b? (Key × V)) | dT (aa:b? (b? Key × V))
  | set (S:i_ -> s?) (n:j?)
  | ins (C dx:c_) (fs:b? (y_ × V))
  | own (x:c_)
  | xd (fs:b? (y_ × V))
  | met (f x:c_)
  | zA (lo hi:i_)
  | az (o:J_) (u:HO)
  | nj (ps:C? b_)
  | ext (φ : k_ -> Prop)
noncomputable abbrev Hp:=c_->f_ HO
noncomputable def upd (H:Hp)(a:c_)(o:HO):Hp:=λb=>if b=a then some o else H b
theorem ja {H:Hp}{a:c_}{o:HO}:upd H a o a=some o:=by unfold upd;rw[j_ a_]
theorem jd {H:Hp}{a b:c_}{o:HO}(h:b≠a):upd H a o b=H b:=by unfold upd;rw[f? h]
theorem Dk {H:Hp}{a:c_}{o u:HO}:upd (upd H a o) a u=upd H a u:=by funext b;unfold upd;split<;>rfl
theorem gA {H:Hp}{a b:c_}{o u:HO}(h:H a=some o)(h':H b=some u)(d:o≠u):a≠b:=by intro e;subst e;rw[h]at h';exact d (o_ h')
theorem jh {H:Hp}{a b:c_}{o:HO}(h:H a=some o)(h':H b=none):a≠b:=by intro e;subst e;rw[h]at h';cases h'
section
variable (P:n_)(w:z?)
noncomputable def y0 (H:Hp)(h:k_)(a:c_):HO->Prop
 | .lst xs=>xs.length<=k?/\∃(its:b? b_)(n:j?),Vals xs its/\h.get? a=some {cls:=.type "list",data:=.seq its.toArray n}
 | .tup xs=>xs.length<=k?/\∃its:b? b_,Vals xs its/\ē h a its.toArray
 | .dK aa=>aa.length<=k?/\(a==V')=false/\∃vs,KV aa vs/\h.DictOf (qp P w) a vs
 | .dT aa=>aa.length<=k?/\(a==V')=false/\∃xs:b? (b? Key×c_×b_),g? (λ(p:b? Key×V)(q:b? Key×c_×b_)=>p.1=q.1/\H q.2.1=some (.tup (p.1.map kV))/\RelV p.2 q.2.2) aa xs/\∃o es ep,h.get? a=some o/\o.ExactDict/\o.data= .dict es ep/\es.toList=xs.map (ab1 (Ł (qp P w)))/\(xs.map (·.1)).Nodup
 | .set S n=>h.SetOf (aau P w) a S n
 | .ins C dx fs=>H dx=some (.own a)/\fs.length<=1000/\dx≠a/\h.get? a=some (Ë C dx)/\∃mA,h.Ns1 dx mA/\(∀f,dJ (fs.lookup f) (mA f))/\ĩ mA (fs.map (·.1))
 | .own _=>∃o,h.get? a=some o
 | .xd fs=>∃mA,h.Ns1 a mA/\∀f,dJ (fs.lookup f) (mA f)
 | .zA lo hi=>∃t u v,h.get? a=some {cls:=.type "range",data:=.fields #[.int lo t,.int hi u,.int 1 v]}
 | .az o u=>h.get? a=some o/\y0 H h a u
 | .nj ps=>h.get? a=some {cls:=.none,data:=.fields ps}
 | .met f x=>h.get? a=some (aae (.ref f) (.ref x))
 | .ext φ=>φ h/\(∃o,h.get? a=some o)/\∀h1 h2:k_,φ h1->(∀o,h1.get? a=some o->h2.get? a=some o)->φ h2
noncomputable def bK (H:Hp)(h:k_):Prop:=∀a o,H a=some o->y0 P w H h a o
end
section
variable {P:n_}{w:z?}{H H':Hp}{h h':k_}{a:c_}{o:HO}
theorem y0.lt (x:y0 P w H h a o):a<h.objs.size:=by
 cases o with
 |lst xs=>obtain⟨_,_,_,_,e⟩:=x;exact u? e
 |tup xs=>obtain⟨_,_,_,p⟩:=x;exact p.lt
 |dK aa=>obtain⟨_,_,_,_,o,_,_,e,_⟩:=x;exact u? e
 |dT aa=>obtain⟨_,_,_,_,o,_,_,e,_⟩:=x;exact u? e
 |set S n=>obtain⟨o,_,_,_,e,_⟩:=x;exact u? e
 |ins C dx fs=>obtain⟨_,_,_,e,_⟩:=x;exact u? e
 |own y=>obtain⟨_,e⟩:=x;exact u? e
 |xd fs=>obtain⟨_,⟨_,_,_,e,_⟩,_⟩:=x;exact u? e
 |zA lo hi=>obtain⟨_,_,_,e⟩:=x;exact u? e
 |az ob u=>obtain⟨e,_⟩:=x;exact u? e
 |nj ps=>exact u? (show h.get? a=some _ from x)
 |met f y=>exact u? (show h.get? a=some _ from x)
 |ext φ=>obtain⟨_,⟨_,e⟩,_⟩:=x;exact u? e
theorem Paired.gi {α β:Type}{F G:α->β->Prop}:∀{l₁:b? α}{l₂:b? β},g? F l₁ l₂->(∀a b,F a b->G a b)->g? G l₁ l₂:=λ{l₁ l₂} q f=>by
 induction q with
 |nil=>exact .nil
 |cons r t ih=>exact .cons (f _ _ r) ih
theorem y0.dh (x:y0 P w H h a o)(k:∀b u,(b=a\/H b=some (.own a))->h.get? b=some u->h'.get? b=some u)(ho:∀b,H b=some (.own a)->H' b=some (.own a))(ht:∀b xs,H b=some (.tup xs)->H' b=some (.tup xs)):y0 P w H' h' a o:=by
 induction o with
 |lst xs=>obtain⟨z,its,n,r,e⟩:=x;exact⟨z,xa0 its n ⟨r,k _ _ (.inl a_) e⟩⟩
 |tup xs=>obtain⟨z,its,r,ob,e,c⟩:=x;exact⟨z,its,r,ob,k _ _ (.inl a_) e,c⟩
 |dK aa=>obtain⟨z,y,vs,r,ob,es,ep,e,c⟩:=x;exact⟨z,y,vs,r,xa1 ob es ep ⟨k _ _ (.inl a_) e,c⟩⟩
 |dT aa=>obtain⟨z,y,xs,r,ob,es,ep,e,c⟩:=x;exact⟨z,y,xs,Paired.gi r λp q z=>⟨z.1,ht _ _ z.2.1,z.2.2⟩,xa1 ob es ep ⟨k _ _ (.inl a_) e,c⟩⟩
 |set S n=>obtain⟨ob,es,ep,t,e,c⟩:=x;exact(xa2 ob es ep t ⟨k _ _ (.inl a_) e,c⟩)
 |ins C dx fs=>obtain⟨d,z,ne,e,mA,⟨od,es,ep,e2,c⟩,r⟩:=x;exact⟨ho _ d,z,ne,k _ _ (.inl a_) e,mA,(xa1 od es ep ⟨k _ _ (.inr d) e2,c⟩),r⟩
 |own y=>obtain⟨ob,e⟩:=x;exact⟨ob,k _ _ (.inl a_) e⟩
 |xd fs=>obtain⟨mA,⟨od,es,ep,e,c⟩,r⟩:=x;exact⟨mA,(xa1 od es ep ⟨k _ _ (.inl a_) e,c⟩),r⟩
 |zA lo hi=>obtain⟨t,u,v,e⟩:=x;exact(xa1 t u v (k _ _ (.inl a_) e))
 |az ob u ih=>obtain⟨e,q⟩:=x;exact⟨k _ _ (.inl a_) e,ih q⟩
 |nj ps=>have e:h.get? a=some {cls:=.none,data:=.fields ps}:=x;show h'.get? a=some {cls:=.none,data:=.fields ps};exact k a _ (.inl a_) e
 |met f y=>have e:h.get? a=some (aae (.ref f) (.ref y)):=x;show h'.get? a=some (aae (.ref f) (.ref y));exact k a _ (.inl a_) e
 |ext φ=>obtain⟨p,⟨o,e⟩,st⟩:=x;exact⟨st _ _ p λo q=>k _ _ (.inl a_) q,⟨o,k _ _ (.inl a_) e⟩,st⟩
theorem bK.lt (x:bK P w H h)(e:H a=some o):a<h.objs.size:=(x a o e).lt
theorem bK.fresh (x:bK P w H h)(e:h.objs.size<=a):H a=none:=by
 cases q:H a with
 |none=>rfl
 |some u=>exact v_ (F? (x.lt q) e) (ý _)
theorem bK.kept (x:bK P w H h)(k:∀b u,h.get? b=some u->h'.get? b=some u):bK P w H h':=λa o e=>(x a o e).dh (λb u _ q=>k b u q) (λ_ q=>q) λ_ _ q=>q
theorem bK.laid (x:bK P w H h)(k:∀b u,h.get? b=some u->h'.get? b=some u)(hp:h.objs.size<=a)(new:y0 P w (upd H a o) h' a o):bK P w (upd H a o) h':=λb u e=>by
 have hn:=x.fresh hp;by_cases hb:b=a
 .subst hb;rw[ja]at e;cases e;exact new
 .rw[jd hb]at e;exact(x b u e).dh (λc v _ q=>k c v q) (λc q=>by rw[jd (jh q hn)];exact q) λc xs q=>by rw[jd (jh q hn)];exact q
end
noncomputable def Rd (H:Hp)(a:c_)(u:HO):Prop:=H a=some u\/∃o,H a=some (.az o u)
theorem Rd.ok {P:n_}{w:z?}{H:Hp}{h:k_}{a:c_}{u:HO}(r:Rd H a u)(x:bK P w H h):y0 P w H h a u:=by
 rcases r with r|⟨o,r⟩
 .exact x a u r
 .obtain⟨_,q⟩:=x a _ r;exact q
noncomputable def fO:f_ HO->Prop
 |some (.lst _)=>I?
 |some (.dK _)=>I?
 |some (.dT _)=>I?
 |some (.set _ _)=>I?
 |some (.ins _ _ _)=>I?
 |some (.ext _)=>I?
 |_=>v?
section
variable {P:n_}{w:z?}{H:Hp}{h h':k_}{x e:c_}{o':HO}
theorem bK.write (ok:bK P w H h)(mu:fO (H x))(he:e=x\/H e=some (.own x))(k:∀b u,b≠e->h.get? b=some u->h'.get? b=some u)(rH:∃u,h'.get? e=some u)(new:y0 P w (upd H x o') h' x o'):bK P w (upd H x o') h':=λb u q=>by
 have tP:∀c y,H c=some (.own y)->c≠x:=λc y r z=>by subst z;rw[r]at mu;exact mu
 have Dl:∀c xs,H c=some (.tup xs)->c≠x:=λc xs r z=>by subst z;rw[r]at mu;exact mu
 by_cases hb:b=x
 .subst hb;rw[ja]at q;cases q;exact new
 .rw[jd hb]at q;by_cases oU:b=e
  .have q':H b=some (.own x):=by
    rcases he with z|z
    .exact v_ (oU.trans z) hb
    .rw[oU];exact z
   rw[q]at q';cases q';obtain⟨v,hv⟩:=rH;exact⟨v,by rw[oU];exact hv⟩
  .refine(ok b u q).dh (λc v hc r=>k c v ?_ r) (λc r=>by rw[jd (tP c b r)];exact r) λc xs r=>by rw[jd (Dl c xs r)];exact r
   rcases hc with rfl|hc
   .exact oU
   .rintro rfl
    rcases he with z|z
    .exact tP c b hc z
    .rw[hc]at z;cases z;exact hb a_
end
structure Un (fs ex:b? c_)(H H':Hp)(h h':k_):Prop where
 keep:∀b o,h.get? b=some o->H b=none->b∉fs->b∉ex->h'.get? b=some o
 slot:∀b o,h.get? b=some o->H b=none->b∈fs->b∉ex->∃sl,h'.get? b=some {o with slots:=sl}
 free:∀b o,h.get? b=some o->H b=none->b∉ex->H' b=none
 there:∀b o,h.get? b=some o->b∉ex->∃o',h'.get? b=some o'
 cj:∀b xs,H b=some (.tup xs)->H' b=some (.tup xs)
 dU:∀b o u,H b=some (.az o u)->H' b=some (.az o u)
 eU:∀b ps,H b=some (.nj ps)->∃more,H' b=some (.nj (ps++more))
section
variable {fs fs' ex KA:b? c_}{H H1 H2:Hp}{h h1 h2 h':k_}{a x e:c_}{o:HO}
theorem Un.any (u:Un fs ex H H1 h h1){b:c_}{ob:J_}(q:h.get? b=some ob)(n:H b=none)(hx:b∉ex):∃sl,h1.get? b=some {ob with slots:=sl}:=by
 by_cases hb:b∈fs
 .exact u.slot b ob q n hb hx
 .exact⟨ob.slots,u.keep b ob q n hb hx⟩
theorem Un.kept (k:∀b u,h.get? b=some u->h'.get? b=some u):Un fs ex H H h h':=⟨λb ob q _ _ _=>k b ob q,λb ob q _ _ _=>⟨ob.slots,k b ob q⟩,λ_ _ _ n _=>n,λb ob q _=>⟨ob,k b ob q⟩,λ_ _ q=>q,λ_ _ _ q=>q,λ_ ps q=>⟨#[],by rw[q];simp⟩⟩
theorem Un.refl:Un fs ex H H h h:=Un.kept λ_ _ q=>q
theorem Un.laid (k:∀b u,h.get? b=some u->h'.get? b=some u)(hp:h.objs.size<=a)(hn:H a=none):Un fs ex H (upd H a o) h h' where
 keep:=λb u q _ _ _=>k b u q
 slot:=λb u q _ _ _=>⟨u.slots,k b u q⟩
 free:=λb u q n _=>by rw[jd (N? (F? (u? q) hp))];exact n
 there:=λb u q _=>⟨u,k b u q⟩
 cj:=λb xs q=>by rw[jd (jh q hn)];exact q
 dU:=λb u xs q=>by rw[jd (jh q hn)];exact q
 eU:=λb ps q=>⟨#[],by rw[jd (jh q hn),q];simp⟩
theorem Un.write (mu:fO (H x))(he:e=x\/H e=some (.own x))(k:∀b u,b≠e->h.get? b=some u->h'.get? b=some u)(rH:∃u,h'.get? e=some u):Un fs ex H (upd H x o) h h':=by
 have hx:∀b,H b=none->b≠x:=λb n z=>by subst z;rw[n]at mu;exact mu
 have hb:∀b,H b=none->b≠e:=λb n z=>by
  subst z;rcases he with r|r
  .exact hx b n r
  .rw[n]at r;cases r
 have hm:∀b u,H b=some u->¬fO (some u)->b≠x:=λb u q nm z=>by subst z;rw[q]at mu;exact nm mu
 refine⟨λb u q n _ _=>k b u (hb b n) q,λb u q n _ _=>⟨u.slots,k b u (hb b n) q⟩,λb u q n _=>by rw[jd (hx b n)];exact n,λb u q _=>?_,λb xs q=>by rw[jd (hm b _ q λz=>z)];exact q,λb u xs q=>by rw[jd (hm b _ q λz=>z)];exact q,λb ps q=>⟨#[],by rw[jd (hm b _ q λz=>z),q];simp⟩⟩;by_cases oU:b=e
 .subst oU;exact rH
 .exact⟨u,k b u oU q⟩
end
noncomputable def lP (h:k_)(H:Hp):b? c_:=(U_ h.objs.size).filter λa=>(H a).isSome
noncomputable def lQ (h:k_)(H:Hp):k_:=ð h (lP h H)
theorem Sf (h:k_)(H:Hp):(lQ h H).objs.size=h.objs.size:=PySem.W.hideAll_size _ _
theorem Sg {h:k_}{H:Hp}{b:c_}{o:J_}(e:h.get? b=some o)(n:H b=none):(lQ h H).get? b=some o:=abL _ e λhm=>by have q:(H b).isSome=true:=(Č.mp hm).2;rw[n]at q;simp at q
theorem Sh {h:k_}{H:Hp}{b:c_}{o:J_}(e:(lQ h H).get? b=some o):h.get? b=some o/\H b=none:=by
 have e':h.get? b=some o:=ab7 (lP h H) e;refine⟨e',?_⟩;cases q:H b with
 |none=>rfl
 |some x=>have hm:b∈lP h H:=Č.mpr ⟨ħ.mpr (u? e'),by simp[q]⟩;have z:(lQ h H).get? b=none:=Ş (lP h H) hm;rw[z]at e;cases e
structure Mod (K:e?)(mg:y_->f_ b_)(base:k_):Prop where
 eV:K.In base
 glob:base.Ns Þ mg
 blt:∃mb,base.Ns ab5 mb/\∀x:y_,x≠"__name__"->mb x=N4 x
 nolimit:base.NoLimit
structure Cx where
 prog:n_
 w:z?
 K:e?
 mg:y_->f_ b_
 base:k_
 A:B?
 N:b? y_
 au:d_
 bC:Hp
 env:š
 outer:b? š
 stack:b? š
 ex:b? c_
 fn:y_->s?
 calm:s?
 pn:b? (c_×J_)
 xe:b_->d_->Prop
noncomputable def bu (l:b? š):b? c_:=l.filterMap (·.frame)
noncomputable abbrev Cx.fs (X:Cx):b? c_:=bu X.outer
noncomputable def tQ (sc:Xg)(x:y_):Prop:=sc.names.lookup x=some .local\/sc.names.lookup x=some .cell\/sc.names.lookup x=some .free
noncomputable def Loc (sc:Xg)(x:y_):Prop:=sc.names.lookup x=some .local\/sc.names.lookup x=some .cell
noncomputable def Look (env:š)(h:k_)(m:y_->f_ b_)(x:y_)(u:b_):Prop:=(env.kindOf x=some .local/\m x=some u)\/((env.kindOf x=some .cell\/env.kindOf x=some .free)/\∃c,env.cells.lookup x=some c/\h.IsCell c (some u))
structure Cx.Ok (X:Cx):Prop where
 mod:Mod X.K X.mg X.base
 kind:X.env.scope.kind= .function
 glob:X.env.globals=Þ
 blt:X.env.builtins=ab5
 above:X.au.heap.objs.size<=X.env.locals
 inj:∀x y c,X.env.cells.lookup x=some c->X.env.cells.lookup y=some c->x=y
 has:∀x,(X.env.kindOf x=some .cell\/X.env.kindOf x=some .free)->∃c,X.env.cells.lookup x=some c
 oV:∀x c,X.fn x=true->X.env.cells.lookup x=some c->X.au.heap.objs.size<=c
 hd:X.calm=true->X.A.handled=none
 frames:X.A.frames=some X.stack
 dy:X.stack=X.outer\/(X.stack=X.env::X.outer/\X.env.frame=some X.env.locals)
 zB:∀b∈X.ex,b≠X.env.locals/\∀x c,X.env.cells.lookup x=some c->c≠b
 bs:∀b o,X.base.get? b=some o->X.au.heap.get? b=some o/\X.bC b=none
 kG:X.base.objs.size<=X.au.heap.objs.size
 oW:∀b o,X.base.get? b=some o->b∉X.ex
 rJ:∀b∈X.ex,b∉X.fs
 fP:X.au.heap.FunFrames X.base X.outer
 i5:∀b∈X.fs,X.bC b=none
structure Inv (X:Cx)(pins:b? (c_×J_))(U:b? (f_ V))(H:Hp)(s:d_):Prop where
 ok:X.Ok
 os:s.os=X.au.os
 bare:ŗ s.gens
 base:Un X.fs X.ex X.bC H X.au.heap s.heap
 loc:∃m,s.heap.Ns X.env.locals m/\∀(i:j?)(x:y_)(v:V),X.N[i]?=some x->U[i]?=some (some v)->tQ X.env.scope x->∃u,RelV v u/\Look X.env s.heap m x u
 cell:∀x c,X.env.cells.lookup x=some c->∃v,s.heap.IsCell c v
 free:H X.env.locals=none
 dW:∀x c,X.env.cells.lookup x=some c->H c=none
 pin:∀p∈X.pn++pins,s.heap.get? p.1=some p.2/\H p.1=none/\p.1≠X.env.locals/\p.1∉X.fs/\∀v,p.2.data≠.cell v
 ag:bK X.prog X.w H s.heap
 len:U.length=X.N.length
section
variable {X:Cx}{pins:b? (c_×J_)}{U:b? (f_ V)}{H H':Hp}{s:d_}{h':k_}
theorem Cx.Ok.Si (ok:X.Ok){b:c_}{o:J_}(e:X.base.get? b=some o):b∉X.fs:=λhb=>by have:=(ok.fP.mem hb).1;rw[e]at this;cases this
theorem Inv.bs (I:Inv X pins U H s):∀b o,X.base.get? b=some o->s.heap.get? b=some o/\H b=none:=λb o e=>⟨I.base.keep b o (I.ok.bs b o e).1 (I.ok.bs b o e).2 (I.ok.Si e) (I.ok.oW b o e),I.base.free b o (I.ok.bs b o e).1 (I.ok.bs b o e).2 (I.ok.oW b o e)⟩
theorem Inv.bk (I:Inv X pins U H s):∀b o,X.base.get? b=some o->s.heap.get? b=some o:=λb o e=>(I.bs b o e).1
theorem Inv.mod (I:Inv X pins U H s):Mod X.K X.mg X.base:=I.ok.mod
theorem Inv.aW (I:Inv X pins U H s):X.K.In s.heap:=I.ok.mod.eV.keeps I.bk
theorem Inv.lt (I:Inv X pins U H s):X.env.locals<s.heap.objs.size:=let⟨_,hn,_⟩:=I.loc;hn.lt
theorem Inv.sz (I:Inv X pins U H s):X.au.heap.objs.size<=s.heap.objs.size:=K? I.ok.above (Ć I.lt)
theorem Inv.KC (I:Inv X pins U H s){a:c_}(h:s.heap.objs.size<=a):a∉X.fs:=λhb=>by obtain⟨_,o,ho,_⟩:=I.ok.fP.mem hb;exact v_ (F? (u? ho) (K? I.sz h)) (ý _)
theorem Inv.i6 (I:Inv X pins U H s):∀x c,X.env.cells.lookup x=some c->c≠X.env.locals:=λx c e z=>by obtain⟨v,o,ho,hd⟩:=I.cell x c e;obtain⟨m,⟨o',es,ep,aQ,aX,_⟩,_⟩:=I.loc;rw[z,aQ]at ho;cases ho;rw[aX]at hd;cases hd
theorem Inv.fP (I:Inv X pins U H s):s.heap.FunFrames X.base X.outer:=by
 have all:∀(l:b? š),(∀b∈bu l,b∈X.fs)->X.au.heap.FunFrames X.base l->s.heap.FunFrames X.base l:=by
  intro l;induction l with
  |nil=>intro _ _;trivial
  |cons env r ih=>intro hs hl;obtain⟨hk,⟨L,o,hf,hn,ho,hd⟩,hr⟩:=hl;have hL:L∈X.fs:=hs L (by unfold bu;rw[ě,hf];exact t?);obtain⟨sl,e⟩:=I.base.slot L o ho (I.ok.i5 L hL) hL λz=>I.ok.rJ L z hL;exact⟨hk,(xa0 L _ ⟨hf,hn,e,hd⟩),ih (λb hb=>hs b (by unfold bu;rw[ě,hf];exact u_ _ hb)) hr⟩
 exact all X.outer (λ_ hb=>hb) I.ok.fP
theorem Inv.stack (I:Inv X pins U H s):s.heap.FunFrames X.base X.stack:=by
 rcases I.ok.dy with e|⟨e,hf⟩
 .rw[e];exact I.fP
 .rw[e];obtain⟨m,hn,_⟩:=I.loc;refine .cons (by rw[I.ok.kind];decide) hf hn ?_ I.fP;exact ķ (K? I.ok.kG I.ok.above)
theorem Inv.oX (I:Inv X pins U H s):∀b∈bu X.stack,b∈X.env.locals::X.fs:=λb hb=>by
 rcases I.ok.dy with e|⟨e,hf⟩
 .rw[e]at hb;exact u_ _ hb
 .rw[e]at hb;unfold bu at hb;rw[ě,hf]at hb;exact hb
theorem Inv.zC (I:Inv X pins U H s):∀b∈bu X.stack,H b=none:=λb hb=>by
 rcases B_.mp (I.oX b hb)with e|hb
 .rw[e];exact I.free
 .obtain⟨_,o,ho,_⟩:=I.ok.fP.mem hb;exact I.base.free b o ho (I.ok.i5 b hb) λz=>I.ok.rJ b z hb
theorem Inv.step {g':C? aca}{t':j?}{d':Drawn}{ch:b? c_}(I:Inv X pins U H s)(kH:∀b∈ch,(b∈X.ex\/X.au.heap.objs.size<=b)/\b≠X.env.locals/\(∀x c,X.env.cells.lookup x=some c->c≠b)/\∀p∈X.pn++pins,p.1≠b)(keep:∀b o,b≠X.env.locals->b∉X.fs->b∉ch->s.heap.get? b=some o->H b=none->h'.get? b=some o)(slot:∀b o,b≠X.env.locals->b∈X.fs->b∉ch->s.heap.get? b=some o->H b=none->∃sl,h'.get? b=some {o with slots:=sl})(free:∀b o,b∉ch->s.heap.get? b=some o->H b=none->H' b=none)(there:∀b o,b∉ch->s.heap.get? b=some o->∃o',h'.get? b=some o')(cj:∀b xs,H b=some (.tup xs)->H' b=some (.tup xs))(dU:∀b o u,H b=some (.az o u)->H' b=some (.az o u))(eU:∀b ps,H b=some (.nj ps)->∃more,H' b=some (.nj (ps++more)))(ns:∀m,s.heap.Ns X.env.locals m->h'.Ns X.env.locals m)(ag:bK X.prog X.w H' h')(hg:ŗ g'):
  Inv X pins U H' {s with heap:=h',gens:=g',drawn:=d',toks:=t'}:=by
 have ny:∀b o,X.au.heap.get? b=some o->b≠X.env.locals:=λb o e=>N? (F? (u? e) I.ok.above);have oY:∀b o,X.au.heap.get? b=some o->b∉X.ex->b∉ch:=λb o e hx hb=>by
  rcases(kH b hb).1 with z|z
  .exact hx z
  .exact v_ (F? (u? e) z) (ý _)
 have cellK:∀x c,X.env.cells.lookup x=some c->∀v,s.heap.IsCell c v->h'.IsCell c v:=λx c e v ⟨o,ho,hd⟩=>by
  have kI:c∉ch:=λz=>(kH c z).2.2.1 x c e a_;by_cases hc:c∈X.fs
  .obtain⟨sl,q⟩:=slot c o (I.i6 x c e) hc kI ho (I.dW x c e);exact⟨_,q,hd⟩
  .exact⟨o,keep c o (I.i6 x c e) hc kI ho (I.dW x c e),hd⟩
 refine⟨I.ok,I.os,hg,⟨λb o e n hb hx=>?_,λb o e n hb hx=>?_,λb o e n hx=>?_,λb o e hx=>?_,λb xs e=>cj b xs (I.base.cj b xs e),λb o xs e=>dU b o xs (I.base.dU b o xs e),λb ps e=>?_⟩,?_,λx c e=>?_,?_,λx c e=>?_,λp hp=>?_,ag,I.len⟩
 .exact keep b o (ny b o e) hb (oY b o e hx) (I.base.keep b o e n hb hx) (I.base.free b o e n hx)
 .obtain⟨sl,e1⟩:=I.base.slot b o e n hb hx;obtain⟨oZ,e2⟩:=slot b _ (ny b o e) hb (oY b o e hx) e1 (I.base.free b o e n hx);exact⟨oZ,e2⟩
 .obtain⟨o',e1⟩:=I.base.there b o e hx;exact free b o' (oY b o e hx) e1 (I.base.free b o e n hx)
 .obtain⟨o',e1⟩:=I.base.there b o e hx;exact there b o' (oY b o e hx) e1
 .obtain⟨m1,e1⟩:=I.base.eU b ps e;obtain⟨m2,e2⟩:=eU b _ e1;exact⟨m1++m2,by rw[e2,ad3]⟩
 .obtain⟨m,hn,hl⟩:=I.loc;refine⟨m,ns m hn,λi x v e1 e2 e3=>?_⟩;obtain⟨u,r,l⟩:=hl i x v e1 e2 e3;refine⟨u,r,?_⟩;rcases l with l|⟨k,c,e,z⟩
  .exact .inl l
  .exact .inr ⟨k,c,e,cellK x c e _ z⟩
 .obtain⟨v,z⟩:=I.cell x c e;exact⟨v,cellK x c e v z⟩
 .obtain⟨m,⟨o,_,_,ho,_⟩,_⟩:=I.loc;exact free _ o (λz=>(kH _ z).2.1 a_) ho I.free
 .obtain⟨v,o,ho,hd⟩:=I.cell x c e;exact free c o (λz=>(kH c z).2.2.1 x c e a_) ho (I.dW x c e)
 .obtain⟨e,n,ne,nf,d⟩:=I.pin p hp;have kI:p.1∉ch:=λz=>(kH p.1 z).2.2.2 p hp a_;exact⟨keep p.1 p.2 ne nf kI e n,free p.1 p.2 kI e n,ne,nf,d⟩
theorem Inv.un {t':j?}(I:Inv X pins U H s)(u:Un X.fs [] H H' s.heap h')(ag:bK X.prog X.w H' h'):Inv X pins U H' {s with heap:=h',toks:=t'}:=by
 obtain⟨m,⟨o,es,ep,ho,r⟩,_⟩:=id I.loc;obtain⟨sl,hL⟩:=u.any ho I.free (by simp);exact I.step (g':=s.gens) (d':=s.drawn) (ch:=[]) (λ_ z=>nomatch z) (λb o _ hb _ e n=>u.keep b o e n hb (by simp)) (λb o _ hb _ e n=>u.slot b o e n hb (by simp)) (λb o _ e n=>u.free b o e n (by simp)) (λb o _ e=>u.there b o e (by simp)) u.cj u.dU u.eU (λm' hm=>by obtain⟨o',gB,dX,aQ,r'⟩:=hm;rw[ho]at aQ;cases aQ;exact(xa1 _ gB dX ⟨hL,r'⟩)) ag I.bare
theorem Inv.call {g':C? aca}{t':j?}{d':Drawn}{ch:b? c_}(I:Inv X pins U H s)(u:Un (bu X.stack) ch H H' s.heap h')(ag:bK X.prog X.w H' h')(hg:ŗ g')(kH:∀b∈ch,(b∈X.ex\/X.au.heap.objs.size<=b)/\b≠X.env.locals/\(∀x c,X.env.cells.lookup x=some c->c≠b)/\∀p∈X.pn++pins,p.1≠b):
  Inv X pins U H' {s with heap:=h',gens:=g',drawn:=d',toks:=t'}:=by
 obtain⟨m,⟨o,es,ep,ho,r⟩,_⟩:=id I.loc;obtain⟨sl,hL⟩:=u.any ho I.free λz=>(kH _ z).2.1 a_;exact I.step (ch:=ch) kH (λb o hL hb hc e n=>u.keep b o e n (λz=>(B_.mp (I.oX b z)).elim hL hb) hc) (λb o _ _ hc e n=>u.any e n hc) (λb o hc e n=>u.free b o e n hc) (λb o hc e=>u.there b o e hc) u.cj u.dU u.eU (λm' hm=>by obtain⟨o',gB,dX,aQ,r'⟩:=hm;rw[ho]at aQ;cases aQ;exact(xa1 _ gB dX ⟨hL,r'⟩)) ag hg
theorem Inv.turned {t':j?}{it:c_}(I:Inv X pins U H s)(k:∀b o,b≠it->s.heap.get? b=some o->h'.get? b=some o)(hn:H it=none)(hL:it≠X.env.locals)(h1:it∈X.ex\/X.au.heap.objs.size<=it)(h2:∀x c,X.env.cells.lookup x=some c->c≠it)(h3:∀p∈X.pn++pins,p.1≠it):Inv X pins U H {s with heap:=h',toks:=t'}:=by
 have KG:∀b u,H b=some u->b≠it:=λb u e z=>by rw[z,hn]at e;cases e
 refine I.step (g':=s.gens) (d':=s.drawn) (ch:=[it]) (λb hb=>?_) (λb o _ _ hc e _=>k b o (λz=>hc (by simp[z])) e) (λb o _ _ hc e _=>⟨o.slots,k b o (λz=>hc (by simp[z])) e⟩) (λ_ _ _ _ n=>n) (λb o hc e=>⟨o,k b o (λz=>hc (by simp[z])) e⟩) (λ_ _ e=>e) (λ_ _ _ e=>e) (λb ps e=>⟨#[],by rw[e];simp⟩) (λm hm=>?_) (λb u e=>?_) I.bare
 .have e:b=it:=by simpa using hb
  subst e;exact⟨h1,hL,h2,h3⟩
 .obtain⟨o,es,ep,ho,r⟩:=hm;exact(xa1 o es ep ⟨k _ o (Í hL) ho,r⟩)
 .refine(I.ag b u e).dh (λc v hc q=>k c v ?_ q) (λ_ q=>q) λ_ _ q=>q;rcases hc with z|z
  .rw[z];exact KG b u e
  .exact KG c _ z
theorem Inv.tok (I:Inv X pins U H s)(t:j?):Inv X pins U H {s with toks:=t}:=I.un (h':=s.heap) (t':=t) Un.refl I.ag
theorem Inv.kept {t':j?}(I:Inv X pins U H s)(k:∀b u,s.heap.get? b=some u->h'.get? b=some u):Inv X pins U H {s with heap:=h',toks:=t'}:=I.un (Un.kept k) (I.ag.kept k)
theorem Inv.laid {a:c_}{o:HO}{t':j?}(I:Inv X pins U H s)(k:∀b u,s.heap.get? b=some u->h'.get? b=some u)(hp:s.heap.objs.size<=a)(new:y0 X.prog X.w (upd H a o) h' a o):Inv X pins U (upd H a o) {s with heap:=h',toks:=t'}:=I.un (Un.laid k hp (I.ag.fresh hp)) (I.ag.laid k hp new)
theorem Inv.write {x e:c_}{o:HO}{t':j?}(I:Inv X pins U H s)(mu:fO (H x))(he:e=x\/H e=some (.own x))(k:∀b u,b≠e->s.heap.get? b=some u->h'.get? b=some u)(rH:∃u,h'.get? e=some u)(new:y0 X.prog X.w (upd H x o) h' x o):Inv X pins U (upd H x o) {s with heap:=h',toks:=t'}:=I.un (Un.write mu he k rH) (I.ag.write mu he k rH new)
theorem Inv.zE {bM:b? (c_×J_)}(I:Inv X pins U H s)(h:∀p∈bM,s.heap.get? p.1=some p.2/\H p.1=none/\p.1≠X.env.locals/\p.1∉X.fs/\∀v,p.2.data≠.cell v):Inv X bM U H s:=⟨I.ok,I.os,I.bare,I.base,I.loc,I.cell,I.free,I.dW,λp hp=>(A_.mp hp).elim (λz=>I.pin p (X_ _ z)) (h p),I.ag,I.len⟩
theorem Dm {N:b? y_}(hN:N.Nodup){i j:j?}{x:y_}(a:N[i]?=some x)(b:N[j]?=some x):i=j:=by obtain⟨h1,e1⟩:=xv.mp a;obtain⟨h2,e2⟩:=xv.mp b;exact(abH hN).mp (e1.trans e2.symm)
theorem KH {M:aaJ}{A:B?}{E:b_->d_->Prop}{i:j?}{x:y_}{v:V}{u:b_}{Q:Unit->d_->Prop}(I:Inv X pins U H s)(hN:X.N.Nodup)(hi:X.N[i]?=some x)(hx:Loc X.env.scope x)(r:RelV v u)(h:∀s',Inv X pins (U.set i (some v)) H s'->(∃a,F_ a s.heap s'.heap/\(a=X.env.locals\/X.env.cells.lookup x=some a))->Q () s')(hf:e_ (X.fn x=true\/X.env.scope.names.lookup x=some .local) aP5):l_ M A (storeName X.env x u) Q E s:=by
 obtain⟨m,hn,hl⟩:=id I.loc;have Dn:(X.env.scope.kind== .class||(X.env.scope.kind== .module&&X.env.locals != X.env.globals))=false:=by rw[I.ok.kind];rfl
 have rK:i<U.length:=by rw[I.len];exact(xv.mp hi).1
 have i6:=I.i6;have tracked:∀{a:c_}{h':k_},(∃o,s.heap.get? a=some o/\H a=none)->F_ a s.heap h'->bK X.prog X.w H h':=λ{a h'} ha hs b ob e=>by
  obtain⟨_,_,nA⟩:=ha;refine(I.ag b ob e).dh (λc w' hc q=>(hs.2 c ?_).trans q) (λ_ q=>q) λ_ _ q=>q
  rintro rfl
  rcases hc with rfl|hc
  .rw[nA]at e;cases e
  .rw[nA]at hc;cases hc
 rcases hx with hk|hk
 .refine wpAny_storeName_local hk hn (λh' nB hs=>?_) Dn;obtain⟨oL,_,_,KI,_⟩:=id hn;refine h _ ⟨I.ok,I.os,I.bare,⟨λb o e n hb hx=>?_,λb o e n hb hx=>?_,I.base.free,λb o e hx=>?_,I.base.cj,I.base.dU,I.base.eU⟩,⟨_,nB,λj y v' e1 e2 e3=>?_⟩,λy c e=>?_,I.free,I.dW,λp hp=>?_,tracked ⟨oL,KI,I.free⟩ hs,by simpa using I.len⟩ ⟨_,hs,.inl a_⟩
  .exact(hs.2 b (N? (F? (u? e) I.ok.above))).trans (I.base.keep b o e n hb hx)
  .obtain⟨sl,e1⟩:=I.base.slot b o e n hb hx;exact⟨sl,(hs.2 b (N? (F? (u? e) I.ok.above))).trans e1⟩
  .obtain⟨o',e1⟩:=I.base.there b o e hx;exact⟨o',(hs.2 b (N? (F? (u? e) I.ok.above))).trans e1⟩
  .by_cases hj:j=i
   .subst hj;rw[hi]at e1;cases e1;rw[Ç rK]at e2;cases e2;exact⟨u,r,.inl ⟨hk,by simp⟩⟩
   .rw[ċ (Í hj)]at e2;obtain⟨u',r',q⟩:=hl j y v' e1 e2 e3;refine⟨u',r',?_⟩;rcases q with⟨k,e⟩|⟨k,c,e,z⟩
    .refine .inl ⟨k,?_⟩;have:y≠x:=λe=>hj (Dm hN e1 (e ▸ hi));simp[this,e]
    .exact .inr ⟨k,c,e,z.sameBut hs (i6 y c e)⟩
  .obtain⟨w',z⟩:=I.cell y c e;exact⟨w',z.sameBut hs (i6 y c e)⟩
  .obtain⟨e,n,ne,nf,d⟩:=I.pin p hp;exact⟨(hs.2 p.1 ne).trans e,n,ne,nf,d⟩
 .have Dp:X.fn x=true:=by
   rcases hf with z|z
   .exact z
   .rw[z]at hk;cases hk
  obtain⟨c,hc⟩:=I.ok.has x (.inl hk);obtain⟨w',z⟩:=I.cell x c hc;refine wpAny_storeName_cell I.ok.kind hk hc z (λh' il hs=>?_);obtain⟨oc,zF,Dq⟩:=id z;refine h {s with heap:=h'} ⟨I.ok,I.os,I.bare,⟨λb o e n hb hx=>?_,λb o e n hb hx=>?_,I.base.free,λb o e hx=>?_,I.base.cj,I.base.dU,I.base.eU⟩,⟨m,hn.sameBut hs (Í (i6 x c hc)),λj y v' e1 e2 e3=>?_⟩,λy c' e=>?_,I.free,I.dW,λp hp=>?_,tracked ⟨oc,zF,I.dW x c hc⟩ hs,by simpa using I.len⟩ ⟨c,hs,.inr hc⟩
  .exact(hs.2 b (N? (F? (u? e) (I.ok.oV x c Dp hc)))).trans (I.base.keep b o e n hb hx)
  .obtain⟨sl,e1⟩:=I.base.slot b o e n hb hx;exact⟨sl,(hs.2 b (N? (F? (u? e) (I.ok.oV x c Dp hc)))).trans e1⟩
  .obtain⟨o',e1⟩:=I.base.there b o e hx;exact⟨o',(hs.2 b (N? (F? (u? e) (I.ok.oV x c Dp hc)))).trans e1⟩
  .by_cases hj:j=i
   .subst hj;rw[hi]at e1;cases e1;rw[Ç rK]at e2;cases e2;exact⟨u,r,.inr ⟨.inl hk,c,hc,il⟩⟩
   .rw[ċ (Í hj)]at e2;obtain⟨u',r',q⟩:=hl j y v' e1 e2 e3;refine⟨u',r',?_⟩;rcases q with q|⟨k,c',e,z'⟩
    .exact .inl q
    .refine .inr ⟨k,c',e,z'.sameBut hs ?_⟩
     rintro rfl
     exact hj (Dm hN e1 (I.ok.inj _ _ _ e hc ▸ hi))
  .by_cases KJ:c'=c
   .subst KJ;exact⟨_,il⟩
   .obtain⟨w2,z2⟩:=I.cell y c' e;exact⟨w2,z2.sameBut hs KJ⟩
  .obtain⟨e,n,ne,nf,d⟩:=I.pin p hp;refine⟨(hs.2 p.1 ?_).trans e,n,ne,nf,d⟩;intro q;rw[q,zF]at e;have q':oc=p.2:=o_ e;exact d w' (by rw[<-q'];exact Dq)
theorem zG {M:aaJ}{A:B?}{E:b_->d_->Prop}{i:j?}{x:y_}{v:V}{u:b_}{Q:Unit->d_->Prop}(I:Inv X pins U H s)(hN:X.N.Nodup)(hi:X.N[i]?=some x)(hx:Loc X.env.scope x)(r:RelV v u)(h:∀s',Inv X pins (U.set i (some v)) H s'->Q () s')(hf:e_ (X.fn x=true\/X.env.scope.names.lookup x=some .local) aP5):l_ M A (storeName X.env x u) Q E s:=
 KH I hN hi hx r (λs' I' _=>h s' I') hf
theorem Inv.Dr {s':d_}{ch:b? c_}(I:Inv X pins U H s)(ho:s'.os=s.os)(u:Un (bu X.stack) ch H H' s.heap s'.heap)(ag:bK X.prog X.w H' s'.heap)(hg:ŗ s'.gens)(kH:∀b∈ch,(b∈X.ex\/X.au.heap.objs.size<=b)/\b≠X.env.locals/\(∀x c,X.env.cells.lookup x=some c->c≠b)/\∀p∈X.pn++pins,p.1≠b):Inv X pins U H' s':=by
 obtain⟨h',g',d',t',o'⟩:=s';have e:o'=s.os:=ho;subst e;exact I.call (g':=g') (t':=t') (d':=d') u ag hg kH
end
noncomputable abbrev XK:=b_->f_ c_->Hp->Prop
noncomputable abbrev St:=b? (f_ V)
noncomputable abbrev VK:=V->Hp->Prop
noncomputable abbrev TE:=St->Hp->VK->Prop
noncomputable abbrev TT:=St->Hp->(s?->Hp->Prop)->Prop
noncomputable abbrev TA:=St->Hp->(b? V->Hp->Prop)->Prop
structure Ends where
 nx:St->Hp->Prop
 rt:VK
 bk:St->Hp->Prop:=λ_ _=>v?
 ct:St->Hp->Prop:=λ_ _=>v?
noncomputable abbrev TS:=Ends->St->Hp->Prop
noncomputable def EP (X:Cx)(pins:b? (c_×J_))(U:St)(Q:VK)(u:b_)(s':d_):Prop:=∃v H',Inv X pins U H' s'/\RelV v u/\Q v H'
noncomputable def TP (X:Cx)(pins:b? (c_×J_))(U:St)(Q:s?->Hp->Prop)(b:s?)(s':d_):Prop:=∃H',Inv X pins U H' s'/\Q b H'
noncomputable def AP (X:Cx)(pins:b? (c_×J_))(U:St)(Q:b? V->Hp->Prop)(us:b? b_)(s':d_):Prop:=∃vs H',Inv X pins U H' s'/\Vals vs us/\Q vs H'
noncomputable def SP (X:Cx)(pins:b? (c_×J_))(D:Ends)(f:Flow)(s':d_):Prop:=match f with
 | .next=>∃U' H',Inv X pins U' H' s'/\D.nx U' H'
 | .brk=>∃U' H',Inv X pins U' H' s'/\D.bk U' H'
 | .cont=>∃U' H',Inv X pins U' H' s'/\D.ct U' H'
 | .ret u=>∃v U' H',Inv X pins U' H' s'/\RelV v u/\D.rt v H'
noncomputable def PE (X:Cx)(e:G?)(t:TE):Prop:=∀(pins:b? (c_×J_))(s:d_)(U:St)(H:Hp)(Q:VK),Inv X pins U H s->t U H Q->l_ (m_ X.prog X.w) X.A (T? e X.env) (EP X pins U Q) X.xe s
noncomputable def PT (X:Cx)(e:G?)(t:TT):Prop:=∀(pins:b? (c_×J_))(s:d_)(U:St)(H:Hp)(Q:s?->Hp->Prop),Inv X pins U H s->t U H Q->l_ (m_ X.prog X.w) X.A (abY e X.env (T? e X.env)) (TP X pins U Q) X.xe s
noncomputable def PW (X:Cx)(e:G?)(t:TT):Prop:=∀(whole:Ģ b_)(pins:b? (c_×J_))(s:d_)(U:St)(H:Hp)(Q:s?->Hp->Prop),Inv X pins U H s->t U H Q->l_ (m_ X.prog X.w) X.A (abY e X.env whole) (TP X pins U Q) X.xe s
theorem PW.pt {X:Cx}{e:G?}{t:TT}(h:PW X e t):PT X e t:=h _
noncomputable def PA (X:Cx)(es:b? G?)(t:TA):Prop:=∀(pos:Ī)(pins:b? (c_×J_))(s:d_)(U:St)(H:Hp)(Q:b? V->Hp->Prop),Inv X pins U H s->t U H Q->l_ (m_ X.prog X.w) X.A (spliced (Y? pos (x_ es X.env))) (AP X pins U Q) X.xe s
noncomputable def PS (X:Cx)(st:I_)(t:TS):Prop:=∀(pins:b? (c_×J_))(s:d_)(U:St)(H:Hp)(D:Ends),Inv X pins U H s->t D U H->l_ (m_ X.prog X.w) X.A (exec st X.env) (SP X pins D) X.xe s
noncomputable def dj (X:Cx)(st:b? I_)(t:TS):Prop:=∀(pins:b? (c_×J_))(s:d_)(U:St)(H:Hp)(D:Ends),Inv X pins U H s->t D U H->l_ (m_ X.prog X.w) X.A (execs st X.env) (SP X pins D) X.xe s
theorem ai {α:Type}{t:Ģ α}{Q Q':α->d_->Prop}{M:aaJ}{A:B?}{E:b_->d_->Prop}{s:d_}(h:l_ M A t Q E s)(hQ:∀a s,Q a s->Q' a s):l_ M A t Q' E s:=F' h hQ λ_ _ x=>x
section
variable {X:Cx}
theorem bin {a b:G?}{ta tb:TE}(ha:PE X a ta)(hb:PE X b tb){pins:b? (c_×J_)}{s:d_}{U:St}{H:Hp}{R:V->V->Hp->Prop}(I:Inv X pins U H s)(h:ta U H λx H1=>tb U H1 λy H2=>R x y H2){α:Type}{Q:α->d_->Prop}{f:b_->b_->Ģ α}(hf:∀v u s2 x y H2,Inv X pins U H2 s2->RelV x v->RelV y u->R x y H2->l_ (m_ X.prog X.w) X.A (f v u) Q X.xe s2):
  l_ (m_ X.prog X.w) X.A (T? a X.env) (λv aj=>l_ (m_ X.prog X.w) X.A (T? b X.env) (λu ae=>l_ (m_ X.prog X.w) X.A (f v u) Q X.xe ae) X.xe aj) X.xe s:=by
 refine ai (ha pins s U H _ I h) λv s1 zQ=>?_;obtain⟨x,H1,I1,r1,q1⟩:=zQ;refine ai (hb pins s1 U H1 _ I1 q1) λu s2 zQ=>?_;obtain⟨y,H2,I2,r2,q2⟩:=zQ;exact hf v u s2 x y H2 I2 r1 r2 q2
noncomputable def KL (i:j?):TE:=λ U H Q=>∃v,U[i]?=some (some v)/\Q v H
noncomputable def tC (v:V):TE:=λ_ H Q=>Q v H
theorem Sj {i:j?}{x:y_}{pos:Ī}(hN:X.N[i]?=some x)(hv:tQ X.env.scope x)(hd:e_ ((x==("__debug__":y_))=false) aP2)(eW:e_ ((x==("__classdict__":y_))=false) aP2):PE X (.Name x pos) (KL i):=by
 intro pins s U H Q I h;obtain⟨v,e,h⟩:=h;obtain⟨m,hn,hl⟩:=I.loc;obtain⟨u,r,l⟩:=hl i x v hN e hv;have fin:EP X pins U Q u s:=(xa0 v H ⟨I,r,h⟩);rcases l with⟨hk,hm⟩|⟨hk,c,hc,dM⟩
 .exact adP (wpAny_loadName_local I.ok.kind hk hn hm fin) hd
 .rcases hk with hk|hk
  .exact adP (wpAny_loadName_cell I.ok.kind hk hc dM fin) hd
  .exact adP (wpAny_loadName_free I.ok.kind hk hc dM fin eW) hd
theorem jn {i j pos}:PE X (.Constant (.int i) j pos) (tC (.int i)):=λ_ _ _ H _ I h=>wpAny_Constant_int (xa0 (.int i) H ⟨I.tok _,⟨_,a_⟩,h⟩)
theorem gQ {b j pos}:PE X (.Constant (.bool b) j pos) (tC (.bl b)):=λ_ _ _ H _ I h=>Constant_bool (xa0 (.bl b) H ⟨I,a_,h⟩)
theorem i7 {j pos}:PE X (.Constant .none j pos) (tC .ar):=λ_ _ _ H _ I h=>Constant_none (xa0 .ar H ⟨I,a_,h⟩)
theorem gb {x j pos}:PE X (.Constant (.str x) j pos) (tC (.str x)):=λ_ _ _ H _ I h=>Calls.Constant_str (xa0 (.str x) H ⟨I.tok _,⟨_,a_⟩,h⟩)
noncomputable def Gl (X:Cx)(x:y_):Prop:=X.env.kindOf x=some .globalImplicit
theorem nE {E:b_->d_->Prop}{pins:b? (c_×J_)}{s:d_}{U:St}{H:Hp}{x:y_}{u:b_}{pos:Ī}{Q:b_->d_->Prop}(I:Inv X pins U H s)(hg:Gl X x)(hm:X.mg x=some u)(h:Q u s)(hd:e_ ((x==("__debug__":y_))=false) aP2):l_ (m_ X.prog X.w) X.A (T? (.Name x pos) X.env) Q E s:=
 Į I.ok.kind hg (abC (by rw[I.ok.glob];exact I.mod.glob.keeps I.bk) hm h) hd
theorem zH {E:b_->d_->Prop}{pins:b? (c_×J_)}{s:d_}{U:St}{H:Hp}{x:y_}{u:b_}{pos:Ī}{Q:b_->d_->Prop}(I:Inv X pins U H s)(hg:Gl X x)(hm:X.mg x=none)(hv:N4 x=some u)(h:Q u s)(hn:e_ (x≠"__name__") aP2)(hd:e_ ((x==("__debug__":y_))=false) aP2):l_ (m_ X.prog X.w) X.A (T? (.Name x pos) X.env) Q E s:=by
 obtain⟨mb,h1,h2⟩:=I.mod.blt;exact Į I.ok.kind hg (Calls.loadGlobal_builtin (by rw[I.ok.glob];exact I.mod.glob.keeps I.bk) hm (by rw[I.ok.blt];exact h1.keeps I.bk) ((h2 x hn).trans hv) h) hd
theorem zk {x:y_}{v:V}{u:b_}{pos:Ī}(hg:Gl X x)(hm:X.mg x=some u)(r:RelV v u)(hd:e_ ((x==("__debug__":y_))=false) aP2):PE X (.Name x pos) (tC v):=λ_ _ _ H _ I h=>nE I hg hm (xa0 v H ⟨I,r,h⟩) hd
theorem lR {x:y_}{v:V}{u:b_}{pos:Ī}(hg:Gl X x)(hm:X.mg x=none)(hv:N4 x=some u)(r:RelV v u)(hn:e_ (x≠"__name__") aP2)(hd:e_ ((x==("__debug__":y_))=false) aP2):PE X (.Name x pos) (tC v):=λ_ _ _ H _ I h=>zH I hg hm hv (xa0 v H ⟨I,r,h⟩) hn hd
variable {a b:G?}{ta tb:TE}{pos:Ī}
noncomputable def PC (X:Cx)(op:aek)(a b:G?)(t:TE):Prop:=∀(pins:b? (c_×J_))(s:d_)(U:St)(H:Hp)(Q:VK),Inv X pins U H s->t U H Q->l_ (m_ X.prog X.w) X.A (T? a X.env) (λv aj=>l_ (m_ X.prog X.w) X.A (T? b X.env) (λu ae=>l_ (m_ X.prog X.w) X.A (M? op v u) (EP X pins U Q) X.xe ae) X.xe aj) X.xe s
noncomputable def tB (t:TE):TT:=λ U H Q=>t U H λx H1=>∃c,x= .bl c/\Q c H1
theorem zI {op:aek}{t:TE}(h:PC X op a b t)(h1:aaG op b=false:=by first|exact tR _ (by decide) (by decide)|rfl):PT X (.Compare a [op] [b] pos) (tB t):=by intro pins s U H Q I hw;refine adf (ai (h pins s U H _ I hw) λv s1 h1=>ai h1 λu s2 h2=>ai h2 λc s3 zQ=>?_) h1;obtain⟨x,H1,I1,r1,q1⟩:=zQ;obtain⟨d,rfl,q⟩:=q1;cases r1;exact S? ⟨H1,I1,q⟩
theorem zt {e:G?}{t:TE}(h:PE X e t)(he:e_ (∀whole,abY e X.env whole=(do let v<-whole;ų e.pos;Ĩ [v] (truthy v))) aP3):PT X e (tB t):=by intro pins s U H Q I hw;refine isTrue_plain (ai (h pins s U H _ I hw) λv s1 zQ=>?_) (he _);obtain⟨x,H1,I1,r1,q1⟩:=zQ;obtain⟨d,rfl,q⟩:=q1;cases r1;exact S? ⟨H1,I1,q⟩
variable {tA zJ:TT}{rest:b? G?}
noncomputable def Sk (t u:TT):TT:=λ U H Q=>t U H λc H1=>if c=true then u U H1 Q else Q false H1
noncomputable def Sm (t u:TT):TT:=λ U H Q=>t U H λc H1=>if c=true then Q true H1 else u U H1 Q
noncomputable def Sn (t:TT):TT:=λ U H Q=>t U H λc H1=>Q (!c) H1
theorem lS (ha:PT X a tA):PW X (.BoolOp .And [a] pos) tA:=by
 intro wh pins s U H Q I h;refine isTrue_and (ai (ha pins s U H Q I h) λc s1 e=>?_);cases c with
 |true=>exact isTrue_and_nil e
 |false=>exact e
theorem fQ (ha:PT X a tA):PW X (.BoolOp .Or [a] pos) tA:=by
 intro wh pins s U H Q I h;refine isTrue_or (ai (ha pins s U H Q I h) λc s1 e=>?_);cases c with
 |false=>exact isTrue_or_nil e
 |true=>exact e
theorem kJ (ha:PT X a tA)(hb:PW X (.BoolOp .And (b::rest) pos) zJ):PW X (.BoolOp .And (a::b::rest) pos) (Sk tA zJ):=by
 intro wh pins s U H Q I h;refine isTrue_and (ai (ha pins s U H _ I h) λc s1 zQ=>?_);obtain⟨H1,I1,q1⟩:=zQ;cases c with
 |true=>exact hb wh pins s1 U H1 Q I1 q1
 |false=>exact⟨H1,I1,q1⟩
theorem eX (ha:PT X a tA)(hb:PW X (.BoolOp .Or (b::rest) pos) zJ):PW X (.BoolOp .Or (a::b::rest) pos) (Sm tA zJ):=by
 intro wh pins s U H Q I h;refine isTrue_or (ai (ha pins s U H _ I h) λc s1 zQ=>?_);obtain⟨H1,I1,q1⟩:=zQ;cases c with
 |true=>exact⟨H1,I1,q1⟩
 |false=>exact hb wh pins s1 U H1 Q I1 q1
theorem xw (ha:PT X a tA):PT X (.UnaryOp .Not a pos) (Sn tA):=by intro pins s U H Q I h;exact isTrue_not (ha pins s U H (λc H1=>Q (!c) H1) I h)
noncomputable def So (ta tb:TE):TE:=λ U H Q=>ta U H λx H1=>∃c,x= .bl c/\if c=true then tb U H1 Q else Q (.bl false) H1
noncomputable def Sq (ta:TE):TE:=λ U H Q=>ta U H λx H1=>∃c,x= .bl c/\Q (.bl (!c)) H1
theorem pA {op}{t:TE}(h:PE X a t):PE X (.BoolOp op [a] pos) t:=λpins s U H Q I hw=>BoolOp_one (h pins s U H Q I hw)
theorem lT (ha:PE X a ta)(hb:PE X (.BoolOp .And (b::rest) pos) tb):PE X (.BoolOp .And (a::b::rest) pos) (So ta tb):=by
 intro pins s U H Q I h;refine BoolOp_and (ai (ha pins s U H _ I h) λv s1 zQ=>?_);obtain⟨x,H1,I1,r1,q1⟩:=zQ;obtain⟨c,rfl,q1⟩:=q1;cases r1;refine S? ?_;cases c with
 |true=>exact hb pins s1 U H1 Q I1 q1
 |false=>exact(xa0 (.bl false) H1 ⟨I1,a_,q1⟩)
theorem Sr (ha:PE X a ta):PE X (.UnaryOp .Not a pos) (Sq ta):=by intro pins s U H Q I h;refine UnaryOp_ (ai (ha pins s U H _ I h) λv s1 zQ=>?_);obtain⟨x,H1,I1,r1,q1⟩:=zQ;obtain⟨c,rfl,q1⟩:=q1;cases r1;exact not_of (S? (xa0 (.bl (!c)) H1 ⟨I1,a_,q1⟩))
noncomputable def Ss (t:TT)(ta tb:TE):TE:=λ U H Q=>t U H λc H1=>if c=true then ta U H1 Q else tb U H1 Q
theorem zK {c:G?}(hc:PT X c tA)(ha:PE X a ta)(hb:PE X b tb):PE X (.IfExp c a b pos) (Ss tA ta tb):=by
 intro pins s U H Q I h;refine wpAny_IfExp (ai (hc pins s U H _ I h) λd s1 zQ=>?_);obtain⟨H1,I1,q1⟩:=zQ;cases d with
 |true=>exact ha pins s1 U H1 Q I1 q1
 |false=>exact hb pins s1 U H1 Q I1 q1
end
noncomputable def ah (K:e?)(H:Hp)(a:c_)(xs:b? V):Prop:=Rd H a (.lst xs)\/∃(o:J_)(its:C? b_)(n:j?),K.lookup a=some o/\o.cls= .type "list"/\o.dict=none/\o.data= .seq its n/\its.size<=k?/\Vals xs its.toList
noncomputable def ax (K:e?)(H:Hp)(a:c_)(xs:b? V):Prop:=Rd H a (.tup xs)\/∃(o:J_)(its:C? b_)(n:j?),K.lookup a=some o/\o.cls= .type "tuple"/\o.data= .seq its n/\its.size<=k?/\Vals xs its.toList
noncomputable def Su:b_->f_ V
 | .none=>some .ar
 | .bool b=>some (.bl b)
 | .int i _=>some (.int i)
 | .str x _=>some (.str x)
 | .bytes b _=>some (.fZ b)
 | .float b _=>some (.ni b)
 | .ref a=>some (.ref a)
 | .type n=>some (.ty n)
 |_=>none
theorem RelV.abs {x:V}{u:b_}(r:RelV x u):Su u=some x:=by
 cases x with
 |ar=>cases r;rfl
 |bl _=>cases r;rfl
 |int _=>obtain⟨t,rfl⟩:=r;rfl
 |str _=>obtain⟨t,rfl⟩:=r;rfl
 |fZ _=>obtain⟨t,rfl⟩:=r;rfl
 |ni _=>obtain⟨t,rfl⟩:=r;rfl
 |ref _=>cases r;rfl
 |ty _=>cases r;rfl
theorem RelV.inj {x y:V}{u:b_}(r:RelV x u)(q:RelV y u):x=y:=o_ (r.abs.symm.trans q.abs)
theorem Vals.inj:∀{xs ys:b? V}{us:b? b_},Vals xs us->Vals ys us->xs=ys:=λ{xs ys us} p q=>by
 induction p generalizing ys with
 |nil=>cases q;rfl
 |cons r t ih=>
  cases q with
  |cons r' t'=>rw[r.inj r',ih t']
section
variable {X:Cx}{pins:b? (c_×J_)}{U:St}{H:Hp}{s:d_}{a:c_}{xs ys:b? V}
theorem ah.of {K:e?}(h:H a=some (.lst xs)):ah K H a xs:=.inl (.inl h)
theorem ax.of {K:e?}(h:H a=some (.tup xs)):ax K H a xs:=.inl (.inl h)
theorem Inv.list (I:Inv X pins U H s)(h:ah X.K H a xs):∃its:b? b_,Vals xs its/\PlainL s.heap a its.toArray/\xs.length<=k?:=by
 rcases h with h|⟨o,its,n,hk,hc,hd,hs,hz,r⟩
 .obtain⟨z,its,n,r,e⟩:=h.ok I.ag;exact⟨its,r,(xa0 _ n ⟨e,a_,a_,a_⟩),z⟩
 .refine⟨its.toList,r,(xa0 o n ⟨I.aW a o hk,hc,hd,by simpa using hs⟩),?_⟩;have e:=r.length;simp only[Ú]at e;lia
theorem Inv.tuple (I:Inv X pins U H s)(h:ax X.K H a xs):∃its:b? b_,Vals xs its/\ē s.heap a its.toArray/\xs.length<=k?:=by
 rcases h with h|⟨o,its,n,hk,hc,hs,hz,r⟩
 .obtain⟨z,its,r,p⟩:=h.ok I.ag;exact⟨its,r,p,z⟩
 .refine⟨its.toList,r,⟨o,I.aW a o hk,hc,n,by simpa using hs⟩,?_⟩;have e:=r.length;simp only[Ú]at e;lia
theorem Inv.KN (I:Inv X pins U H s)(h:ah X.K H a xs)(h':ah X.K H a ys):xs=ys:=by
 obtain⟨its,r,⟨o,n,e,_,_,d⟩,_⟩:=I.list h;obtain⟨its',r',⟨o',n',e',_,_,d'⟩,_⟩:=I.list h';rw[e]at e';cases e';rw[d]at d';injection d' with d1 _;have:its=its':=by simpa using T_ C?.toList d1
 subst this;exact r.inj r'
theorem Inv.rM (I:Inv X pins U H s)(h:ax X.K H a xs)(h':ax X.K H a ys):xs=ys:=by
 obtain⟨its,r,⟨o,e,_,n,d⟩,_⟩:=I.tuple h;obtain⟨its',r',⟨o',e',_,n',d'⟩,_⟩:=I.tuple h';rw[e]at e';cases e';rw[d]at d';injection d' with d1 _;have:its=its':=by simpa using T_ C?.toList d1
 subst this;exact r.inj r'
end
noncomputable abbrev Cx.kK (X:Cx)(E:b_->d_->Prop):Cx:={X with xe:=E}
noncomputable abbrev Cx.pB (X:Cx):Cx:=X.kK λ_ _=>v?
theorem Cx.Ok.kK {X:Cx}(ok:X.Ok)(E:b_->d_->Prop):(X.kK E).Ok:=⟨ok.mod,ok.kind,ok.glob,ok.blt,ok.above,ok.inj,ok.has,ok.oV,ok.hd,ok.frames,ok.dy,ok.zB,ok.bs,ok.kG,ok.oW,ok.rJ,ok.fP,ok.i5⟩
theorem Cx.Ok.nF {X:Cx}{E:b_->d_->Prop}(ok:(X.kK E).Ok):X.Ok:=⟨ok.mod,ok.kind,ok.glob,ok.blt,ok.above,ok.inj,ok.has,ok.oV,ok.hd,ok.frames,ok.dy,ok.zB,ok.bs,ok.kG,ok.oW,ok.rJ,ok.fP,ok.i5⟩
section
variable {X:Cx}{pins:b? (c_×J_)}{U:St}{H:Hp}{s:d_}{E:b_->d_->Prop}
theorem Inv.kK (I:Inv X pins U H s)(E:b_->d_->Prop):Inv (X.kK E) pins U H s:=⟨I.ok.kK E,I.os,I.bare,I.base,I.loc,I.cell,I.free,I.dW,I.pin,I.ag,I.len⟩
theorem Inv.nF (I:Inv (X.kK E) pins U H s):Inv X pins U H s:=⟨I.ok.nF,I.os,I.bare,I.base,I.loc,I.cell,I.free,I.dW,I.pin,I.ag,I.len⟩
theorem SP.nF {D:Ends}{f:Flow}{s':d_}(h:SP (X.kK E) pins D f s'):SP X pins D f s':=by
 cases f with
 |next=>obtain⟨U',H',I,q⟩:=h;exact(xa0 U' H' ⟨I.nF,q⟩)
 |brk=>obtain⟨U',H',I,q⟩:=h;exact(xa0 U' H' ⟨I.nF,q⟩)
 |cont=>obtain⟨U',H',I,q⟩:=h;exact(xa0 U' H' ⟨I.nF,q⟩)
 |ret u=>obtain⟨v,U',H',I,r,q⟩:=h;exact(xa1 v U' H' ⟨I.nF,r,q⟩)
theorem dj.pB {st:b? I_}{t:TS}(h:dj X.pB st t):dj X st t:=λpins s U H D I hw=>F' (h pins s U H D (I.kK _) hw) (λ_ _ q=>q.nF) λ_ _ z=>H? z
end
section
variable {X:Cx}{st:I_}{rest:b? I_}{t u:TS}{e:G?}{te:TE}{pos:Ī}
noncomputable def Sv:TS:=λD U H=>D.nx U H
noncomputable def KO (t u:TS):TS:=λD U H=>t {D with nx:=u D} U H
theorem qe:dj X [] Sv:=λ_ _ U H _ I h=>ĵ (xa0 U H ⟨I,h⟩)
theorem jb (h1:PS X st t)(h2:dj X rest u):dj X (st::rest) (KO t u):=by
 intro pins s U H D I h;refine aeu (ai (h1 pins s U H {D with nx:=u D} I h) λf s1 q=>?_);cases f with
 |next=>obtain⟨U',H',I',q⟩:=q;exact h2 pins s1 U' H' D I' q
 |ret v=>exact q
 |brk=>exact q
 |cont=>exact q
theorem je (h1:PS X st t):dj X [st] t:=by
 intro pins s U H D I h;refine aeu (ai (h1 pins s U H D I h) λf s1 q=>?_);cases f with
 |next=>exact ĵ q
 |ret v=>exact q
 |brk=>exact q
 |cont=>exact q
theorem Inv.quiet {pins:b? (c_×J_)}{U:St}{H:Hp}{s:d_}(I:Inv X pins U H s):interactive X.env=false:=by simp[interactive,I.ok.kind]
noncomputable def Sy (te:TE):TS:=λD U H=>te U H λ_ H1=>D.nx U H1
theorem j8 (he:PE X e te)(hs:e_ (ŧ e none pos.line X.env=Ø false) aP1):PS X (.Expr e pos) (Sy te):=by intro pins s U H D I h;exact wpAny_Expr_any (ai (he pins s U H _ I h) λv s1 ⟨x,H1,I1,r1,q1⟩=>(xa0 U H1 ⟨I1,q1⟩)) I.quiet hs
noncomputable def SE (te:TE):TS:=λD U H=>te U H D.rt
theorem j5 (he:PE X e te):PS X (.Return (some e) pos) (SE te):=by intro pins s U H D I h;exact wpAny_Return_some (ai (he pins s U H _ I h) λv s1 ⟨x,H1,I1,r1,q1⟩=>(xa1 x U H1 ⟨I1,r1,q1⟩))
noncomputable def KP (c:TT)(t u:TS):TS:=λD U H=>c U H λb H1=>if b=true then t D U H1 else u D U H1
theorem zo {c:G?}{a b:b? I_}{tc:TT}(hc:PT X c tc)(ha:dj X a t)(hb:dj X b u):PS X (.If c a b pos) (KP tc t u):=by
 intro pins s U H D I h;refine wpAny_If (ai (hc pins s U H _ I h) λd s1 zQ=>?_);obtain⟨H1,I1,q1⟩:=zQ;cases d with
 |true=>exact ha pins s1 U H1 D I1 q1
 |false=>exact hb pins s1 U H1 D I1 q1
noncomputable def KQ:TS:=λ_ _ _=>v?
theorem SG:PS X st KQ:=λ_ _ _ _ _ _ h=>h.elim
theorem zd {SH:b? I_}:dj X SH KQ:=λ_ _ _ _ _ _ h=>h.elim
end
noncomputable abbrev TG:=V->St->Hp->(St->Hp->Prop)->Prop
noncomputable abbrev pC:=b? V->St->Hp->(St->Hp->Prop)->Prop
noncomputable def PG (X:Cx)(target:G?)(t:TG):Prop:=∀(pins:b? (c_×J_))(s:d_)(U:St)(H:Hp)(v:V)(u:b_)(Q:St->Hp->Prop),Inv X pins U H s->RelV v u->t v U H Q->l_ (m_ X.prog X.w) X.A (aap target X.env u) (λ_ s'=>∃U' H',Inv X pins U' H' s'/\Q U' H') X.xe s
noncomputable def zL (X:Cx)(ts:b? G?)(t:pC):Prop:=∀(pins:b? (c_×J_))(s:d_)(U:St)(H:Hp)(vs:b? V)(us:b? b_)(Q:St->Hp->Prop),Inv X pins U H s->Vals vs us->t vs U H Q->l_ (m_ X.prog X.w) X.A (assignInOrder ((ŵ ts X.env).map (·.2)) us) (λ_ s'=>∃U' H',Inv X pins U' H' s'/\Q U' H') X.xe s
noncomputable abbrev tS:=V->V->V->Hp->(Hp->Prop)->Prop
noncomputable def Du (X:Cx)(t:tS):Prop:=∀(pins:b? (c_×J_))(s:d_)(U:St)(H:Hp)(o i v:V)(ov iv u:b_)(Q:Hp->Prop),Inv X pins U H s->RelV o ov->RelV i iv->RelV v u->t o i v H Q->l_ (m_ X.prog X.w) X.A (aeb ov iv u) (λ_ s'=>∃H',Inv X pins U H' s'/\Q H') X.xe s
noncomputable abbrev zM:=V->V->Hp->VK->Prop
noncomputable def Dv (X:Cx)(op:afv)(t:zM):Prop:=∀(pins:b? (c_×J_))(s:d_)(U:St)(H:Hp)(x y:V)(v u:b_)(Q:VK),Inv X pins U H s->RelV x v->RelV y u->t x y H Q->l_ (m_ X.prog X.w) X.A (inplaceOp op v u) (EP X pins U Q) X.xe s
section
variable {X:Cx}{pos:Ī}
noncomputable def ip (i:j?):TG:=λv U H Q=>Q (U.set i (some v)) H
theorem jw {i:j?}{x:y_}(hN:X.N.Nodup)(hi:X.N[i]?=some x)(hx:Loc X.env.scope x)(hf:e_ (X.fn x=true\/X.env.scope.names.lookup x=some .local) aP5):PG X (.Name x pos) (ip i):=by intro pins s U H v u Q I r h;exact ad8 (zG I hN hi hx r (λs' I'=>(xa0 _ H ⟨I',h⟩)) hf)
noncomputable def SI:pC:=λvs U H Q=>vs=[]/\Q U H
noncomputable def SJ (t:TG)(u:pC):pC:=λvs U H Q=>∃v r,vs=v::r/\t v U H λ U' H'=>u r U' H' Q
theorem pD:zL X [] SI:=by intro pins s U H vs us Q I r h;obtain⟨e,h⟩:=h;subst e;cases r;exact assignInOrder_nil (xa0 U H ⟨I,h⟩)
theorem qf {e:G?}{es:b? G?}{t:TG}{u:pC}(h1:PG X e t)(h2:zL X es u)(hs:e_ ((ŵ (e::es) X.env).map (·.2)=aap e X.env::(ŵ es X.env).map (·.2)) aP1):zL X (e::es) (SJ t u):=by
 intro pins s U H vs us Q I r h;obtain⟨v,vr,e1,h⟩:=h;subst e1;cases r with
 |cons r rr=>rw[hs];refine assignInOrder_cons (ai (h1 pins s U H _ _ _ I r h) λ_ s1 zQ=>?_);obtain⟨U1,H1,I1,q1⟩:=zQ;exact h2 pins s1 U1 H1 _ _ Q I1 rr q1
noncomputable def SK (K:e?)(n:j?)(t:pC):TG:=λv U H Q=>∃a xs,v= .ref a/\ax K H a xs/\xs.length=n/\t xs U H Q
theorem pE {es:b? G?}{k:j?}{t:pC}{n:j?}(hc:X.calm=true)(h:zL X es t)(hn:e_ ((ŵ es X.env).length=n) aP1)(kM:e_ ((ŵ es X.env).findIdx? (·.1)=none) aP1):PG X (.Tuple es k pos) (SK X.K n t):=by
 intro pins s U H v u Q I r hw;obtain⟨a,xs,e1,hq,hl,hw⟩:=hw;subst e1;cases r;obtain⟨its,rv,ht,hz⟩:=I.tuple hq;refine assign_Tuple_tuple (I.ok.hd hc) ht (by simp[hn,<-hl,rv.length]) kM λh' hx=>?_;have I1:Inv X pins U H {s with heap:=h'}:=I.kept (t':=s.toks) λb o e=>hx b o (N? (u? e)) e;exact h pins _ U H xs _ Q I1 (by simpa using rv) hw
noncomputable def SM (to ti:TE)(t:tS):TG:=λv U H Q=>to U H λo H1=>ti U H1 λi H2=>t o i v H2 λH3=>Q U H3
theorem KR {o i:G?}{to ti:TE}{t:tS}(ho:PE X o to)(hi:PE X i ti)(hs:Du X t)(ha:e_ (∀v,aap (.Subscript o i pos) X.env v=(do
   let ov<-Ĩ [v] (T? o X.env);let iv<-Ĩ [v,ov] (T? i X.env)
   ų pos
   Ĩ [v,ov,iv] (aeb ov iv v)
   release [v,ov,iv] [])) aP3):PG X (.Subscript o i pos) (SM to ti t):=by
 intro pins s U H v u Q I r h;rw[ha];refine d? (L_ (ai (ho pins s U H _ I h) λov s1 zQ=>?_));obtain⟨x,H1,I1,r1,q1⟩:=zQ;refine d? (L_ (ai (hi pins s1 U H1 _ I1 q1) λiv s2 zQ=>?_));obtain⟨y,H2,I2,r2,q2⟩:=zQ;refine d? (Õ (d? (L_ (ai (hs pins s2 U H2 x y v ov iv u _ I2 r1 r2 r q2) λ_ s3 zQ=>?_))));obtain⟨H3,I3,q3⟩:=zQ;exact wpAny_release (xa0 U H3 ⟨I3,q3⟩)
noncomputable def Dw (te:TE)(g:TG):TS:=λD U H=>te U H λx H1=>g x U H1 D.nx
theorem lU {tg e:G?}{te:TE}{g:TG}(he:PE X e te)(hg:PG X tg g)(hs:e_ (swapsWithSole [tg] e pos.line X.env=Ø false) aP1)(hw:e_ (swappedStores [tg] e X.env=Ø none) aP1)(h1:e_ ((ŵ [tg] X.env).map (·.2)=[aap tg X.env]) aP1):PS X (.Assign [tg] e pos) (Dw te g):=by
 intro pins s U H D I h;refine wpAny_Assign_stores (ai (he pins s U H _ I h) λv s1 zQ=>?_) hs hw;obtain⟨x,H1,I1,r1,q1⟩:=zQ;rw[h1];exact ai (hg pins s1 U H1 x v _ I1 r1 q1) λ_ s2 q=>q
theorem j9 {i:j?}{x:y_}{e:G?}{te:TE}{pos':Ī}(hN:X.N.Nodup)(hi:X.N[i]?=some x)(hx:Loc X.env.scope x)(he:PE X e te)(hs:e_ (ŧ e (some (.Name x pos')) pos.line X.env=Ø false) aP1)(hf:e_ (X.fn x=true\/X.env.scope.names.lookup x=some .local) aP5):PS X (.Assign [.Name x pos'] e pos) (Dw te (ip i)):=by
 intro pins s U H D I h;refine wpAny_Assign_Name (ai (he pins s U H _ I h) λv s1 zQ=>?_) hs;obtain⟨y,H1,I1,r1,q1⟩:=zQ;exact zG I1 hN hi hx r1 (λs2 I2=>(xa0 _ H1 ⟨I2,q1⟩)) hf
noncomputable def SO (to ti te:TE)(lV:V->V->Hp->VK->Prop)(zN:zM)(lW:tS):TS:=λD U H=>to U H λo H1=>ti U H1 λi H2=>lV o i H2 λx H3=>te U H3 λy H4=>zN x y H4 λz H5=>lW o i z H5 λH6=>D.nx U H6
noncomputable def KS (X:Cx)(t:V->V->Hp->VK->Prop):Prop:=∀(pins:b? (c_×J_))(s:d_)(U:St)(H:Hp)(o i:V)(ov iv:b_)(Q:VK),Inv X pins U H s->RelV o ov->RelV i iv->t o i H Q->l_ (m_ X.prog X.w) X.A (abK ov iv) (EP X pins U Q) X.xe s
theorem Dx {o i e:G?}{to ti te:TE}{lV:V->V->Hp->VK->Prop}{zN:zM}{lW:tS}{op:afv}{pF:Ī}(ho:PE X o to)(hi:PE X i ti)(hg:KS X lV)(he:PE X e te)(hp:Dv X op zN)(hs:Du X lW)(ha:∀ov iv new,augStore i ov iv new=(do Ĩ [new,ov,iv] (aeb ov iv new);release [new,ov,iv] [];Ø .next):=by intros;rfl):PS X (.AugAssign (.Subscript o i pF) op e pos) (SO to ti te lV zN lW):=by
 intro pins s U H D I h;refine wpAny_AugAssign_SubscriptAny (ai (ho pins s U H _ I h) λov s1 zQ=>?_) ha;obtain⟨x1,H1,I1,r1,q1⟩:=zQ;refine ai (hi pins s1 U H1 _ I1 q1) λiv s2 zQ=>?_;obtain⟨x2,H2,I2,r2,q2⟩:=zQ;refine ai (hg pins s2 U H2 x1 x2 ov iv _ I2 r1 r2 q2) λold s3 zQ=>?_;obtain⟨x3,H3,I3,r3,q3⟩:=zQ;refine ai (he pins s3 U H3 _ I3 q3) λv s4 zQ=>?_;obtain⟨x4,H4,I4,r4,q4⟩:=zQ;refine ai (hp pins s4 U H4 x3 x4 old v _ I4 r3 r4 q4) λnew s5 zQ=>?_;obtain⟨x5,H5,I5,r5,q5⟩:=zQ;exact ai (hs pins s5 U H5 x1 x2 x5 ov iv new _ I5 r1 r2 r5 q5) λ_ s6 ⟨H6,I6,q6⟩=>(xa0 U H6 ⟨I6,q6⟩)
noncomputable def KU (f:i_->i_->i_):zM:=λx y H Q=>∃i j,x= .int i/\y= .int j/\Q (.int (f i j)) H
theorem KW:Dv X .Add (KU λi j=>i+j):=by intro pins s U H x y v u Q I r1 r2 h;obtain⟨i,j,e1,e2,q⟩:=h;subst e1;subst e2;obtain⟨t,rfl⟩:=r1;obtain⟨t',rfl⟩:=r2;exact iadd_int (xa0 (.int _) H ⟨I.tok _,⟨_,a_⟩,q⟩)
theorem SQ:Dv X .Sub (KU λi j=>i-j):=by intro pins s U H x y v u Q I r1 r2 h;obtain⟨i,j,e1,e2,q⟩:=h;subst e1;subst e2;obtain⟨t,rfl⟩:=r1;obtain⟨t',rfl⟩:=r2;exact isub_int (xa0 (.int _) H ⟨I.tok _,⟨_,a_⟩,q⟩)
noncomputable def KY (c:TT)(tb:TS):TS:=λD U H=>∃W:j?->St->Hp->Prop,(∃m,W m U H)/\∀m U H,W m U H->c U H λb H1=>if b=true then ∃N:St->Hp->Prop,(∀U' H',N U' H'->∃m',m'<m/\W m' U' H')/\tb {D with nx:=N,ct:=N,bk:=D.nx} U H1 else D.nx U H1
theorem SR {c:G?}{body:b? I_}{tc:TT}{tb:TS}(hp:ë (m_ X.prog X.w) X.A X.env X.xe)(hc:PT X c tc)(hb:dj X body tb):PS X (.While c body [] pos) (KY tc tb):=by
 intro pins s U H D I h;obtain⟨W,⟨m0,w0⟩,turn⟩:=h;refine wpAny_While (codeAny_whileLoop (λn s'=>∃U' H',Inv X pins U' H' s'/\W n U' H') ?_ m0 (xa0 U H ⟨I,w0⟩))
 rintro n s1 ⟨U1,H1,I1,w1⟩
 refine ç hp (ai (hc pins s1 U1 H1 _ I1 (turn n U1 H1 w1)) λb s2 zQ=>?_);obtain⟨H2,I2,q2⟩:=zQ;cases b with
 |true=>
  obtain⟨N,hN,q2⟩:=q2;rw[j_ a_];refine ç hp (ai (hb pins s2 U1 H2 _ I2 q2) λf s3 q3=>?_);cases f with
  |next=>obtain⟨i8,H3,I3,n3⟩:=q3;obtain⟨m',hm,w3⟩:=hN i8 H3 n3;exact⟨m',hm,xa0 i8 H3 ⟨I3,w3⟩⟩
  |cont=>obtain⟨i8,H3,I3,n3⟩:=q3;obtain⟨m',hm,w3⟩:=hN i8 H3 n3;exact⟨m',hm,xa0 i8 H3 ⟨I3,w3⟩⟩
  |brk=>exact q3
  |ret v=>exact q3
 |false=>rw[f? p?];exact ĵ (xa0 U1 H2 ⟨I2,q2⟩)
end
structure It where
 go:j?->Hp->Prop
 eF:j?->Hp->V->Hp->Prop
 stop:j?->Hp->Prop
noncomputable def eG (X:Cx)(pins:b? (c_×J_))(H:Hp)(b:c_):Prop:=H b=none/\b≠X.env.locals/\b∉X.fs/\(b∈X.ex\/X.au.heap.objs.size<=b)/\(∀x c,X.env.cells.lookup x=some c->c≠b)/\∀p∈X.pn++pins,p.1≠b
theorem Inv.pG {X:Cx}{pins:b? (c_×J_)}{U:St}{H H':Hp}{s:d_}{b:c_}(I:Inv X pins U H s)(hb:s.heap.objs.size<=b)(hn:H' b=none):eG X pins H' b:=by
 refine⟨hn,afB (F? I.lt hb),I.KC hb,.inr (K? I.sz hb),λx c e z=>?_,λp hp z=>?_⟩
 .obtain⟨v,q⟩:=I.cell x c e;exact v_ (F? q.lt (by rw[z];exact hb)) (ý _)
 .exact v_ (F? (u? (I.pin p hp).1) (by rw[z];exact hb)) (ý _)
structure Turn (P:n_)(w:z?)(K:e?)(tg:G?)(J:It)(fp:b? c_)(it:c_)(tn:j?->k_->Prop):Prop where
 mem:it∈fp
 obj:∀i h,tn i h->∀b∈fp,∃o,h.get? b=some o/\∀v,o.data≠.cell v
 keep:∀i h h',tn i h->(∀b∈fp,∀o,h.get? b=some o->h'.get? b=some o)->tn i h'
 item:∀(X:Cx),X.prog=P->X.w=w->X.K=K->X.calm=true->∀(i:j?)(pins:b? (c_×J_))(s:d_)(U:St)(H:Hp)(E:b_->d_->Prop),Inv X pins U H s->(∀b∈fp,eG X pins H b)->tn i s.heap->J.go i H->l_ (m_ P w) X.A (Ŵ (.ref it)) (λr s1=>∃u,r=some u/\l_ (m_ P w) X.A (Ķ tg (.ref it) u) (λ_ s2=>∃x H',Inv X pins U H' s2/\RelV x u/\J.eF i H x H'/\tn (i+1) s2.heap/\∀b∈fp,H' b=none) E s1) E s
 done:∀(X:Cx),X.prog=P->X.w=w->X.K=K->X.calm=true->∀(i:j?)(pins:b? (c_×J_))(s:d_)(U:St)(H:Hp)(E:b_->d_->Prop),Inv X pins U H s->(∀b∈fp,eG X pins H b)->tn i s.heap->J.stop i H->l_ (m_ P w) X.A (Ŵ (.ref it)) (λr s1=>r=none/\Inv X pins U H s1) E s
 self:∀(A:B?)(i:j?)(s:d_)(Q:b_->d_->Prop)(E:b_->d_->Prop),tn i s.heap->Q (.ref it) s->l_ (m_ P w) A (abX (.ref it)) Q E s
noncomputable abbrev TI:=St->Hp->(It->Hp->Prop)->Prop
noncomputable def KZ (X:Cx)(pins:b? (c_×J_))(U:St)(tg:G?)(R:It->Hp->Prop)(rN:b_)(s2:d_):Prop:=∃(it:c_)(fp:b? c_)(tn:j?->k_->Prop)(J:It)(H':Hp),rN= .ref it/\Inv X pins U H' s2/\Turn X.prog X.w X.K tg J fp it tn/\tn 0 s2.heap/\(∀b∈fp,eG X pins H' b)/\R J H'
noncomputable def PI (X:Cx)(tg iter:G?)(wi:TI):Prop:=∀(pins:b? (c_×J_))(s:d_)(U:St)(H:Hp)(R:It->Hp->Prop),Inv X pins U H s->wi U H R->l_ (m_ X.prog X.w) X.A (T? iter X.env) (λv s1=>l_ (m_ X.prog X.w) X.A (abX v) (KZ X pins U tg R) X.xe s1) X.xe s
theorem pH {M:aaJ}{A:B?}{E:b_->d_->Prop}{s:d_}{tg:G?}{it:c_}{u:b_}{o:J_}{n:í}{vs:C? b_}{Q:Unit->d_->Prop}(ho:s.heap.get? it=some o)(hc:o.cls= .type n)(hd:o.data= .fields vs)(hn:["enumerate","zip","dict_itemiterator","dict_reverseitemiterator","odict_iterator","itertools.zip_longest","itertools.pairwise"].contains n=false)(hQ:Q () s):l_ M A (Ķ tg (.ref it) u) Q E s:=by
  unfold Ķ;cases tg<;>first
    |exact h_ hQ
    |(cases u<;>first
        |exact h_ hQ
        | (refine d? (wpAny_load ho ?_)
           rw[hc,hd];show l_ M A (if(["enumerate","zip","dict_itemiterator","dict_reverseitemiterator","odict_iterator","itertools.zip_longest","itertools.pairwise"].contains n&&vs[0]?==some (ś _))=true then _ else _) Q E s;rw[f? (by intro h;rw[hn,aff]at h;cases h)];exact h_ hQ))
noncomputable def nG (K:e?)(a:c_):It:=⟨λi H=>∃xs x,ah K H a xs/\xs[i]?=some x,λi H x H'=>H'=H/\∀xs,ah K H a xs->xs[i]?=some x,λi H=>∃xs,ah K H a xs/\xs.length<=i⟩
noncomputable def rO (K:e?)(a:c_):It:=⟨λi H=>∃xs x,ax K H a xs/\xs[i]?=some x,λi H x H'=>H'=H/\∀xs,ax K H a xs->xs[i]?=some x,λi H=>∃xs,ax K H a xs/\xs.length<=i⟩
noncomputable def kN (lo:i_)(n:j?):It:=⟨λi _=>i<n,λi H x H'=>H'=H/\x= .int (lo+i),λi _=>n<=i⟩
theorem SS {P:n_}{w:z?}{K:e?}{tg:G?}(a it:c_):Turn P w K tg (nG K a) [it] it (λi h=>h.IsListIter it a i) where
 mem:=by simp
 obj:=λi h st b hb=>by
  have e:b=it:=by simpa using hb
  subst e;obtain⟨o,e,c,d⟩:=st;exact⟨o,e,λv z=>by rw[d]at z;cases z⟩
 keep:=λi h h' st k=>st.at λo e=>k it (by simp) o e
 item:=by intro X hP hw hK hc i pins s U H E I hf st hg;subst hP hw hK;obtain⟨xs,x,hq,hx⟩:=hg;obtain⟨its,rv,p,hz⟩:=I.list hq;obtain⟨u,hu,ru⟩:=rv.get hx;obtain⟨f0,f1,f2,f3,f4,f5⟩:=hf it (by simp);refine acX st p.isList (x:=u) (by simpa using hu) λh' bG sb=>?_;have I1:Inv X pins U H {s with heap:=h'}:=I.turned (t':=s.toks) (λb o hb e=>(sb.2 b hb).trans e) f0 f1 f3 f4 f5;obtain⟨o,e,c,d⟩:=id bG;exact⟨u,a_,pH (s:={s with heap:=h'}) e c d (by decide) (xa0 x H ⟨I1,ru,⟨a_,λys hy=>by rw[I.KN hy hq];exact hx⟩,bG,λb hb=>(hf b hb).1⟩)⟩
 done:=by intro X hP hw hK hc i pins s U H E I hf st hg;subst hP hw hK;obtain⟨xs,hq,hx⟩:=hg;obtain⟨its,rv,p,hz⟩:=I.list hq;obtain⟨f0,f1,f2,f3,f4,f5⟩:=hf it (by simp);have hl:=rv.length;exact adb (I.ok.hd hc) st p.isList (by simp;lia) λh' eb=>⟨a_,I.turned (t':=s.toks) (λb o hb e=>eb b o hb e) f0 f1 f3 f4 f5⟩
 self:=λ_ _ _ _ _ st h=>wpAny_pyIter_listiter st h
theorem SU {P:n_}{w:z?}{K:e?}{tg:G?}(a it:c_):Turn P w K tg (rO K a) [it] it (λi h=>h.IsTupleIter it a i) where
 mem:=by simp
 obj:=λi h st b hb=>by
  have e:b=it:=by simpa using hb
  subst e;obtain⟨o,e,c,d⟩:=st;exact⟨o,e,λv z=>by rw[d]at z;cases z⟩
 keep:=λi h h' st k=>st.at λo e=>k it (by simp) o e
 item:=by intro X hP hw hK hc i pins s U H E I hf st hg;subst hP hw hK;obtain⟨xs,x,hq,hx⟩:=hg;obtain⟨its,rv,p,hz⟩:=I.tuple hq;obtain⟨u,hu,ru⟩:=rv.get hx;obtain⟨f0,f1,f2,f3,f4,f5⟩:=hf it (by simp);refine wpAny_pyNext_tuple_item st (show s.heap.IsTuple a its.toArray from p) (x:=u) (by simpa using hu) λh' bG sb=>?_;have I1:Inv X pins U H {s with heap:=h'}:=I.turned (t':=s.toks) (λb o hb e=>(sb.2 b hb).trans e) f0 f1 f3 f4 f5;obtain⟨o,e,c,d⟩:=id bG;exact⟨u,a_,pH (s:={s with heap:=h'}) e c d (by decide) (xa0 x H ⟨I1,ru,⟨a_,λys hy=>by rw[I.rM hy hq];exact hx⟩,bG,λb hb=>(hf b hb).1⟩)⟩
 done:=by intro X hP hw hK hc i pins s U H E I hf st hg;subst hP hw hK;obtain⟨xs,hq,hx⟩:=hg;obtain⟨its,rv,p,hz⟩:=I.tuple hq;obtain⟨f0,f1,f2,f3,f4,f5⟩:=hf it (by simp);have hl:=rv.length;exact wpAny_pyNext_tuple_end (I.ok.hd hc) st (show s.heap.IsTuple a its.toArray from p) (by simp;lia) λh' eb=>⟨a_,I.turned (t':=s.toks) (λb o hb e=>eb b o hb e) f0 f1 f3 f4 f5⟩
 self:=λ_ _ _ _ _ st h=>wpAny_pyIter_tupleiter st h
theorem SV {P:n_}{w:z?}{K:e?}{tg:G?}(it:c_)(lo:i_)(n:j?):Turn P w K tg (kN lo n) [it] it (λi h=>IsRangeIter h it (lo+(i:j?)*1) ((n:i_)-(i:j?)) 1) where
 mem:=by simp
 obj:=λi h st b hb=>by
  have e:b=it:=by simpa using hb
  subst e;exact⟨_,st,λv z=>by have z':Data.fields _=Data.cell v:=z;cases z'⟩
 keep:=λi h h' st k=>k it (by simp) _ st
 item:=by intro X hP hw hK hc i pins s U H E I hf st hg;subst hP hw hK;obtain⟨f0,f1,f2,f3,f4,f5⟩:=hf it (by simp);have W:=Walks.range (prog:=X.prog) (w:=X.w) (I.ok.hd hc) it lo 1 n;refine W.item i s _ _ hg st λv h' tk hv bG kk=>?_;obtain⟨t,rfl⟩:=hv;have I1:Inv X pins U H {s with heap:=h',toks:=tk}:=I.turned (λb o hb e=>kk b o (by simpa using hb) e) f0 f1 f3 f4 f5;refine⟨_,a_,pH (s:={s with heap:=h',toks:=tk}) (n:="range_iterator") bG a_ a_ (by decide) (xa0 (.int (lo+i)) H ⟨I1,⟨t,?_⟩,⟨a_,a_⟩,bG,λb hb=>(hf b hb).1⟩)⟩;rw[i_.mul_one]
 done:=by intro X hP hw hK hc i pins s U H E I hf st hg;subst hP hw hK;obtain⟨f0,f1,f2,f3,f4,f5⟩:=hf it (by simp);exact wpAny_pyNext_range_end (I.ok.hd hc) st (by have:n<=i:=hg;lia) λh' eb=>⟨a_,I.turned (t':=s.toks) (λb o hb e=>eb b o hb e) f0 f1 f3 f4 f5⟩
 self:=λ_ _ _ _ _ st h=>wpAny_pyIter_rangeiter st h
section
variable {X:Cx}{tg:G?}
noncomputable def Dy (K:e?)(tl:TE):TI:=λ U H R=>tl U H λx H1=>∃a,x= .ref a/\(∃xs,ah K H1 a xs)/\R (nG K a) H1
noncomputable def K0 (K:e?)(tl:TE):TI:=λ U H R=>tl U H λx H1=>∃a,x= .ref a/\(∃xs,ax K H1 a xs)/\R (rO K a) H1
theorem kO {l:G?}{tl:TE}(hl:PE X l tl):PI X tg l (Dy X.K tl):=by
 intro pins s U H R I h;refine ai (hl pins s U H _ I h) λv s1 zQ=>?_;obtain⟨x,H1,I1,r1,q1⟩:=zQ;obtain⟨a,e,⟨xs,hq⟩,q⟩:=q1;subst e;cases r1;obtain⟨its,rv,p,hz⟩:=I1.list hq;refine Ŕ p.isList ?_;refine(xa3 s1.heap.objs.size [s1.heap.objs.size] _ _ H1 ⟨a_,I1.kept (t':=s1.toks) λb o e=>g_ _ e,SS a _,⟨_,x? _ a_,a_,a_⟩,λb hb=>?_,q⟩);have e:b=s1.heap.objs.size:=by simpa using hb
 subst e;exact I1.pG (s_ _) (I1.ag.fresh (s_ _))
theorem K1 {l:G?}{tl:TE}(hl:PE X l tl):PI X tg l (K0 X.K tl):=by
 intro pins s U H R I h;refine ai (hl pins s U H _ I h) λv s1 zQ=>?_;obtain⟨x,H1,I1,r1,q1⟩:=zQ;obtain⟨a,e,⟨xs,hq⟩,q⟩:=q1;subst e;cases r1;obtain⟨its,rv,p,hz⟩:=I1.tuple hq;refine adM (show s1.heap.IsTuple a its.toArray from p) ?_;refine(xa3 s1.heap.objs.size [s1.heap.objs.size] _ _ H1 ⟨a_,I1.kept (t':=s1.toks) λb o e=>g_ _ e,SU a _,⟨_,x? _ a_,a_,a_⟩,λb hb=>?_,q⟩);have e:b=s1.heap.objs.size:=by simpa using hb
 subst e;exact I1.pG (s_ _) (I1.ag.fresh (s_ _))
theorem SW {pins:b? (c_×J_)}{U:St}{H:Hp}{s:d_}{R:It->Hp->Prop}{E:b_->d_->Prop}{lo hi:i_}{t u v:Tok}{tk:j?}(I:Inv X pins U H s)(h1:-(2^62)<=lo)(h2:lo<2^62)(h3:-(2^62)<=hi)(h4:hi<2^62)(q:R (kN lo (hi-lo).toNat) H):l_ (m_ X.prog X.w) X.A (abX (.ref s.heap.objs.size)) (KZ X pins U tg R) E {s with heap:=s.heap.push {cls:=.type "range",data:=.fields #[.int lo t,.int hi u,.int 1 v]},toks:=tk}:=by
 refine wpAny_pyIter_range (IsRange.new ..) (small_one h1 h2 h3 h4) ?_;have I1:Inv X pins U H {s with heap:=s.heap.push {cls:=.type "range",data:=.fields #[.int lo t,.int hi u,.int 1 v]},toks:=tk}:=I.kept λb o e=>g_ _ e;refine(xa3 ((s.heap.push {cls:=.type "range",data:=.fields #[.int lo t,.int hi u,.int 1 v]}).objs.size) [(s.heap.push {cls:=.type "range",data:=.fields #[.int lo t,.int hi u,.int 1 v]}).objs.size] _ _ H ⟨a_,I1.kept (t':=tk) λb o e=>g_ _ e,SV _ lo (hi-lo).toNat,?_,λb hb=>?_,q⟩)
 .have e1:lo+((0:j?):i_)*1=lo:=by simp
  have e2:(((hi-lo).toNat:j?):i_)-((0:j?):i_)=V_.Range.rangeSize lo hi 1:=by rw[rangeSize_one];split<;>lia
  show IsRangeIter _ _ (lo+((0:j?):i_)*1) ((((hi-lo).toNat:j?):i_)-((0:j?):i_)) 1;rw[e1,e2];exact x? _ a_
 .have e:b=(s.heap.push {cls:=.type "range",data:=.fields #[.int lo t,.int hi u,.int 1 v]}).objs.size:=by simpa using hb
  subst e;exact I1.pG (s_ _) (I1.ag.fresh (s_ _))
noncomputable def SX (ta:TA):TI:=λ U H R=>ta U H λvs H1=>∃j:i_,vs=[.int j]/\-(2^62)<=j/\j<2^62/\R (kN 0 j.toNat) H1
theorem rP {a:G?}{ta:TA}{p pos:Ī}(hg:Gl X "range")(hm:X.mg "range"=none)(ha:PA X [a] ta)(hs:e_ (x_ [a] X.env=[(false,T? a X.env)]) aP1):PI X tg (.Call (.Name "range" p) [a] [] pos) (SX ta):=by
 intro pins s U H R I h;refine Call_ (zH I hg hm boot_range (aaj (ai (ha pos pins s U H _ I h) λus s1 zQ=>?_) hs a_));obtain⟨vs,H1,I1,r1,q1⟩:=zQ;obtain⟨j,e,q1,q2,q⟩:=q1;subst e;cases r1 with
 |cons r rr=>cases rr;obtain⟨t,rfl⟩:=r;exact call_range_1 (SW I1 (by lia) (by lia) q1 q2 (by simpa using q))
noncomputable def SY (wi:TI)(g:TG)(tb:TS):TS:=λD U H=>wi U H λJ H1=>∃W:j?->j?->St->Hp->Prop,(∃m,W 0 m U H1)/\∀i m U H,W i m U H->(J.stop i H/\D.nx U H)\/(J.go i H/\∃N:St->Hp->Prop,(∀U' H',N U' H'->∃m',m'<m/\W (i+1) m' U' H')/\∀x H',J.eF i H x H'->g x U H' λ U2 H2=>tb {D with nx:=N,ct:=N,bk:=D.nx} U2 H2)
noncomputable def lX (fp:b? c_)(h:k_):b? (c_×J_):=fp.filterMap λb=>(h.get? b).map λo=>(b,o)
theorem zO {fp:b? c_}{h:k_}{b:c_}{o:J_}(hb:b∈fp)(e:h.get? b=some o):(b,o)∈lX fp h:=aaP.mpr ⟨b,hb,by rw[e];rfl⟩
theorem K3 {fp:b? c_}{h:k_}{p:c_×J_}(hp:p∈lX fp h):p.1∈fp/\h.get? p.1=some p.2:=by
 obtain⟨b,hb,e⟩:=aaP.mp hp;cases q:h.get? b with
 |none=>rw[q]at e;cases e
 |some o=>rw[q]at e;have e':(b,o)=p:=o_ e;subst e';exact⟨hb,q⟩
theorem Inv.pinned {pins:b? (c_×J_)}{U:St}{H:Hp}{s:d_}{fp:b? c_}(I:Inv X pins U H s)(hf:∀b∈fp,eG X pins H b)(ho:∀b∈fp,∃o,s.heap.get? b=some o/\∀v,o.data≠.cell v):Inv X (pins++lX fp s.heap) U H s:=I.zE λp hp=>(A_.mp hp).elim (λz=>I.pin p (C_ _ z)) λz=>by obtain⟨hb,e⟩:=K3 z;obtain⟨f0,f1,f2,_⟩:=hf p.1 hb;obtain⟨o,e',d⟩:=ho p.1 hb;rw[e]at e';cases e';exact⟨e,f0,f1,f2,d⟩
theorem Inv.tT {pins pl:b? (c_×J_)}{U:St}{H:Hp}{s:d_}(I:Inv X (pins++pl) U H s):Inv X pins U H s:=I.zE λp hp=>I.pin p (C_ _ (X_ _ hp))
theorem pI {iter:G?}{body:b? I_}{wi:TI}{g:TG}{tb:TS}{pos:Ī}(hp:ë (m_ X.prog X.w) X.A X.env X.xe)(hc:X.calm=true)(hi:PI X tg iter wi)(hg:PG X tg g)(hb:dj X body tb)(hs:e_ (∀x,Ĕ iter X.env x=Ø x) aP3):PS X (.For tg iter body [] pos) (SY wi g tb):=by
 intro pins s U H D I h;refine wpAny_For (ai (hi pins s U H _ I h) λv s1 h1=>ai h1 λrN s2 h2=>?_) hs;obtain⟨it,fp,tn,J,H2,e,I2,T,Ta,f2,W,⟨m0,w0⟩,turn⟩:=h2;subst e;have pJ:∀{H':Hp},(∀b∈fp,H' b=none)->∀b∈fp,eG X pins H' b:=λhn b hb=>⟨hn b hb,(f2 b hb).2⟩;refine codeAny_forLoop_any (λn s'=>∃i U' H',Inv X pins U' H' s'/\tn i s'.heap/\(∀b∈fp,H' b=none)/\W i n U' H') ?_ m0 (xa1 0 U H2 ⟨I2,Ta,λb hb=>(f2 b hb).1,w0⟩)
 rintro n s3 ⟨i,i8,H3,I3,K4,K5,w3⟩
 rcases turn i n i8 H3 w3 with⟨stop,qn⟩|⟨go,N,hN,step⟩
 .refine ç hp (ai (T.done X a_ a_ a_ hc i pins s3 i8 H3 X.xe I3 (pJ K5) K4 stop) λr s4 ⟨hr,I4⟩=>?_);subst hr;exact ĵ (xa0 i8 H3 ⟨I4,qn⟩)
 .refine ç hp (ai (T.item X a_ a_ a_ hc i pins s3 i8 H3 X.xe I3 (pJ K5) K4 go) λr s4 zQ=>?_);obtain⟨u,hr,h4⟩:=zQ;subst hr;refine ç hp (ai h4 λ_ s5 zQ=>?_);obtain⟨x,H5,I5,r5,y5,iq,tU⟩:=zQ;have tV:=I5.pinned (pJ tU) (T.obj _ _ iq);refine ç hp (ai (hg _ s5 i8 H5 x u _ tV r5 (step x H5 y5)) λ_ s6 zQ=>?_);obtain⟨U6,H6,I6,q6⟩:=zQ;refine ç hp (ai (hb _ s6 U6 H6 _ I6 q6) λf s7 q7=>?_);have again:∀{U7:St}{H7:Hp},Inv X (pins++lX fp s5.heap) U7 H7 s7->N U7 H7->∃m,m<n/\∃i U' H',Inv X pins U' H' s7/\tn i s7.heap/\(∀b∈fp,H' b=none)/\W i m U' H':=λ{U7 H7} I7 n7=>by
   obtain⟨m',hm,w7⟩:=hN U7 H7 n7;refine⟨m',hm,xa1 (i+1) U7 H7 ⟨I7.tT,T.keep _ _ _ iq λb hb o e=>(I7.pin (b,o) (C_ _ (C_ _ (zO hb e)))).1,λb hb=>?_,w7⟩⟩;obtain⟨o,e,d⟩:=T.obj _ _ iq b hb;exact(I7.pin (b,o) (C_ _ (C_ _ (zO hb e)))).2.1
  cases f with
  |next=>obtain⟨U7,H7,I7,n7⟩:=q7;exact again I7 n7
  |cont=>obtain⟨U7,H7,I7,n7⟩:=q7;exact again I7 n7
  |brk=>obtain⟨U7,H7,I7,q7⟩:=q7;exact(xa0 U7 H7 ⟨I7.tT,q7⟩)
  |ret v=>obtain⟨x7,U7,H7,I7,r7,q7⟩:=q7;exact(xa1 x7 U7 H7 ⟨I7.tT,r7,q7⟩)
end
theorem zP {K:e?}{a:c_}{xs:b? V}{g:TG}{tb:TS}{D:Ends}{U:St}{H:Hp}(Pv:j?->St->Hp->Prop)(h0:Pv 0 U H)(hl:∀i U H,i<=xs.length->Pv i U H->ah K H a xs)(hs:∀i x U H,xs[i]?=some x->Pv i U H->g x U H λ U2 H2=>tb {D with nx:=Pv (i+1),ct:=Pv (i+1),bk:=D.nx} U2 H2)(hd:∀U H,Pv xs.length U H->D.nx U H):∃W:j?->j?->St->Hp->Prop,(∃m,W 0 m U H)/\∀i m U H,W i m U H->((nG K a).stop i H/\D.nx U H)\/((nG K a).go i H/\∃N:St->Hp->Prop,(∀U' H',N U' H'->∃m',m'<m/\W (i+1) m' U' H')/\∀x H',(nG K a).eF i H x H'->g x U H' λ U2 H2=>tb {D with nx:=N,ct:=N,bk:=D.nx} U2 H2):=by
 refine⟨λi m U H=>m=xs.length-i/\i<=xs.length/\Pv i U H,⟨xs.length,by simp,W_ _,h0⟩,?_⟩
 rintro i m U H ⟨rfl,hi,p⟩
 have q:=hl i U H hi p;by_cases aA:i<xs.length
 .refine .inr ⟨(xa0 xs (xs[i]) ⟨q,by simp[aA]⟩),Pv (i+1),λ U' H' p'=>⟨xs.length-(i+1),by lia,a_,aA,p'⟩,λx H' y=>?_⟩;obtain⟨e,y⟩:=y;subst e;exact hs i x U _ (y xs q) p
 .have e:i=xs.length:=by lia
  subst e;exact .inl ⟨⟨xs,q,s_ _⟩,hd U H p⟩
theorem Tb {K:e?}{a:c_}{xs:b? V}{g:TG}{tb:TS}{D:Ends}{U:St}{H:Hp}(Pv:j?->St->Hp->Prop)(h0:Pv 0 U H)(hl:∀i U H,i<=xs.length->Pv i U H->ax K H a xs)(hs:∀i x U H,xs[i]?=some x->Pv i U H->g x U H λ U2 H2=>tb {D with nx:=Pv (i+1),ct:=Pv (i+1),bk:=D.nx} U2 H2)(hd:∀U H,Pv xs.length U H->D.nx U H):∃W:j?->j?->St->Hp->Prop,(∃m,W 0 m U H)/\∀i m U H,W i m U H->((rO K a).stop i H/\D.nx U H)\/((rO K a).go i H/\∃N:St->Hp->Prop,(∀U' H',N U' H'->∃m',m'<m/\W (i+1) m' U' H')/\∀x H',(rO K a).eF i H x H'->g x U H' λ U2 H2=>tb {D with nx:=N,ct:=N,bk:=D.nx} U2 H2):=by
 refine⟨λi m U H=>m=xs.length-i/\i<=xs.length/\Pv i U H,⟨xs.length,by simp,W_ _,h0⟩,?_⟩
 rintro i m U H ⟨rfl,hi,p⟩
 have q:=hl i U H hi p;by_cases aA:i<xs.length
 .refine .inr ⟨(xa0 xs (xs[i]) ⟨q,by simp[aA]⟩),Pv (i+1),λ U' H' p'=>⟨xs.length-(i+1),by lia,a_,aA,p'⟩,λx H' y=>?_⟩;obtain⟨e,y⟩:=y;subst e;exact hs i x U _ (y xs q) p
 .have e:i=xs.length:=by lia
  subst e;exact .inl ⟨⟨xs,q,s_ _⟩,hd U H p⟩
theorem K6 {lo:i_}{n:j?}{g:TG}{tb:TS}{D:Ends}{U:St}{H:Hp}(Pv:j?->St->Hp->Prop)(h0:Pv 0 U H)(hs:∀i U H,i<n->Pv i U H->g (.int (lo+i)) U H λ U2 H2=>tb {D with nx:=Pv (i+1),ct:=Pv (i+1),bk:=D.nx} U2 H2)(hd:∀U H,Pv n U H->D.nx U H):∃W:j?->j?->St->Hp->Prop,(∃m,W 0 m U H)/\∀i m U H,W i m U H->((kN lo n).stop i H/\D.nx U H)\/((kN lo n).go i H/\∃N:St->Hp->Prop,(∀U' H',N U' H'->∃m',m'<m/\W (i+1) m' U' H')/\∀x H',(kN lo n).eF i H x H'->g x U H' λ U2 H2=>tb {D with nx:=N,ct:=N,bk:=D.nx} U2 H2):=by
 refine⟨λi m U H=>m=n-i/\i<=n/\Pv i U H,⟨n,by simp,W_ _,h0⟩,?_⟩
 rintro i m U H ⟨rfl,hi,p⟩
 by_cases aA:i<n
 .refine .inr ⟨aA,Pv (i+1),λ U' H' p'=>⟨n-(i+1),by lia,a_,aA,p'⟩,λx H' y=>?_⟩;obtain⟨e,y⟩:=y;subst e y;exact hs i U _ aA p
 .have e:i=n:=by lia
  subst e;exact .inl ⟨s_ _,hd U H p⟩
theorem Tc {c:TT}{tb:TS}{D:Ends}{U:St}{H:Hp}(Pv:St->Hp->Prop)(μ:St->Hp->j?)(h0:Pv U H)(hs:∀U H,Pv U H->c U H λb H1=>if b=true then tb {D with nx:=λ U' H'=>Pv U' H'/\μ U' H'<μ U H,ct:=λ U' H'=>Pv U' H'/\μ U' H'<μ U H,bk:=D.nx} U H1 else D.nx U H1)(mono:∀U H Q Q',(∀b H1,Q b H1->Q' b H1)->c U H Q->c U H Q'):KY c tb D U H:=by
 refine⟨λm U H=>m=μ U H/\Pv U H,⟨_,a_,h0⟩,?_⟩
 rintro m U H ⟨rfl,p⟩
 refine mono U H _ _ (λb H1 q=>?_) (hs U H p);cases b with
 |true=>exact⟨_,λ U' H' ⟨p',l⟩=>⟨_,l,a_,p'⟩,q⟩
 |false=>exact q
noncomputable abbrev R2:=V->V->Hp->VK->Prop
noncomputable def bD (X:Cx)(f:b_->b_->Ģ b_)(r:R2):Prop:=∀(pins:b? (c_×J_))(s:d_)(U:St)(H:Hp)(x y:V)(v u:b_)(Q:VK),Inv X pins U H s->RelV x v->RelV y u->r x y H Q->l_ (m_ X.prog X.w) X.A (f v u) (EP X pins U Q) X.xe s
noncomputable def Dz (X:Cx)(f:b_->Ģ b_)(r:V->Hp->VK->Prop):Prop:=∀(pins:b? (c_×J_))(s:d_)(U:St)(H:Hp)(x:V)(v:b_)(Q:VK),Inv X pins U H s->RelV x v->r x H Q->l_ (m_ X.prog X.w) X.A (f v) (EP X pins U Q) X.xe s
noncomputable def cD (X:Cx)(f:b_)(r:b? V->Hp->VK->Prop):Prop:=∀(pins:b? (c_×J_))(s:d_)(U:St)(H:Hp)(xs:b? V)(us:b? b_)(Q:VK),Inv X pins U H s->Vals xs us->r xs H Q->l_ (m_ X.prog X.w) X.A (Ħ f us) (EP X pins U Q) X.xe s
noncomputable def Td (X:Cx)(r:V->Hp->(s?->Hp->Prop)->Prop):Prop:=∀(pins:b? (c_×J_))(s:d_)(U:St)(H:Hp)(x:V)(v:b_)(Q:s?->Hp->Prop),Inv X pins U H s->RelV x v->r x H Q->l_ (m_ X.prog X.w) X.A (truthy v) (TP X pins U Q) X.xe s
noncomputable def zQ (r:R2)(ta tb:TE):TE:=λ U H Q=>ta U H λx H1=>tb U H1 λy H2=>r x y H2 Q
noncomputable def Te (r:V->Hp->VK->Prop)(ta:TE):TE:=λ U H Q=>ta U H λx H1=>r x H1 Q
noncomputable def rI (C:i_->i_->Prop)(g:i_->i_->V):R2:=λx y H Q=>∃i j,x= .int i/\y= .int j/\C i j/\Q (g i j) H
noncomputable def nI (g:i_->i_->V):R2:=λx y H Q=>∃i j,x= .int i/\y= .int j/\Q (g i j) H
noncomputable def rU (g:i_->V):V->Hp->VK->Prop:=λx H Q=>∃i,x= .int i/\Q (g i) H
section
variable {X:Cx}{a b c:G?}{ta tb tc:TE}{pos:Ī}
theorem DA (ha:PE X a ta)(hb:PE X b tb){pins:b? (c_×J_)}{s:d_}{U:St}{H:Hp}{R:V->V->Hp->Prop}(I:Inv X pins U H s)(h:ta U H λx H1=>tb U H1 λy H2=>R x y H2){Q:b_->d_->Prop}{f:b_->b_->Ģ b_}(hf:∀v u s2 x y H2,Inv X pins U H2 s2->RelV x v->RelV y u->R x y H2->l_ (m_ X.prog X.w) X.A (f v u) Q X.xe s2):
  l_ (m_ X.prog X.w) X.A (T? a X.env) (λv aj=>l_ (m_ X.prog X.w) X.A (T? b X.env) (λu ae=>l_ (m_ X.prog X.w) X.A (f v u) Q X.xe ae) X.xe aj) X.xe s:=by
 refine ai (ha pins s U H _ I h) λv s1 zQ=>?_;obtain⟨x,H1,I1,r1,q1⟩:=zQ;refine ai (hb pins s1 U H1 _ I1 q1) λu s2 zQ=>?_;obtain⟨y,H2,I2,r2,q2⟩:=zQ;exact hf v u s2 x y H2 I2 r1 r2 q2
theorem xa {op:afv}{r:R2}(ho:bD X (ă op) r)(ha:PE X a ta)(hb:PE X b tb):PE X (.BinOp a op b pos) (zQ r ta tb):=by intro pins s U H Q I h;exact wpAny_BinOp (DA ha hb I h λv u s2 x y H2 I2 rx ry q=>ho pins s2 U H2 x y v u Q I2 rx ry q)
theorem Tf {op:UnaryOp}{r:V->Hp->VK->Prop}(ho:Dz X (unaryOp op) r)(ha:PE X a ta):PE X (.UnaryOp op a pos) (Te r ta):=by intro pins s U H Q I h;exact UnaryOp_ (ai (ha pins s U H _ I h) λv s1 ⟨x,H1,I1,r1,q1⟩=>ho pins s1 U H1 x v Q I1 r1 q1)
theorem zR {f:b_->b_->Ģ b_}{C:i_->i_->Prop}{g:i_->i_->i_}(rule:∀(i j:i_)(t u:Tok)(s:d_)(Q:b_->d_->Prop)(E:b_->d_->Prop),C i j->Q (.int (g i j) s.toks) {s with toks:=s.toks+1}->l_ (m_ X.prog X.w) X.A (f (.int i t) (.int j u)) Q E s):
  bD X f (rI C λi j=>.int (g i j)):=by
 intro pins s U H x y v u Q I rx ry h;obtain⟨i,j,rfl,rfl,hc,q⟩:=h;obtain⟨t,rfl⟩:=rx;obtain⟨t',rfl⟩:=ry;exact rule i j t t' s _ _ hc (xa0 (.int (g i j)) H ⟨I.tok _,⟨_,a_⟩,q⟩)
theorem K7 {f:b_->b_->Ģ b_}{g:i_->i_->i_}(rule:∀(i j:i_)(t u:Tok)(s:d_)(Q:b_->d_->Prop)(E:b_->d_->Prop),Q (.int (g i j) s.toks) {s with toks:=s.toks+1}->l_ (m_ X.prog X.w) X.A (f (.int i t) (.int j u)) Q E s):
  bD X f (nI λi j=>.int (g i j)):=by
 intro pins s U H x y v u Q I rx ry h;obtain⟨i,j,rfl,rfl,q⟩:=h;obtain⟨t,rfl⟩:=rx;obtain⟨t',rfl⟩:=ry;exact rule i j t t' s _ _ (xa0 (.int (g i j)) H ⟨I.tok _,⟨_,a_⟩,q⟩)
theorem zS {f:b_->b_->Ģ b_}{g:i_->i_->s?}(rule:∀(i j:i_)(t u:Tok)(s:d_)(Q:b_->d_->Prop)(E:b_->d_->Prop),Q (.bool (g i j)) s->l_ (m_ X.prog X.w) X.A (f (.int i t) (.int j u)) Q E s):
  bD X f (nI λi j=>.bl (g i j)):=by
 intro pins s U H x y v u Q I rx ry h;obtain⟨i,j,rfl,rfl,q⟩:=h;obtain⟨t,rfl⟩:=rx;obtain⟨t',rfl⟩:=ry;exact rule i j t t' s _ _ (xa0 (.bl (g i j)) H ⟨I,a_,q⟩)
noncomputable def Tg (i j:i_):Prop:=0<j/\j<1073741824
noncomputable def Th (i j:i_):Prop:=0<=j/\j<=1000000/\i.natAbs<2^64
noncomputable def DB (i j:i_):Prop:=(-(2^64)<i/\i<2^64)\/(-(2^64)<j/\j<2^64)
theorem DB.ok {i j:i_}(h:DB i j):IntMulOk i j:=by
 rcases h with⟨h1,h2⟩|⟨h1,h2⟩
 .exact .of_left (afM h1 h2)
 .exact .of_right (afM h1 h2)
theorem ir:bD X (ă .Add) (nI λi j=>.int (i+j)):=K7 λ_ _ _ _ _ _ _ q=>add_int q
theorem i9:bD X (ă .Sub) (nI λi j=>.int (i-j)):=K7 λ_ _ _ _ _ _ _ q=>sub_int q
theorem zT:bD X (ă .Mult) (rI DB λi j=>.int (i*j)):=zR λ_ _ _ _ _ _ _ hc q=>mul_int q hc.ok
theorem DC:bD X (ă .FloorDiv) (rI Tg λi j=>.int (i / j)):=zR λi j _ _ _ _ _ hc q=>by have h1:(0:i_)<j:=hc.1;have h2:j<1073741824:=hc.2;exact floordiv_int (by lia) (by rw[i_.fdiv_eq_ediv_of_nonneg i (by lia)];exact q) (.inl (PyProof.noPylong_small (by lia)))
theorem lY:bD X (ă .Mod) (rI (λ_ j=>0<j) λi j=>.int (i%j)):=zR λi j _ _ _ _ _ hc q=>by have h1:(0:i_)<j:=hc;exact mod_int' (by lia) (by rw[i_.fmod_eq_emod_of_nonneg i (by lia)];exact q)
theorem Ti:bD X (ă .Pow) (rI Th λi j=>.int (i^j.toNat)):=zR λ_ _ _ _ _ _ _ hc q=>pow_int_small hc.1 hc.2.1 hc.2.2 q
theorem Tj {f:b_->Ģ b_}{g:i_->i_}(rule:∀(i:i_)(t:Tok)(s:d_)(Q:b_->d_->Prop)(E:b_->d_->Prop),Q (.int (g i) s.toks) {s with toks:=s.toks+1}->l_ (m_ X.prog X.w) X.A (f (.int i t)) Q E s):
  Dz X f (rU λi=>.int (g i)):=by
 intro pins s U H x v Q I rx h;obtain⟨i,rfl,q⟩:=h;obtain⟨t,rfl⟩:=rx;exact rule i t s _ _ (xa0 (.int (g i)) H ⟨I.tok _,⟨_,a_⟩,q⟩)
theorem Tn:Dz X (unaryOp .USub) (rU λi=>.int (-i)):=Tj λ_ _ _ _ _ q=>neg_int q
end
noncomputable def K8:V->V->s?
 | .ar,.ar=>true| .ar,.int _=>true| .int _,.ar=>true| .ar,.bl _=>true| .bl _,.ar=>true| .ar,.str _=>true| .str _,.ar=>true
 | .int _,.int _=>true| .bl _,.bl _=>true| .str _,.str _=>true| .fZ _,.fZ _=>true
 | .int _,.str _=>true| .str _,.int _=>true| .bl _,.str _=>true| .str _,.bl _=>true
 |_,_=>false
noncomputable def Tp:R2:=λx y H Q=>K8 x y=true/\Q (.bl (p_ (x=y))) H
noncomputable def Tq:R2:=λx y H Q=>K8 x y=true/\Q (.bl (!p_ (x=y))) H
theorem K9 {i j:i_}:p_ (V.int i=V.int j)=(i==j):=by rw[ġ];simp
theorem La {i j:s?}:p_ (V.bl i=V.bl j)=(i==j):=by rw[ġ];simp
theorem Lb {i j:y_}:p_ (V.str i=V.str j)=(i==j):=by rw[ġ];simp
theorem Lc {i j:C? UInt8}:p_ (V.fZ i=V.fZ j)=(i.toList==j.toList):=by rw[ġ];cases i;cases j;simp
section
variable {X:Cx}{a b c:G?}{ta tb tc:TE}{pos:Ī}
theorem xg {pins:b? (c_×J_)}{U:St}{H:Hp}{s:d_}{Q:VK}{k k':s?}(I:Inv X pins U H s)(q:Q (.bl k) H)(e:k=k'):EP X pins U Q (.bool k') s:=by subst e;exact(xa0 (.bl k) H ⟨I,a_,q⟩)
theorem eI:bD X (M? .Eq) Tp:=by
 intro pins s U H x y v u Q I rx ry h;obtain⟨hs,q⟩:=h;cases x with
 |ar=>
  cases rx;cases y with
  |ar=>cases ry;exact ae5 (xg I q (by simp))
  |bl j=>cases ry;exact ae7 (xg I q (by simp))
  |int j=>obtain⟨t',rfl⟩:=ry;exact ae6 (xg I q (by simp))
  |str j=>obtain⟨t',rfl⟩:=ry;exact ae4 (xg I q (by simp))
  |_=>exact v_ (show false=true from hs) p?
 |bl i=>
  cases rx;cases y with
  |ar=>cases ry;exact ae9 (xg I q (by simp))
  |bl j=>cases ry;exact eq_bool (xg I q La)
  |str j=>obtain⟨t',rfl⟩:=ry;exact aeH (xg I q (by simp))
  |_=>exact v_ (show false=true from hs) p?
 |int i=>
  obtain⟨t,rfl⟩:=rx;cases y with
  |ar=>cases ry;exact ae8 (xg I q (by simp))
  |int j=>obtain⟨t',rfl⟩:=ry;exact eq_int (xg I q K9)
  |str j=>obtain⟨t',rfl⟩:=ry;exact aeG (xg I q (by simp))
  |_=>exact v_ (show false=true from hs) p?
 |str i=>
  obtain⟨t,rfl⟩:=rx;cases y with
  |ar=>cases ry;exact ae3 (xg I q (by simp))
  |bl j=>cases ry;exact aeF (xg I q (by simp))
  |int j=>obtain⟨t',rfl⟩:=ry;exact aeE (xg I q (by simp))
  |str j=>obtain⟨t',rfl⟩:=ry;exact eq_str (xg I q Lb)
  |_=>exact v_ (show false=true from hs) p?
 |fZ i=>
  obtain⟨t,rfl⟩:=rx;cases y with
  |fZ j=>obtain⟨t',rfl⟩:=ry;exact PySem.W.eq_bytes (xg I q Lc)
  |_=>exact v_ (show false=true from hs) p?
 |_=>cases y<;>exact v_ (show false=true from hs) p?
theorem rQ:bD X (M? .NotEq) Tq:=by
 intro pins s U H x y v u Q I rx ry h;obtain⟨hs,q⟩:=h;cases x with
 |ar=>
  cases rx;cases y with
  |ar=>cases ry;exact aeY (xg I q (by simp))
  |bl j=>cases ry;exact ae0 (xg I q (by simp))
  |int j=>obtain⟨t',rfl⟩:=ry;exact aeZ (xg I q (by simp))
  |str j=>obtain⟨t',rfl⟩:=ry;exact aeX (xg I q (by simp))
  |_=>exact v_ (show false=true from hs) p?
 |bl i=>
  cases rx;cases y with
  |ar=>cases ry;exact ae2 (xg I q (by simp))
  |bl j=>cases ry;exact ne_bool (xg I q (T_ not La))
  |str j=>obtain⟨t',rfl⟩:=ry;exact aeD (xg I q (by simp))
  |_=>exact v_ (show false=true from hs) p?
 |int i=>
  obtain⟨t,rfl⟩:=rx;cases y with
  |ar=>cases ry;exact ae1 (xg I q (by simp))
  |int j=>obtain⟨t',rfl⟩:=ry;exact ne_int (xg I q (T_ not K9))
  |str j=>obtain⟨t',rfl⟩:=ry;exact aeC (xg I q (by simp))
  |_=>exact v_ (show false=true from hs) p?
 |str i=>
  obtain⟨t,rfl⟩:=rx;cases y with
  |ar=>cases ry;exact aeW (xg I q (by simp))
  |bl j=>cases ry;exact aeB (xg I q (by simp))
  |int j=>obtain⟨t',rfl⟩:=ry;exact aeA (xg I q (by simp))
  |str j=>obtain⟨t',rfl⟩:=ry;exact ne_str (xg I q (T_ not Lb))
  |_=>exact v_ (show false=true from hs) p?
 |fZ i=>
  obtain⟨t,rfl⟩:=rx;cases y with
  |fZ j=>obtain⟨t',rfl⟩:=ry;exact PySem.W.ne_bytes (xg I q (T_ not Lc))
  |_=>exact v_ (show false=true from hs) p?
 |_=>cases y<;>exact v_ (show false=true from hs) p?
theorem zU:bD X (M? .Lt) (nI λi j=>.bl (p_ (i<j))):=zS λ_ _ _ _ _ _ _ q=>aaF q
theorem zV:bD X (M? .LtE) (nI λi j=>.bl (p_ (i<=j))):=zS λ_ _ _ _ _ _ _ q=>le_int q
theorem tW:bD X (M? .Gt) (nI λi j=>.bl (p_ (j<i))):=zS λ_ _ _ _ _ _ _ q=>gt_int q
theorem DD:bD X (M? .GtE) (nI λi j=>.bl (p_ (j<=i))):=zS λ_ _ _ _ _ _ _ q=>ge_int q
theorem Ld:bD X (M? .Is) (λx y H Q=>y= .ar/\Q (.bl (p_ (x= .ar))) H):=by
 intro pins s U H x y v u Q I rx ry h;obtain⟨rfl,q⟩:=h;cases ry;refine is_none_gen (xg I q ?_);cases x<;>first
  |(cases rx;rfl)
  |(obtain⟨t,rfl⟩:=rx;rfl)
theorem Le:bD X (M? .IsNot) (λx y H Q=>y= .ar/\Q (.bl (!p_ (x= .ar))) H):=by
 intro pins s U H x y v u Q I rx ry h;obtain⟨rfl,q⟩:=h;cases ry;refine isnot_none_gen (xg I q ?_);cases x<;>first
  |(cases rx;rfl)
  |(obtain⟨t,rfl⟩:=rx;rfl)
theorem qc (b:G?){op:aek}(h:e_ (op≠.In) aP2)(h2:e_ (op≠.NotIn) aP2):aaG op b=false:=by
 have e:(op==aek.In||op==aek.NotIn)=false:=by cases op<;>first|rfl|exact v_ a_ h|exact v_ a_ h2
 cases b<;>first|rfl|(show(_&&_&&_)=false;rw[e,Ť];rfl)
theorem kP {op:aek}{r:R2}(ho:bD X (M? op) r)(ha:PE X a ta)(hb:PE X b tb)(hm:aaG op b=false):PE X (.Compare a [op] [b] pos) (zQ r ta tb):=by intro pins s U H Q I h;exact wpAny_Compare1 (DA ha hb I h λv u s2 x y H2 I2 rx ry q=>ho pins s2 U H2 x y v u Q I2 rx ry q) hm
noncomputable def Tr (t:TE):TT:=λ U H Q=>t U H λx H'=>∃k,x= .bl k/\Q k H'
theorem ju {op:aek}{r:R2}(ho:bD X (M? op) r)(ha:PE X a ta)(hb:PE X b tb)(hm:aaG op b=false):PT X (.Compare a [op] [b] pos) (Tr (zQ r ta tb)):=by
 intro pins s U H Q I h;refine adf (ai (ha pins s U H _ I h) λv s1 ⟨x,H1,I1,r1,q1⟩=>ai (hb pins s1 U H1 _ I1 q1) λu s2 ⟨y,H2,I2,r2,q2⟩=>ai (ho pins s2 U H2 x y v u _ I2 r1 r2 q2) λc s3 zQ=>?_) hm;obtain⟨z,H3,I3,r3,k,e,q3⟩:=zQ;subst e;cases r3;exact S? ⟨H3,I3,q3⟩
noncomputable def Ts (r r':R2)(ta tb tc:TE):TE:=λ U H Q=>ta U H λx H1=>tb U H1 λy H2=>r x y H2 λz H3=>∃k,z= .bl k/\(if k=true then tc U H3 λw' H4=>r' y w' H4 Q else Q (.bl false) H3)
theorem Tt {op DE:aek}{r r':R2}(ho:bD X (M? op) r)(aQ:bD X (M? DE) r')(ha:PE X a ta)(hb:PE X b tb)(hc:PE X c tc)(hm:lastMarks [op,DE] [b,c]=false:=by with_unfolding_all rfl):PE X (.Compare a [op,DE] [b,c] pos) (Ts r r' ta tb tc):=by
 intro pins s U H Q I h;refine Compare_chain (ai (ha pins s U H _ I h) λv s1 ⟨x,H1,I1,r1,q1⟩=>chain_link (ai (hb pins s1 U H1 _ I1 q1) λu s2 ⟨y,H2,I2,r2,q2⟩=>ai (ho pins s2 U H2 x y v u _ I2 r1 r2 q2) λd s3 zQ=>?_)) hm;obtain⟨z,H3,I3,r3,k,e,q3⟩:=zQ;subst e;cases r3;refine S? ?_;cases k with
 |false=>exact ite_ff (xa0 (.bl false) H3 ⟨I3,a_,q3⟩)
 |true=>exact ite_tt (chain_last (ai (hc pins s3 U H3 _ I3 q3) λw' s4 ⟨z',H4,I4,r4,q4⟩=>aQ pins s4 U H4 y z' u w' Q I4 r2 r4 q4))
noncomputable def Lf (K:e?)(x:V)(H:Hp)(k:s?):Prop:=match x with
 | .ar=>k=false
 | .bl b=>k=b
 | .int i=>k=(i != 0)
 | .str y=>y.length<=k?/\k=((y.length:i_) != 0)
 | .fZ y=>y.size<=k?/\k=((y.size:i_) != 0)
 | .ref p=>(∃xs,ah K H p xs/\k=!xs.isEmpty)\/(∃xs,ax K H p xs/\k=!xs.isEmpty)\/∃aa,H p=some (.dK aa)/\k=!aa.isEmpty
 |_=>v?
theorem Tu {B:Type}{aa:b? (B×V)}{vs:b? (B×b_)}(r:KV aa vs):(!vs.isEmpty)=!aa.isEmpty:=by cases r<;>rfl
theorem Lg {xs:b? V}{its:b? b_}(r:Vals xs its):(!its.toArray.isEmpty)=!xs.isEmpty:=by cases r<;>simp
theorem pK:(k?:j?)<2^63:=by rw[Ĭ];decide
theorem Tv:Td X (λx H Q=>∃k,Lf X.K x H k/\Q k H):=by
 intro pins s U H x v Q I rx h;obtain⟨k,e,q⟩:=h;have hl:=pK;have hs:k?=16777216:=Ĭ;cases x with
 |ar=>cases rx;have e':k=false:=e;subst e';exact truthy_none ⟨H,I,q⟩
 |bl b=>cases rx;have e':k=b:=e;subst e';exact S? ⟨H,I,q⟩
 |int i=>obtain⟨t,rfl⟩:=rx;have e':k=(i != 0):=e;subst e';exact PySem.P.truthy_int ⟨H,I,q⟩
 |str y=>obtain⟨t,rfl⟩:=rx;obtain⟨hy,e'⟩:y.length<=k?/\k=((y.length:i_) != 0):=e;subst e';exact PySem.P.truthy_str (by lia) ⟨H,I.tok _,q⟩
 |fZ y=>obtain⟨t,rfl⟩:=rx;obtain⟨hy,e'⟩:y.size<=k?/\k=((y.size:i_) != 0):=e;subst e';exact PySem.W.truthy_bytes (by lia) ⟨H,I.tok _,q⟩
 |ref p=>
  cases rx;have e':(∃xs,ah X.K H p xs/\k=!xs.isEmpty)\/(∃xs,ax X.K H p xs/\k=!xs.isEmpty)\/∃aa,H p=some (.dK aa)/\k=!aa.isEmpty:=e;rcases e' with⟨xs,hx,e'⟩|⟨xs,hx,e'⟩|⟨aa,hx,e'⟩
  .subst e';obtain⟨its,r,pl,hz⟩:=I.list hx;have hlen:=r.length;exact wpAny_truthy_list pl.isList (by simp only[D'];lia) ⟨H,I.tok _,by rw[Lg r];exact q⟩
  .subst e';obtain⟨its,r,pl,hz⟩:=I.tuple hx;have hlen:=r.length;exact truthy_tuple pl (by simp only[D'];lia) ⟨H,I.tok _,by rw[Lg r];exact q⟩
  .subst e';obtain⟨hz,hS,vs,r,m⟩:aa.length<=k?/\(p==V')=false/\∃vs,KV aa vs/\s.heap.DictOf (qp X.prog X.w) p vs:=I.ag p _ hx;have hlen:aa.length=vs.length:=q? r;exact wpAny_truthy_dict hS m (by lia) ⟨H,I.tok _,by rw[Tu r];exact q⟩
 |_=>exact(show v? from e).elim
theorem Tx (ha:PE X a ta)(he:∀whole,abY a X.env whole=(do let v<-whole;ų a.pos;Ĩ [v] (truthy v))):PT X a (λ U H Q=>ta U H λx H'=>∃k,Lf X.K x H' k/\Q k H'):=by
 intro pins s U H Q I h;exact isTrue_plain (ai (ha pins s U H _ I h) λv s1 ⟨x,H1,I1,r1,q1⟩=>Tv pins s1 U H1 x v Q I1 r1 q1) (he _)
theorem vals1 {x:V}{us:b? b_}(r:Vals [x] us):∃u,us=[u]/\RelV x u:=by
 cases r with
 |cons r1 r2=>cases r2;exact⟨_,a_,r1⟩
theorem vals2 {x y:V}{us:b? b_}(r:Vals [x,y] us):∃u w',us=[u,w']/\RelV x u/\RelV y w':=by
 cases r with
 |cons r1 r2=>
  cases r2 with
  |cons r3 r4=>cases r4;exact(xa0 _ _ ⟨a_,r1,r3⟩)
end
structure pL (h:k_)(x dx C:c_)(mA:y_->f_ b_):Prop where
 obj:h.get? x=some (Ë C dx)
 ns:h.Ns1 dx mA
 ne:dx≠x
theorem Tz {h:k_}{dx:c_}{mA:y_->f_ b_}(n:h.Ns1 dx mA):∃od,h.get? dx=some od/\∀name,ŝ name od=some (mA name):=by
 obtain⟨o,es,ep,ho,hd,hk,_,hm⟩:=n;refine⟨o,ho,λname=>?_⟩;have e:=hm name;unfold nsFind findBy at e;rw[<-C?.find?_toList]at e;unfold ŝ;rw[hd];dsimp only;split
 .rename_i y q;rw[q]at e;exact T_ some e
 .rename_i q;rw[q]at e;have a:es.toList.any (·.refKey)=false:=by
   rw[b?.any_eq_false];intro y hy;obtain⟨z,t,cp⟩:=hk y (C?.mem_toList_iff.mp hy);simp[ì.refKey,cp]
  have a':¬es.toList.any (·.refKey)=true:=by rw[a];exact p?
  rw[f? a'];exact T_ some e
theorem pL.look {h:k_}{x dx C:c_}{mA:y_->f_ b_}(I:pL h x dx C mA):∃od,PySem.W.InstAt h x (Ë C dx) C (some od)/\∀name,ŝ name od=some (mA name):=
 let⟨od,ho,hl⟩:=Tz I.ns
 ⟨od,⟨I.obj,a_,a_,ho⟩,hl⟩
section
variable {prog:n_}{w:z?}{A:B?}{E:b_->d_->Prop}{s:d_}{K:e?}{x dx C f:c_}{mA:y_->f_ b_}{name:y_}{v:b_}
theorem get_map {expr:s?}{Q:b_->d_->Prop}(X:K.In s.heap)(I:pL s.heap x dx C mA)(hg:Ľ K C name=true)(hh:aag K C=true)(ha:G_ K (.ref C) name=some none)(hv:mA name=some v)(TB:acv v=true)(h:Q v {s with toks:=s.toks+1}):
  l_ (m_ prog w) A (getAttr (.ref x) name expr) Q E s:=by
 obtain⟨od,J,hl⟩:=I.look;exact PySem.W.get_value X J (Ŭ hg).1 (PySem.W.findObj_own hh ha a_ (by rw[hl,hv])) TB h
theorem TC {pl:Ģ s?}{Q:b_×b? b_->d_->Prop}(X:K.In s.heap)(I:pL s.heap x dx C mA)(hg:Ľ K C name=true)(hf:G_ K (.ref C) name=some (some (.ref f)))(ht:aaV K (.ref f)=true)(hv:mA name=none)(h:Q (.ref f,[.ref x]) s):
  l_ (m_ prog w) A (ũ (.ref x) name pl) Q E s:=by
 obtain⟨od,J,hl⟩:=I.look;exact PySem.W.method_fn X J (Ŭ hg).1 (Ŭ hg).2 hf (Á.mp ht) (by show(ŝ name od).map (·.isSome)=some false;rw[hl,hv];rfl) h
theorem DF {ns:b? y_}{Q:Unit->d_->Prop}(X:K.In s.heap)(I:pL s.heap x dx C mA)(hs:G_ K (.ref C) "__setattr__"=some (some (.builtin "object.__setattr__")))(hp:acm K C=true)(ht:aaE K C name=some none)(hh:aag K C=true)(hw:ĩ mA ns)(hsz:ns.length<=k?)(h:∀h',pL h' x dx C (λy=>if y=name then some v else mA y)->F_ dx s.heap h'->Q () {s with heap:=h',toks:=s.toks+2}):
  l_ (m_ prog w) A (aec (.ref x) name v) Q E s:=by
 obtain⟨od,J,hl⟩:=I.look;refine PySem.W.set_plain X J hs (PySem.W.osa_open (s:={s with toks:=s.toks+1}) (r:=none) X J hp ht λb=>?_);obtain⟨cd,hc,aX⟩:=PySem.W.any_some hh;have hx:s.heap.get? x=some ⟨.ref C,some dx,.plain,#[]⟩:=I.obj;refine d? (h_ (d? (d? (afi hx (d? (P_.here (s:={s with toks:=s.toks+1}) (PySem.W.looks_clsIn X hc) ?_))))));rw[aX];refine h_ (a:=some dx) (d? (h_ (d? ?_)));refine wpAny_nsSet1 (s:={s with toks:=s.toks+1}) I.ns λh' lZ tX=>?_;obtain⟨oD,TF,TH,DG,DH,jA⟩:=lZ.count (ĩ.cons name v hw);refine d? (aet DG (by rw[DH];exact aew (K? jA (by rw[E?];lia))) ?_);exact h_ (h _ ⟨(tX.2 _ (Í I.ne)).trans I.obj,lZ,I.ne⟩ tX)
theorem Lh {R:ş->d_->Prop}{vs:b? b_}{kw:b? (y_×b_)}(X:K.In s.heap)(hm:acL K C=true)(hi:G_ K (.ref C) "__init__"=some (some (.ref f)))(hf:PySem.W.typeIn K (.ref f)=some (.type "function"))(h:Ð (m_ prog w) (A.under (.builtin "type.__call__" ⟨.ref C::vs,kw⟩)) (.call (.ref f) ⟨.ref (s.heap.objs.size+1)::vs,kw⟩) (PySem.W.InitBack (s.heap.objs.size+1) R) {s with heap:=(s.heap.push V?).push (Ë C s.heap.objs.size)}):
  Ð (m_ prog w) A (.call (.ref C) ⟨vs,kw⟩) R s:=by
 obtain⟨hh,g,d,t,os⟩:=s;exact PySem.W.make_core (PySem.W.makes_of X hm) (Y_ X hi) (λself=>PySem.W.bind_fn X self hf) (.inl a_) h
end
noncomputable def wm (f:y_)(v:V):b? (y_×V)->b? (y_×V)
 |[]=>[(f,v)]
 |(g,x)::r=>if g=f then(g,v)::r else(g,x)::wm f v r
theorem jj (f g:y_)(v:V):∀fs:b? (y_×V),(wm f v fs).lookup g=if g=f then some v else fs.lookup g
 |[]=>by
  show ò g [(f,v)]=_;by_cases h:g=f
  .have hb:(g==f)=true:=Á.mpr h;simp only[ò,hb,j_ h]
  .have hb:(g==f)=false:=Ê.mpr h;simp only[ò,hb,f? h]
 | (k,x)::r=>by
  have ih:=jj f g v r;rw[show wm f v ((k,x)::r)=(if k=f then(k,v)::r else(k,x)::wm f v r)from a_];by_cases hk:k=f
  .rw[j_ hk];by_cases h:g=k
   .have hb:(g==k)=true:=Á.mpr h;simp only[ò,hb,j_ (h.trans hk)]
   .have hb:(g==k)=false:=Ê.mpr h;simp only[ò,hb,f? (λe:g=f=>h (e.trans hk.symm))]
  .rw[f? hk];by_cases h:g=k
   .have hb:(g==k)=true:=Á.mpr h;simp only[ò,hb,f? (λe:g=f=>hk (h.symm.trans e))]
   .have hb:(g==k)=false:=Ê.mpr h;simp only[ò,hb];exact ih
theorem DI (f:y_)(v:V):∀fs:b? (y_×V),f∈(wm f v fs).map (·.1)/\∀g,g∈fs.map (·.1)->g∈(wm f v fs).map (·.1)
 |[]=>⟨by simp[wm],λg h=>by simp at h⟩
 | (k,x)::r=>by
  obtain⟨i1,i2⟩:=DI f v r;rw[show wm f v ((k,x)::r)=(if k=f then(k,v)::r else(k,x)::wm f v r)from a_];by_cases hk:k=f
  .rw[j_ hk];subst hk;exact⟨by simp,λg h=>by simpa using h⟩
  .rw[f? hk];refine⟨?_,λg h=>?_⟩
   .rw[y?];exact u_ _ i1
   .rw[y?]at h⊢;rcases B_.mp h with e|e
    .exact B_.mpr (.inl e)
    .exact u_ _ (i2 g e)
theorem Li (f:y_)(v:V):∀fs:b? (y_×V),(wm f v fs).length<=fs.length+1
 |[]=>by simp[wm]
 |(k,x)::r=>by
  have ih:=Li f v r;rw[show wm f v ((k,x)::r)=(if k=f then(k,v)::r else(k,x)::wm f v r)from a_];by_cases hk:k=f
  .rw[j_ hk,E?,E?];lia
  .rw[f? hk,E?,E?];lia
theorem dJ.some_of {v:V}{o:f_ b_}(r:dJ (some v) o):∃u,o=some u/\RelV v u:=by
 cases o with
 |none=>exact(show v? from r).elim
 |some u=>exact⟨u,a_,r⟩
theorem dJ.none_of {o:f_ b_}(r:dJ none o):o=none:=by
 cases o with
 |none=>rfl
 |some u=>exact(show v? from r).elim
theorem TJ {v:V}{u:b_}(r:RelV v u):acv u=true:=by
 cases v with
 |ar=>cases(show u=Ğ from r);rfl
 |bl b=>cases(show u=À b from r);rfl
 |int i=>obtain⟨t,e⟩:=(show ∃t,u=ù i t from r);cases e;rfl
 |str x=>obtain⟨t,e⟩:=(show ∃t,u=adh x t from r);cases e;rfl
 |fZ b=>obtain⟨t,e⟩:=(show ∃t,u=b_.bytes b t from r);cases e;rfl
 |ni b=>obtain⟨t,e⟩:=(show ∃t,u=aeh b t from r);cases e;rfl
 |ref a=>cases(show u=o? a from r);rfl
 |ty n=>cases(show u=ĝ n from r);rfl
section
variable {P:n_}{w:z?}{H H':Hp}{h h':k_}{a C dx:c_}{fs fs':b? (y_×V)}
theorem zW (ag:bK P w H h)(e:H a=some (.ins C dx fs)):∃mA,pL h a dx C mA/\(∀f,dJ (fs.lookup f) (mA f))/\ĩ mA (fs.map (·.1))/\fs.length<=1000/\H dx=some (.own a):=by obtain⟨d,z,ne,ob,mA,n,r,q⟩:=(show y0 P w H h a (.ins C dx fs)from ag a _ e);exact⟨mA,⟨ob,n,ne⟩,r,q,z,d⟩
end
structure eJ (K:e?)(C:c_):Prop where
 pg:Ľ K C y_.empty=true
 hd:aag K C=true
 po:acm K C=true
 sa:G_ K (.ref C) "__setattr__"=some (some (.builtin "object.__setattr__"))
theorem eJ.get {K:e?}{C:c_}(c:eJ K C)(f:y_):Ľ K C f=true:=c.pg
noncomputable def yb (K:e?)(C:c_)(f:y_):Prop:=G_ K (.ref C) f=some none
theorem yb.TK {K:e?}{C:c_}{f:y_}(n:yb K C f):aaE K C f=some none:=by unfold aaE;rw[show G_ K (.ref C) f=some none from n];rfl
structure Meth (K:e?)(C:c_)(m:y_)(f:c_):Prop where
 at_:G_ K (.ref C) m=some (some (.ref f))
 fn:aaV K (.ref f)=true
 kp:Û K (.ref f)=true
section
variable {X:Cx}{pins:b? (c_×J_)}{U:St}{H:Hp}{s:d_}{a C dx:c_}{fs:b? (y_×V)}{f:y_}{v:V}{A:B?}{E:b_->d_->Prop}
theorem TL {b:s?}{Q:b_->d_->Prop}(I:Inv X pins U H s)(e:H a=some (.ins C dx fs))(c:eJ X.K C)(n:yb X.K C f)(l:fs.lookup f=some v)(h:∀u s',Inv X pins U H s'->RelV v u->Q u s'):l_ (m_ X.prog X.w) A (getAttr (.ref a) f b) Q E s:=by
 obtain⟨mA,O,r,_,_,_⟩:=zW I.ag e;obtain⟨u,hu,ru⟩:=dJ.some_of (v:=v) (o:=mA f) (by rw[<-l];exact r f);exact get_map I.aW O (c.get f) c.hd n hu (TJ ru) (h u _ (I.tok _) ru)
theorem zX {m:y_}{g:c_}{pl:Ģ s?}{Q:b_×b? b_->d_->Prop}(I:Inv X pins U H s)(e:H a=some (.ins C dx fs))(c:eJ X.K C)(k:Meth X.K C m g)(l:fs.lookup m=none)(h:Q (.ref g,[.ref a]) s):l_ (m_ X.prog X.w) A (ũ (.ref a) m pl) Q E s:=by
 obtain⟨mA,O,r,_,_,_⟩:=zW I.ag e;have hn:mA m=none:=dJ.none_of (by rw[<-l];exact r m);exact TC I.aW O (c.get m) k.at_ k.fn hn h
theorem TM {y:V}{u:b_}{Q:Unit->d_->Prop}(I:Inv X pins U H s)(e:H a=some (.ins C dx fs))(c:eJ X.K C)(n:yb X.K C f)(hl:fs.length<1000)(ry:RelV y u)(h:∀s',Inv X pins U (upd H a (.ins C dx (wm f y fs))) s'->Q () s'):l_ (m_ X.prog X.w) A (aec (.ref a) f u) Q E s:=by
 obtain⟨mA,O,r,wi,_,ho⟩:=zW I.ag e;have hz:(fs.map (·.1)).length<=k?:=by rw[i?,Ĭ];lia
 refine DF I.aW O c.sa c.po n.TK c.hd wi hz λh' O' sb=>h _ ?_;have hd:∃o,h'.get? dx=some o:=let⟨o,_,_,e',_⟩:=O'.ns;⟨o,e'⟩;refine I.write (x:=a) (e:=dx) (by rw[e];exact q_) (.inr ho) (λb q hb z=>(sb.2 b hb).trans z) hd ?_;refine⟨by rw[jd O.ne];exact ho,?_,O.ne,O'.obj,_,O'.ns,λg=>?_,λg hg=>?_⟩
 .have:=Li f y fs;lia
 .show dJ ((wm f y fs).lookup g) (if g=f then some u else mA g);rw[jj];by_cases q:g=f
  .rw[j_ q,j_ q];exact ry
  .rw[f? q,f? q];exact r g
 .by_cases q:g=f
  .rw[q];exact(DI f y fs).1
  .refine(DI f y fs).2 g (wi g λz=>hg ?_);show(if g=f then some u else mA g)=none;rw[f? q];exact z
theorem Inv.made (I:Inv X pins U H s):Inv X pins U (upd (upd H s.heap.objs.size (.own (s.heap.objs.size+1))) (s.heap.objs.size+1) (.ins C s.heap.objs.size [])) {s with heap:=(s.heap.push V?).push (Ë C s.heap.objs.size)}:=by
 have e1:(s.heap.push V?).get? s.heap.objs.size=some V?:=x? s.heap a_;have e2:((s.heap.push V?).push (Ë C s.heap.objs.size)).get? (s.heap.objs.size+1)=some (Ë C s.heap.objs.size):=by have:=x? (s.heap.push V?) (o:=Ë C s.heap.objs.size) a_;rwa[ď]at this
 have e3:(s.heap.push V?).Ns s.heap.objs.size (λ_=>none):=(xa1 V? (#[]) _ ⟨e1,a_,(λe he=>v_ he (by simp)),λ_=>a_⟩);have I1:=I.laid (a:=s.heap.objs.size) (o:=.own (s.heap.objs.size+1)) (h':=s.heap.push V?) (t':=s.toks) (λb u q=>g_ _ q) (s_ _) ⟨_,e1⟩;refine I1.laid (a:=s.heap.objs.size+1) (o:=.ins C s.heap.objs.size []) (t':=s.toks) (λb u q=>g_ _ q) (afC (ď _ _)) ?_;have ne:s.heap.objs.size≠s.heap.objs.size+1:=N? (Ė _);refine⟨by rw[jd ne,ja],W_ _,ne,e2,λ_=>none,(k_.Ns1.of_empty e3).at λo q=>g_ _ q,λ_=>q_,λy hy=>v_ a_ hy⟩
theorem TN {prog:n_}{w:z?}{env:š}{e:G?}{f:y_}{pos:Ī}{s:d_}{Q:b_->d_->Prop}(hb:Ŝ e f env (T? e env)=T? e env)(h:l_ (m_ prog w) A (T? e env) (λo aj=>l_ (m_ prog w) A (getAttr o f true) Q E aj) E s):l_ (m_ prog w) A (T? (.Attribute e f pos) env) Q E s:=
 Attribute_any_ h (by rw[arm_eval_Attribute,hb])
end
noncomputable def TQ (K:e?)(ta:TE)(f:y_):TE:=λ U H Q=>ta U H λx H1=>∃a C dx fs v,x= .ref a/\H1 a=some (.ins C dx fs)/\eJ K C/\yb K C f/\fs.lookup f=some v/\Q v H1
noncomputable def TR (K:e?)(ta tv:TE)(f:y_):TS:=λD U H=>tv U H λy H1=>ta U H1 λx H2=>∃a C dx fs,x= .ref a/\H2 a=some (.ins C dx fs)/\eJ K C/\yb K C f/\fs.length<1000/\D.nx U (upd H2 a (.ins C dx (wm f y fs)))
section
variable {X:Cx}{o e value:G?}{f:y_}{pos pos' pF:Ī}{ta tv:TE}
theorem j4 (he:PE X e ta)(hb:Ŝ e f X.env (T? e X.env)=T? e X.env):PE X (.Attribute e f pos) (TQ X.K ta f):=by intro pins s U H Q I h;refine TN hb (ai (he pins s U H _ I h) λu s1 zQ=>?_);obtain⟨x,H1,I1,rx,a,C,dx,fs,v,ex,ea,c,n,l,q⟩:=zQ;subst ex;obtain rfl:u=o? a:=rx;exact TL I1 ea c n l λu' s2 I2 ru=>(xa0 v H1 ⟨I2,ru,q⟩)
theorem dN (ha:PE X o ta)(hv:PE X value tv)(hs:ŧ value (some (.Attribute o f pos')) pos.line X.env=Ø false):PS X (.Assign [.Attribute o f pos'] value pos) (TR X.K ta tv f):=by intro pins s U H D I h;refine abi (ai (hv pins s U H _ I h) λu s1 ⟨y,H1,I1,ry,q⟩=>ai (ha pins s1 U H1 _ I1 q) λov s2 zQ=>?_) hs;obtain⟨x,H2,I2,rx,a,C,dx,fs,ex,ea,c,n,l,q2⟩:=zQ;subst ex;obtain rfl:ov=o? a:=rx;exact TM I2 ea c n l ry λs3 I3=>(xa0 U _ ⟨I3,q2⟩)
theorem j7d {pl:Ģ s?}{m:y_}{apos:Ī}{args:b? G?}{pins:b? (c_×J_)}{s:d_}{U:St}{H:Hp}{Q:b_->d_->Prop}{te:TE}(he:PE X e te)(I:Inv X pins U H s)(h:te U H λx H1=>∃a C dx fs g,x= .ref a/\H1 a=some (.ins C dx fs)/\eJ X.K C/\Meth X.K C m g/\fs.lookup m=none/\∀s1,Inv X pins U H1 s1->l_ (m_ X.prog X.w) X.A (aao pos (.ref g) [.ref a] (Y? pos (x_ args X.env)) (Ñ pos (S_ [] X.env))) Q X.xe s1)(ht:T? (.Call (.Attribute e m apos) args [] pos) X.env=(do
   let ov<-T? e X.env
   ų apos.atName
   let(f,first)<-Ĩ [ov] (ũ ov m pl)
   aao pos f first (Y? pos (x_ args X.env)) (Ñ pos (S_ [] X.env)))) :
  l_ (m_ X.prog X.w) X.A (T? (.Call (.Attribute e m apos) args [] pos) X.env) Q X.xe s:=by
 refine Ü (pl:=pl) (ai (he pins s U H _ I h) λu s1 zQ=>?_) ht;obtain⟨x,H1,I1,rx,a,C,dx,fs,g,ex,ea,c,k,l,q⟩:=zQ;subst ex;obtain rfl:u=o? a:=rx;exact zX I1 ea c k l (q s1 I1)
end
section
variable {X:Cx}{pins:b? (c_×J_)}{U:St}{H:Hp}{s:d_}{A:B?}{E:b_->d_->Prop}{Q:b_->d_->Prop}{c:b_}{b:s?}
inductive iu (K:e?)(H:Hp):V->b_->Prop where
 |ar:iu K H .ar (.type "NoneType")
 |bl (x:s?):iu K H (.bl x) (.type "bool")
 |int (i:i_):iu K H (.int i) (.type "int")
 |str (x:y_):iu K H (.str x) (.type "str")
 |ni (x:UInt64):iu K H (.ni x) (.type "float")
 |lst {a:c_} {xs:b? V} (e:H a=some (.lst xs)):iu K H (.ref a) (.type "list")
 |az {a:c_} {o:J_} {xs:b? V} (e:H a=some (.az o (.lst xs))):iu K H (.ref a) (.type "list")
 |tup {a:c_} {xs:b? V} (e:H a=some (.tup xs)):iu K H (.ref a) (.type "tuple")
 |dK {a:c_} {aa:b? (Key×V)} (e:H a=some (.dK aa)):iu K H (.ref a) (.type "dict")
 |dT {a:c_} {aa:b? (b? Key×V)} (e:H a=some (.dT aa)):iu K H (.ref a) (.type "dict")
 |ins {a C dx:c_} {fs:b? (y_×V)} (e:H a=some (.ins C dx fs)) (cl:eJ K C) (ha:G_ K (.ref C) "__class__"=some (some (.builtin "object.__class__"))) (hn:aad K (.builtin "object.__class__") "__get__"=some (some (.builtin "getset_descriptor.__get__"))) (Lj:acK K (.builtin "object.__class__")=some true) (hm:æ K C (.type "object")=some true):iu K H (.ref a) (.ref C)
theorem Lk {x:V}{u t:b_}(I:Inv X pins U H s)(rx:RelV x u)(ty:iu X.K H x t)(e:K_ X.K t c=some b)(h:∀tk,Q (.bool b) {s with toks:=tk}):l_ (m_ X.prog X.w) A (Ħ (.builtin "isinstance") [u,c]) Q E s:=by
 cases ty with
 |ar=>cases(show u=Ğ from rx);exact O? PySem.W.kitx_none I.aW q_ e (λz=>nomatch z) h
 |bl y=>cases(show u=À y from rx);exact O? PySem.W.kitx_bool I.aW q_ e (λz=>nomatch z) h
 |int i=>obtain⟨t,q⟩:=(show ∃t,u=ù i t from rx);cases q;exact O? PySem.W.kitx_int I.aW q_ e (λz=>nomatch z) h
 |str y=>obtain⟨t,q⟩:=(show ∃t,u=adh y t from rx);cases q;exact O? PySem.W.kitx_str I.aW q_ e (λz=>nomatch z) h
 |ni y=>obtain⟨t,q⟩:=(show ∃t,u=aeh y t from rx);cases q;exact O? PySem.W.kitx_float I.aW q_ e (λz=>nomatch z) h
 |@lst a xs ea=>cases(show u=o? a from rx);obtain⟨_,_,n,_,h1⟩:=(show y0 X.prog X.w H s.heap a (.lst xs)from I.ag a _ ea);exact O? aaf I.aW ⟨_,h1,a_⟩ e (λz=>nomatch z) h
 |@az a ob xs ea=>cases(show u=o? a from rx);obtain⟨_,_,_,n,_,h1⟩:=(show y0 X.prog X.w H s.heap a (.az ob (.lst xs))from I.ag a _ ea);exact O? aaf I.aW ⟨_,h1,a_⟩ e (λz=>nomatch z) h
 |@tup a xs ea=>cases(show u=o? a from rx);obtain⟨_,_,_,p⟩:=(show y0 X.prog X.w H s.heap a (.tup xs)from I.ag a _ ea);obtain⟨o,h1,h2,_⟩:=p;exact O? ab8 I.aW ⟨o,h1,h2⟩ e (λz=>nomatch z) h
 |@dK a aa ea=>cases(show u=o? a from rx);obtain⟨_,_,vs,_,p⟩:=(show y0 X.prog X.w H s.heap a (.dK aa)from I.ag a _ ea);obtain⟨o,es,ep,h1,h2,_⟩:=p;exact O? acn I.aW ⟨o,h1,h2.1⟩ e (λz=>nomatch z) h
 |@dT a aa ea=>cases(show u=o? a from rx);obtain⟨_,_,xs,_,o,es,ep,h1,h2,_⟩:=(show y0 X.prog X.w H s.heap a (.dT aa)from I.ag a _ ea);exact O? acn I.aW ⟨o,h1,h2.1⟩ e (λz=>nomatch z) h
 |@ins a C dx fs ea cl ha hn Lj hm=>cases(show u=o? a from rx);obtain⟨mA,O,_⟩:=zW I.ag ea;obtain⟨od,J,_⟩:=O.look;exact O? (PySem.W.kitx_own (cl.get _) cl.hd ha hn Lj hm) I.aW J e (λz=>nomatch z) h
end
structure aY (k:j?)(A:B?):Prop where
 hd:A.handled=none
 dp:A.depth+3*k+5<afl
 un:A.units+16*k+200<P?
theorem aY.mono {j k:j?}{A:B?}(r:aY k A)(h:j<=k):aY j A:=⟨r.hd,by have:=r.dp;lia,by have:=r.un;lia⟩
theorem aY.dn {j k:j?}{A:B?}(r:aY k A)(h:e_ (j<=k) aP2):aY j A:=r.mono h
theorem aY.deeper {k:j?}{A:B?}(r:aY (k+1) A)(env:š):aY k (A.deeper env):=⟨r.hd,by have:=r.dp;show A.depth+1+3*k+5<_;lia,by have:=r.un;show A.units+3+16*k+200<_;lia⟩
theorem TU {A:B?}{C:c_}{us:b? b_}{kw:b? (y_×b_)}:(A.under (.builtin "type.__call__" ⟨.ref C::us,kw⟩)).depth=A.depth+1:=by first|rfl|simp[Around.under,Code.weight,Code.isCreation,Code.isGuard,Code.isCaller,Code.frames,Code.isFrame,guardIds]
theorem TV {A:B?}{C:c_}{us:b? b_}{kw:b? (y_×b_)}:(A.under (.builtin "type.__call__" ⟨.ref C::us,kw⟩)).units=A.units+1:=by first|rfl|simp[Around.under,Code.cUnits,Code.frames,Code.isFrame]
theorem aY.make {k:j?}{A:B?}(r:aY (k+1) A)(C:c_)(us:b? b_)(kw:b? (y_×b_)):aY k (A.under (.builtin "type.__call__" ⟨.ref C::us,kw⟩)):=⟨r.hd,by have:=r.dp;rw[TU];lia,by have:=r.un;rw[TV];lia⟩
theorem aY.depth {k:j?}{A:B?}(r:aY k A):A.depth<afl:=by have:=r.dp;lia
theorem aY.units {k:j?}{A:B?}(r:aY k A):A.units+64<P?:=by have:=r.un;lia
noncomputable def ma:TA:=λ_ H Q=>Q [] H
noncomputable def wc (ta:TE)(tr:TA):TA:=λ U H Q=>ta U H λx H1=>tr U H1 λxs H2=>Q (x::xs) H2
section
variable {X:Cx}{e:G?}{es:b? G?}{te:TE}{t:TA}{pos:Ī}
theorem jf:PA X [] ma:=λ_ _ _ _ H Q I h=>aar (xa0 [] H ⟨I,.nil,h⟩)
theorem TX (ha:PE X e te)(hr:PA X es t)(hs:e_ (x_ (e::es) X.env=(false,T? e X.env)::x_ es X.env) aP1):PA X (e::es) (wc te t):=by intro pos pins s U H Q I h;rw[hs];show l_ _ _ (spliced ((false,T? e X.env)::Y? pos (x_ es X.env))) _ _ s;refine ü (ai (ha pins s U H _ I h) λu s1 zQ=>?_);obtain⟨x,H1,I1,r1,q1⟩:=zQ;exact ai (hr pos pins s1 U H1 _ I1 q1) λus s2 ⟨xs,H2,I2,r2,q2⟩=>(xa0 (x::xs) H2 ⟨I2,.cons r1 r2,q2⟩)
noncomputable def TY (t:TA):TE:=λ U H Q=>t U H λxs H1=>xs.length<=k?/\∀p,H1 p=none->Q (.ref p) (upd H1 p (.tup xs))
noncomputable def TZ (t:TA):TE:=λ U H Q=>t U H λxs H1=>xs.length<=k?/\∀p,H1 p=none->Q (.ref p) (upd H1 p (.lst xs))
theorem gR {x1}(h:PA X es t):PE X (.Tuple es x1 pos) (TY t):=by intro pins s U H Q I hq;refine wpAny_Tuple_spliced (ai (h pos pins s U H _ I hq) λus s1 ⟨xs,H1,I1,r,z,q⟩=>⟨by rw[<-r.length];exact z,?_⟩);have hf:H1 s1.heap.objs.size=none:=I1.ag.fresh (s_ _);refine(xa0 (.ref s1.heap.objs.size) (upd H1 s1.heap.objs.size (.tup xs)) ⟨I1.laid (t':=s1.toks) (λb u e=>g_ _ e) (s_ _) ?_,a_,q _ hf⟩);exact⟨z,us,r,⟨_,x? _ a_,a_,_,a_⟩⟩
theorem zj (h:PA X es t):PE X (.List es pos) (TZ t):=by intro pins s U H Q I hq;refine wpAny_List_spliced (ai (h pos pins s U H _ I hq) λus s1 ⟨xs,H1,I1,r,z,q⟩=>⟨by rw[<-r.length];exact z,?_⟩);have hf:H1 s1.heap.objs.size=none:=I1.ag.fresh (s_ _);refine(xa0 (.ref s1.heap.objs.size) (upd H1 s1.heap.objs.size (.lst xs)) ⟨I1.laid (t':=s1.toks) (λb u e=>g_ _ e) (s_ _) ?_,a_,q _ hf⟩);exact⟨z,xa0 us 0 ⟨r,x? _ a_⟩⟩
end
noncomputable abbrev Sp:=b? V->Hp->VK->XK->Prop
noncomputable abbrev eY:=b? š->Hp->d_->XK->b_->d_->Prop
structure pM (P:n_)(w:z?)(K:e?)(mg:y_->f_ b_)(base:k_)(A:B?)(outer:b? š)(s:d_)(H:Hp):Prop where
 frames:A.frames=some outer
 mod:Mod K mg base
 bs:∀b o,base.get? b=some o->s.heap.get? b=some o/\H b=none
 kG:base.objs.size<=s.heap.objs.size
 fP:s.heap.FunFrames base outer
 i5:∀b∈bu outer,H b=none
 ag:bK P w H s.heap
 bare:ŗ s.gens
noncomputable def CE (outer:b? š)(P:n_)(w:z?)(H:Hp)(s:d_)(Q:VK)(u:b_)(s':d_):Prop:=∃v H',s'.os=s.os/\ŗ s'.gens/\Un (bu outer) [] H H' s.heap s'.heap/\bK P w H' s'.heap/\RelV v u/\Q v H'
noncomputable def CR (CX:eY)(outer:b? š)(P:n_)(w:z?)(H:Hp)(s:d_)(Q:VK)(E:XK)(r:ş)(s':d_):Prop:=match r with
 | .ok (.ret u)=>CE outer P w H s Q u s'
 | .ok _=>v?
 | .error e=>CX outer H s E e s'
structure zu (P:n_)(w:z?)(K:e?)(mg:y_->f_ b_)(base:k_)(CX:eY)(k:j?)(f:c_)(fd:l?)(ps:b? y_)(sp:Sp):Prop where
 len:∀vs H Q E,sp vs H Q E->vs.length=ps.length
 run:∀(A:B?)(outer:b? š)(s:d_)(H:Hp)(args:Args)(us:b? b_)(vs:b? V)(Q:VK)(E:XK),aY k A->pM P w K mg base A outer s H->aaz s fd args (ps.zip us)->Vals vs us->sp vs H Q E->Ð (m_ P w) A (.call (.ref f) args) (CR CX outer P w H s Q E) s
theorem zu.imp {P:n_}{w:z?}{K:e?}{mg:y_->f_ b_}{base:k_}{CX:eY}{k:j?}{f:c_}{fd:l?}{ps:b? y_}{sp Ll:Sp}(F:zu P w K mg base CX k f fd ps sp)(h:∀vs H Q E,Ll vs H Q E->sp vs H Q E):zu P w K mg base CX k f fd ps Ll:=⟨λvs H Q E q=>F.len vs H Q E (h _ _ _ _ q),λA outer s H args us vs Q E hr he hb hv hs=>F.run A outer s H args us vs Q E hr he hb hv (h _ _ _ _ hs)⟩
theorem pM.make {P:n_}{w:z?}{K:e?}{mg:y_->f_ b_}{base:k_}{A:B?}{outer:b? š}{s:d_}{H:Hp}(e:pM P w K mg base A outer s H)(C:c_)(us:b? b_)(kw:b? (y_×b_)):pM P w K mg base (A.under (.builtin "type.__call__" ⟨.ref C::us,kw⟩)) outer s H:=⟨by first|exact e.frames|(simpa[Around.under,Code.envs,Code.isFrame,pushEnvs]using e.frames),e.mod,e.bs,e.kG,e.fP,e.i5,e.ag,e.bare⟩
section
variable {X:Cx}{pins:b? (c_×J_)}{U:St}{H:Hp}{s s':d_}
theorem Inv.rR (I:Inv X pins U H s):pM X.prog X.w X.K X.mg X.base X.A X.stack s H:=⟨I.ok.frames,I.ok.mod,I.bs,K? I.ok.kG I.sz,I.stack,I.zC,I.ag,I.bare⟩
theorem Inv.after {Q:VK}{u:b_}(I:Inv X pins U H s)(h:CE X.stack X.prog X.w H s Q u s'):EP X pins U Q u s':=by obtain⟨v,H',os,bare,un,ag,r,q⟩:=h;obtain⟨hh,g,d,t,T1⟩:=s';obtain rfl:T1=s.os:=os;exact(xa0 v H' ⟨I.call (h':=hh) (g':=g) (d':=d) (t':=t) (ch:=[]) un ag bare (λb z=>v_ z (by simp)),r,q⟩)
end
noncomputable def Lm (sp:Sp)(bH:b? V)(E:XK)(t:TA):TE:=λ U H Q=>t U H λvs H1=>sp (vs++bH) H1 Q E
noncomputable def Lo (C:c_)(m:y_)(sp:Sp)(bH:b? V)(E:XK)(ta:TE)(t:TA):TE:=λ U H Q=>ta U H λx H1=>∃a dx fs,x= .ref a/\H1 a=some (.ins C dx fs)/\fs.lookup m=none/\t U H1 λvs H2=>sp (x::(vs++bH)) H2 Q E
noncomputable def T3 (C:c_)(sp:Sp)(bH:b? V)(E:XK)(t:TA):TE:=λ U H Q=>t U H λvs H1=>∀x dx,H1 x=none->H1 dx=none->dx≠x->sp (.ref x::(vs++bH)) (upd (upd H1 dx (.own x)) x (.ins C dx [])) (λv H2=>v= .ar/\Q (.ref x) H2) E
noncomputable def Binds (K:e?)(fd:l?)(ps:b? y_)(ds:b? b_):Prop:=∀(s:d_)(us:b? b_),K.In s.heap->(us++ds).length=ps.length->aaz s fd ⟨us,[]⟩ (ps.zip (us++ds))
theorem Binds.all {K:e?}{fd:l?}{ps:b? y_}(h:∀us:b? b_,us.length=ps.length->ady fd ⟨us,[]⟩=Ø (ps.zip us)):Binds K fd ps []:=λs us _ hl=>by rw[å]at hl⊢;exact .of_eq (h us hl)
noncomputable def Passes (CX:eY)(X:Cx)(E:XK):Prop:=∀(pins:b? (c_×J_))(U:St)(H:Hp)(s:d_)(e:b_)(s':d_),Inv X pins U H s->CX X.stack H s E e s'->X.xe e s'
section
variable {X:Cx}{CX:eY}{k:j?}{f C:c_}{fd:l?}{ps:b? y_}{sp:Sp}{bH:b? V}{ds:b? b_}{E:XK}{x m:y_}{p pos apos:Ī}{e o:G?}{es:b? G?}{ta:TE}{t:TA}
theorem zY {pins:b? (c_×J_)}{U:St}{H:Hp}{s:d_}{Q:VK}{us:b? b_}{vs:b? V}(F:zu X.prog X.w X.K X.mg X.base CX k f fd ps sp)(hr:aY k X.A)(hb:Binds X.K fd ps ds)(hd:Vals bH ds)(hx:Passes CX X E)(I:Inv X pins U H s)(r:Vals vs us)(h:sp (vs++bH) H Q E):l_ (m_ X.prog X.w) X.A (Ħ (.ref f) us) (EP X pins U Q) X.xe s:=by
 have r2:Vals (vs++bH) (us++ds):=r.append hd;have hl:(us++ds).length=ps.length:=by rw[<-r2.length];exact F.len _ _ _ _ h
 refine Ĥ (û (F.run X.A X.stack s H ⟨us,[]⟩ (us++ds) (vs++bH) Q E hr I.rR (hb s us I.aW hl) r2 h) λr s' hq=>?_);cases r with
 |error e=>exact hx pins U H s e s' I hq
 |ok fl=>
  cases fl with
  |ret u=>exact I.after hq
  |next=>exact H? hq
  |brk=>exact H? hq
  |cont=>exact H? hq
theorem jm (F:zu X.prog X.w X.K X.mg X.base CX k f fd ps sp)(hr:aY k X.A)(hg:Gl X x)(hm:X.mg x=some (.ref f))(hk:Û X.K (.ref f)=true)(hb:Binds X.K fd ps ds)(hd:Vals bH ds)(hx:Passes CX X E)(ha:PA X (e::es) t)(cP:e_ ((x==("__debug__":y_))=false) aP2)(he:e_ (x_ (e::es) X.env=(false,T? e X.env)::x_ es X.env) aP1)(cw:e_ ((Y? pos (x_ es X.env)).any (·.1)=false) aP1):
  PE X (.Call (.Name x p) (e::es) [] pos) (Lm sp bH E t):=by
 intro pins s U H Q I h;refine á (nE I hg hm ?_ cP);refine õ (h₀:=X.base) I.ok.mod.eV hk (ai (ha pos pins s U H _ I h) λus s1 ⟨vs,H1,I1,r,q⟩=>⟨I1.aW,?_⟩) he cw;exact zY F hr hb hd hx I1 r q
theorem j7 {pl:Ģ s?}(he:PE X o ta)(c:eJ X.K C)(hm:Meth X.K C m f)(F:zu X.prog X.w X.K X.mg X.base CX k f fd ps sp)(hr:aY k X.A)(hb:Binds X.K fd ps ds)(hd:Vals bH ds)(hx:Passes CX X E)(ha:PA X (e::es) t)(kM:e_ (x_ (e::es) X.env=(false,T? e X.env)::x_ es X.env) aP1)(cw:e_ ((Y? pos (x_ es X.env)).any (·.1)=false) aP1)(ht:e_ (T? (.Call (.Attribute o m apos) (e::es) [] pos) X.env=(do
   let ov<-T? o X.env
   ų apos.atName
   let(f,first)<-Ĩ [ov] (ũ ov m pl)
   aao pos f first (Y? pos (x_ (e :: es) X.env)) (Ñ pos (S_ [] X.env)))) aP1) :
  PE X (.Call (.Attribute o m apos) (e::es) [] pos) (Lo C m sp bH E ta t):=by
 intro pins s U H Q I h;refine Ü (pl:=pl) (ai (he pins s U H _ I h) λu s1 zQ=>?_) ht;obtain⟨x,H1,I1,rx,a,dx,fs,ex,ea,l,q⟩:=zQ;subst ex;obtain rfl:u=o? a:=rx;refine zX I1 ea c hm l ?_;refine õ (first:=[.ref a]) (h₀:=X.base) I.ok.mod.eV hm.kp (ai (ha pos pins s1 U H1 _ I1 q) λus s2 ⟨vs,H2,I2,r,q2⟩=>⟨I2.aW,?_⟩) kM cw;exact zY (us:=.ref a::us) (vs:=.ref a::vs) F hr hb hd hx I2 (.cons a_ r) q2
theorem vg {pl:Ģ s?}(he:PE X o ta)(c:eJ X.K C)(hm:Meth X.K C m f)(F:zu X.prog X.w X.K X.mg X.base CX k f fd ps sp)(hr:aY k X.A)(hb:Binds X.K fd ps ds)(hd:Vals bH ds)(hx:Passes CX X E)(ht:e_ (T? (.Call (.Attribute o m apos) [] [] pos) X.env=(do
   let ov<-T? o X.env
   ų apos.atName
   let(f,first)<-Ĩ [ov] (ũ ov m pl)
   aao pos f first (Y? pos (x_ [] X.env)) (Ñ pos (S_ [] X.env)))) aP1) :
  PE X (.Call (.Attribute o m apos) [] [] pos) (Lo C m sp bH E ta ma):=by
 intro pins s U H Q I h;refine Ü (pl:=pl) (ai (he pins s U H _ I h) λu s1 zQ=>?_) ht;obtain⟨x,H1,I1,rx,a,dx,fs,ex,ea,l,q⟩:=zQ;subst ex;obtain rfl:u=o? a:=rx;refine zX I1 ea c hm l ?_;exact PySem.W.callWith_K0 (first:=[.ref a]) I1.aW hm.kp (zY (us:=[.ref a]) (vs:=[.ref a]) F hr hb hd hx I1 (.cons a_ .nil) q)
structure Mk (K:e?)(C f:c_):Prop where
 makes:acL K C=true
 init:G_ K (.ref C) "__init__"=some (some (.ref f))
 fn:aaV K (.ref f)=true
 kp:Û K (.ref C)=true
theorem T4 {pins:b? (c_×J_)}{U:St}{H:Hp}{s:d_}{Q:VK}{us:b? b_}{vs:b? V}(M:Mk X.K C f)(F:zu X.prog X.w X.K X.mg X.base CX k f fd ps sp)(hr:aY (k+1) X.A)(hb:Binds X.K fd ps ds)(hd:Vals bH ds)(hx:Passes CX X E)(I:Inv X pins U H s)(r:Vals vs us)(h:∀x dx,H x=none->H dx=none->dx≠x->sp (.ref x::(vs++bH)) (upd (upd H dx (.own x)) x (.ins C dx [])) (λv H2=>v= .ar/\Q (.ref x) H2) E):
  l_ (m_ X.prog X.w) X.A (Ħ (.ref C) us) (EP X pins U Q) X.xe s:=by
 have hq:=h (s.heap.objs.size+1) s.heap.objs.size (I.ag.fresh (ŷ _)) (I.ag.fresh (s_ _)) (N? (Ė _));have I2:=Inv.made (C:=C) I;have r2:Vals (V.ref (s.heap.objs.size+1)::(vs++bH)) (o? (s.heap.objs.size+1)::(us++ds)):=.cons a_ (r.append hd);have hl:(o? (s.heap.objs.size+1)::us++ds).length=ps.length:=by have e:=r2.length;rw[F.len _ _ _ _ hq]at e;exact e.symm
 refine Ĥ (Lh (f:=f) I.aW M.makes M.init (Á.mp M.fn) (û (F.run _ X.stack _ _ ⟨o? (s.heap.objs.size+1)::us,[]⟩ (o? (s.heap.objs.size+1)::(us++ds)) _ _ E (hr.make C us []) (I2.rR.make C us []) (hb _ (o? (s.heap.objs.size+1)::us) I2.aW hl) r2 hq) λr s' dY=>?_));cases r with
 |error e=>exact hx pins U _ _ e s' I2 dY
 |ok fl=>
  cases fl with
  |ret u=>obtain⟨v,H',I3,rv,ev,q3⟩:=I2.after dY;subst ev;exact⟨rv,(xa0 (V.ref (s.heap.objs.size+1)) H' ⟨I3,a_,q3⟩)⟩
  |next=>exact H? dY
  |brk=>exact H? dY
  |cont=>exact H? dY
theorem zZ (M:Mk X.K C f)(F:zu X.prog X.w X.K X.mg X.base CX k f fd ps sp)(hr:aY (k+1) X.A)(hg:Gl X x)(hm:X.mg x=some (.ref C))(hb:Binds X.K fd ps ds)(hd:Vals bH ds)(hx:Passes CX X E)(ha:PA X (e::es) t)(cP:e_ ((x==("__debug__":y_))=false) aP2)(he:e_ (x_ (e::es) X.env=(false,T? e X.env)::x_ es X.env) aP1)(cw:e_ ((Y? pos (x_ es X.env)).any (·.1)=false) aP1):
  PE X (.Call (.Name x p) (e::es) [] pos) (T3 C sp bH E t):=by
 intro pins s U H Q I h;refine á (nE I hg hm ?_ cP);refine õ (h₀:=X.base) I.ok.mod.eV M.kp (ai (ha pos pins s U H _ I h) λus s1 ⟨vs,H1,I1,r,q⟩=>⟨I1.aW,?_⟩) he cw;exact T4 M F hr hb hd hx I1 r q
end
noncomputable def PK (X:Cx)(fR:b? aa9)(t:TA):Prop:=∀(pos:Ī)(pins:b? (c_×J_))(s:d_)(U:St)(H:Hp)(Q:b? V->Hp->Prop),Inv X pins U H s->t U H Q->l_ (m_ X.prog X.w) X.A (evalAll ((Ñ pos (S_ fR X.env)).map (·.2))) (AP X pins U Q) X.xe s
section
variable {X:Cx}{CX:eY}{k:j?}{f C:c_}{fd:l?}{ps ks:b? y_}{sp:Sp}{E:XK}{x m:y_}{p pos apos DJ:Ī}{e o:G?}{es:b? G?}{fR:b? aa9}{te ta:TE}{t tk:TA}{nm:f_ y_}
theorem nJ:PK X [] ma:=λ_ _ _ _ H Q I h=>wpAny_evalAll_nil (xa0 [] H ⟨I,.nil,h⟩)
theorem iw (ha:PE X e te)(hr:PK X fR t):PK X (⟨nm,e,DJ⟩::fR) (wc te t):=by intro pos pins s U H Q I h;show l_ _ _ (evalAll ((do let v<-T? e X.env;ų pos;Ø v)::(Ñ pos (S_ fR X.env)).map (·.2))) _ _ s;refine wpAny_evalAll_cons (d? (ai (ha pins s U H _ I h) λu s1 ⟨x,H1,I1,r1,q1⟩=>d? (Õ (h_ ?_))));exact ai (hr pos pins s1 U H1 _ I1 q1) λus s2 ⟨xs,H2,I2,r2,q2⟩=>(xa0 (x::xs) H2 ⟨I2,.cons r1 r2,q2⟩)
structure iy (K:e?)(fd:l?)(ps ks:b? y_)(g:b? b_->b? b_->b? b_)(gV:b? V->b? V->b? V):Prop where
 to:∀(s:d_)(us ws:b? b_),K.In s.heap->(g us ws).length=ps.length->aaz s fd ⟨us,ks.zip ws⟩ (ps.zip (g us ws))
 rel:∀{vs:b? V}{us:b? b_}{zs:b? V}{ws:b? b_},Vals vs us->Vals zs ws->Vals (gV vs zs) (g us ws)
noncomputable def T5 (sp:Sp)(gV:b? V->b? V->b? V)(E:XK)(t tk:TA):TE:=λ U H Q=>t U H λvs H1=>tk U H1 λzs H2=>sp (gV vs zs) H2 Q E
variable {g:b? b_->b? b_->b? b_}{gV:b? V->b? V->b? V}
theorem T6 {pins:b? (c_×J_)}{U:St}{H:Hp}{s:d_}{Q:VK}{us ws:b? b_}{vs zs:b? V}(F:zu X.prog X.w X.K X.mg X.base CX k f fd ps sp)(hr:aY k X.A)(hb:iy X.K fd ps ks g gV)(hx:Passes CX X E)(I:Inv X pins U H s)(r:Vals vs us)(rz:Vals zs ws)(h:sp (gV vs zs) H Q E):l_ (m_ X.prog X.w) X.A (Ħ (.ref f) us (ks.zip ws)) (EP X pins U Q) X.xe s:=by
 have r2:=hb.rel r rz;have hl:(g us ws).length=ps.length:=by rw[<-r2.length];exact F.len _ _ _ _ h
 refine Ĥ (û (F.run X.A X.stack s H ⟨us,ks.zip ws⟩ (g us ws) (gV vs zs) Q E hr I.rR (hb.to s us ws I.aW hl) r2 h) λr s' hq=>?_);cases r with
 |error e=>exact hx pins U H s e s' I hq
 |ok fl=>
  cases fl with
  |ret u=>exact I.after hq
  |next=>exact H? hq
  |brk=>exact H? hq
  |cont=>exact H? hq
theorem pN (F:zu X.prog X.w X.K X.mg X.base CX k f fd ps sp)(hr:aY k X.A)(hg:Gl X x)(hm:X.mg x=some (.ref f))(hk:Û X.K (.ref f)=true)(hb:iy X.K fd ps ks g gV)(hx:Passes CX X E)(ha:PA X (e::es) t)(tY:PK X fR tk)(jB:e_ ((Ñ pos (S_ fR X.env)).all (·.1.isSome)=true) aP1)(DL:e_ ((Ñ pos (S_ fR X.env)).filterMap (·.1)=ks) aP1)(cP:e_ ((x==("__debug__":y_))=false) aP2)(he:e_ (x_ (e::es) X.env=(false,T? e X.env)::x_ es X.env) aP1)(cw:e_ (((Y? pos (x_ (e::es) X.env)).any (·.1)||(Ñ pos (S_ fR X.env)).any (·.1.isNone))=false) aP1):
  PE X (.Call (.Name x p) (e::es) fR pos) (T5 sp gV E t tk):=by
 intro pins s U H Q I h;refine á (nE I hg hm ?_ cP);refine abM (h₀:=X.base) I.ok.mod.eV hk jB (ai (ha pos pins s U H _ I h) λus s1 zQ=>?_) cw he;obtain⟨vs,H1,I1,r,q⟩:=zQ;refine ai (tY pos pins s1 U H1 _ I1 q) λws s2 ⟨zs,H2,I2,rz,q2⟩=>⟨I2.aW,?_⟩;rw[DL];exact T6 F hr hb hx I2 r rz q2
end
structure ql (N P:b? y_)(sc:Xg):Prop where
 kind:sc.kind= .function
 co:sc.isCoroutine=false
 gen:sc.isGenerator=false
 nd:N.Nodup
 pre:N.take P.length=P
 par:∀x∈P,sc.names.lookup x=some .local\/sc.names.lookup x=some .cell
 T7:∀y∈sc.names,y.2≠.free
theorem cv {N P:b? y_}{sc:Xg}(a:e_ (sc.kind= .function) aP1)(b:e_ (sc.isCoroutine=false) aP1)(c:e_ (sc.isGenerator=false) aP1)(d:e_ (N.Nodup) aP4)(e:e_ (N.take P.length=P) aP1)(f:e_ (∀x∈P,sc.names.lookup x=some .local\/sc.names.lookup x=some .cell) aP4)(g:e_ (∀y∈sc.names,y.2≠.free) aP4):ql N P sc:=⟨a,b,c,d,e,f,g⟩
theorem Lp {kindOf:y_->f_ D?}{x:y_}:∀{binds:b? (y_×b_)}{m:y_->f_ b_},(∀v,(x,v)∉binds)->acI kindOf binds m x=m x
 |[],_,_=>a_
 | (n,v)::r,m,h=>by
  unfold acI;rw[Lp λw hw=>h w (u_ _ hw)];split
  .have:x≠n:=by rintro rfl;exact h v t?
   simp[this]
  .rfl
theorem Lq {kindOf:y_->f_ D?}{x:y_}:∀{binds:b? (y_×b_)}{m:y_->f_ b_},(∀v,(x,v)∉binds)->acJ kindOf binds m x=m x
 |[],_,_=>a_
 | (n,v)::r,m,h=>by
  unfold acJ;rw[Lq λw hw=>h w (u_ _ hw)];split
  .rfl
  .have:x≠n:=by rintro rfl;exact h v t?
   simp[this]
theorem Lr {kindOf:y_->f_ D?}{x:y_}{v:b_}:∀{P:b? y_}{vs:b? b_}{i:j?}{m:y_->f_ b_},P.Nodup->P[i]?=some x->vs[i]?=some v->kindOf x=some .local->acI kindOf (P.zip vs) m x=some v
 |[],_,_,_,_,h,_,_=>by simp at h
 |_::_,[],_,_,_,_,h,_=>by simp at h
 |p::P,w::vs,0,m,nd,h1,h2,hk=>by simp at h1 h2;subst h1;subst h2;show acI kindOf ((p,w)::P.zip vs) m p=_;unfold acI;rw[Lp λv hv=>(X?.mp nd).1 (abP hv).1,j_ hk];simp
 |p::P,w::vs,i+1,m,nd,h1,h2,hk=>by show acI kindOf ((p,w)::P.zip vs) m x=_;unfold acI;exact Lr (i:=i) (X?.mp nd).2 (by simpa using h1) (by simpa using h2) hk
theorem Lu {kindOf:y_->f_ D?}{x:y_}{v:b_}:∀{P:b? y_}{vs:b? b_}{i:j?}{m:y_->f_ b_},P.Nodup->P[i]?=some x->vs[i]?=some v->kindOf x≠some .local->acJ kindOf (P.zip vs) m x=some v
 |[],_,_,_,_,h,_,_=>by simp at h
 |_::_,[],_,_,_,_,h,_=>by simp at h
 |p::P,w::vs,0,m,nd,h1,h2,hk=>by simp at h1 h2;subst h1;subst h2;show acJ kindOf ((p,w)::P.zip vs) m p=_;unfold acJ;rw[Lq λv hv=>(X?.mp nd).1 (abP hv).1,f? hk];simp
 |p::P,w::vs,i+1,m,nd,h1,h2,hk=>by show acJ kindOf ((p,w)::P.zip vs) m x=_;unfold acJ;exact Lu (i:=i) (X?.mp nd).2 (by simpa using h1) (by simpa using h2) hk
noncomputable def start (N:b? y_)(vs:b? V):St:=vs.map some++l' (N.length-vs.length) none
noncomputable def dm (CX:eY)(P:n_)(w:z?)(K:e?)(mg:y_->f_ b_)(base:k_)(N:b? y_)(qual:y_)(scope:Xg)(f:c_)(cd:b_)(A:B?)(outer:b? š)(s:d_)(H:Hp)(E:XK):Cx where
 prog:=P
 w:=w
 K:=K
 mg:=mg
 base:=base
 A:=A.deeper (Â qual scope s.heap.objs.size f cd)
 N:=N
 au:=s
 bC:=H
 env:=Â qual scope s.heap.objs.size f cd
 outer:=outer
 stack:=Â qual scope s.heap.objs.size f cd::outer
 ex:=[]
 calm:=true
 fn:=λ_=>true
 pn:=[]
 xe:=λe s'=>l_ (m_ P w) (A.deeper (Â qual scope s.heap.objs.size f cd)) (aee (Â qual scope s.heap.objs.size f cd) e) (λ_ bZ=>CX outer H s E e bZ) (λe' bZ=>CX outer H s E e' bZ) s'
theorem Lv {sc:Xg}{n:j?}{x:y_}(h:sc.names.lookup x=some .cell):∃c,(ū n sc.names []).lookup x=some c:=by have q:=abv sc.names n [] (.inl h);exact f_.isSome_iff_exists.mp q
theorem T8 {CX:eY}{P:n_}{w:z?}{K:e?}{mg:y_->f_ b_}{base:k_}{N ps:b? y_}{qual:y_}{scope:Xg}{f:c_}{cd:b_}{A:B?}{outer:b? š}{s s1:d_}{H:Hp}{E:XK}{us:b? b_}{vs:b? V}(S:ql N ps scope)(hd:A.handled=none)(e0:pM P w K mg base A outer s H)(hl:vs.length=ps.length)(r:Vals vs us)(x:InCallC s s.heap.objs.size (acI (Â qual scope s.heap.objs.size f cd).kindOf (ps.zip us) λ_=>none) (ū (s.heap.objs.size+1) scope.names []) (acJ (Â qual scope s.heap.objs.size f cd).kindOf (ps.zip us) λ_=>none) s1):
  Inv (dm CX P w K mg base N qual scope f cd A outer s H E) [] (start N vs) H s1:=by
 have cw:ps.length<=N.length:=by have:=T_ ć S.pre;rw[ø]at this;lia
 obtain⟨h1,tk,rfl,hk⟩:=x.done;have tZ:∀b:c_,b∉(dm CX P w K mg base N qual scope f cd A outer s H E).ex:=λb z=>v_ (show b∈([]:b? c_)from z) (by simp);refine⟨⟨e0.mod,S.kind,a_,a_,s_ _,λy z c h1 h2=>?_,λy hy=>?_,λy c _ h=>?_,λ_=>hd,B?.frames_deeper e0.frames,.inr ⟨a_,a_⟩,λb z=>v_ z (tZ b),e0.bs,e0.kG,λb _ _=>tZ b,λb z=>v_ z (tZ b),e0.fP,e0.i5⟩,a_,e0.bare,Un.kept hk,⟨_,x.toInCall.ns,λi y v h1 h2 h3=>?_⟩,λy c h=>⟨_,x.cell y c h⟩,e0.ag.fresh (s_ _),λy c h=>?_,λp hp=>v_ (show p∈([]:b? (c_×J_))from hp) (by simp),e0.ag.kept hk,?_⟩
 .exact name_of_addr x.apart (ï h1) (ï h2)
 .have hy:scope.names.lookup y=some .cell\/scope.names.lookup y=some .free:=hy;rcases hy with hy|hy
  .exact Lv hy
  .exact v_ a_ (S.T7 _ (ï hy))
 .exact Ć (x.above y c (ï h))
 .have hi:i<vs.length:=by
   unfold start at h2;by_cases hi:i<vs.length
   .exact hi
   .rw[abS (by simpa using hi)]at h2;rw[acz]at h2;split at h2<;>cases h2
  have ha:vs[i]?=some v:=by
   unfold start at h2;rw[ach (by simpa using hi),J']at h2;cases e:vs[i]? with
   |none=>rw[e]at h2;cases h2
   |some a=>rw[e]at h2;cases h2;rfl
  obtain⟨u,hu,rv⟩:=r.get ha;have hp:ps[i]?=some y:=by rw[<-S.pre,b?.getElem?_take_of_lt (by lia)];exact h1
  have Lw:ps.Nodup:=by rw[<-S.pre];exact S.nd.sublist (b?.take_sublist _ _)
  refine⟨u,rv,?_⟩;rcases S.par y (r? hp)with k|k
  .exact .inl ⟨k,Lr Lw hp hu k⟩
  .obtain⟨c,e⟩:=Lv (n:=s.heap.objs.size+1) k;refine .inr ⟨.inl k,c,e,?_⟩;have q:=x.cell y c e;rw[Lu Lw hp hu (by show scope.names.lookup y≠_;rw[k];decide)]at q;exact q
 .exact e0.ag.fresh (Ć (x.above y c (ï h)))
 .unfold start;show _=N.length;rw[r_,i?,W?];lia
theorem Lx {CX:eY}{P:n_}{w:z?}{K:e?}{mg:y_->f_ b_}{base:k_}{k:j?}{f:c_}{name qual:y_}{params:Arguments}{body:b? I_}{scope:Xg}{dV kV doc pm aD ct oc:b_}{an od:f_ c_}{kQ:C? (f_ b_)}{N ps:b? y_}{sp:Sp}(lk:K.lookup f=some ⟨oc,od,.func (ô name qual params body scope dV kV doc pm an aD ct),kQ⟩)(eW:aah K aD qual=true)(S:ql N ps scope)(len:∀vs H Q E,sp vs H Q E->vs.length=ps.length)(bg:∀(A:B?)(outer:b? š)(s:d_)(H:Hp)(vs:b? V)(Q:VK)(E:XK),aY k (A.deeper (Â qual scope s.heap.objs.size f aD))->sp vs H Q E->∃t,dj (dm CX P w K mg base N qual scope f aD A outer s H E) body t/\t {nx:=λ_ H'=>Q .ar H',rt:=Q} (start N vs) H):
  zu P w K mg base CX (k+1) f (ô name qual params body scope dV kV doc pm an aD ct) ps sp:=by
 refine⟨len,λA outer s H args us vs Q E hr e0 hb r iM=>?_⟩;have hl:=len _ _ _ _ iM;have KX:K.In s.heap:=e0.mod.eV.keeps λb o e=>(e0.bs b o e).1;have lim:s.heap.NoLimit:=e0.mod.nolimit.keeps λb o e=>(e0.bs b o e).1;have uA:∀y∈ps.zip us,scope.names.lookup y.1=some .local\/(scope.names.lookup y.1=some .cell/\((ū (s.heap.objs.size+1) scope.names []).lookup y.1).isSome=true):=λ⟨n,v⟩ hy=>by
  rcases S.par n (abP hy).1 with q|q
  .exact .inl q
  .exact .inr ⟨q,abv _ _ _ (.inl q)⟩
 refine codeAny_call_function hr.depth (KX _ _ lk) a_ S.co S.gen a_ (PySem.W.codeRec_of KX eW) (hb _ _ _ _ ?_);refine wpAny_newFunctionEnv_cells S.kind uA λenv he s1 x=>?_;subst he;refine⟨lim.keeps x.toInCall.keep,codeAny_func ?_⟩;obtain⟨t,ht,hq⟩:=bg A outer s H vs Q E (hr.deeper _) iM;have I:Inv (dm CX P w K mg base N qual scope f aD A outer s H E) [] (start N vs) H s1:=T8 S hr.hd e0 hl r x;refine F' (ht [] s1 (start N vs) H _ I hq) (λfl s' hs=>?_) λe s' hs=>hs;have fin:∀{U':St}{H':Hp}{v:V}{u:b_},Inv (dm CX P w K mg base N qual scope f aD A outer s H E) [] U' H' s'->RelV v u->Q v H'->CE outer P w H s Q u s':=λ{U' H' v u} J rv q=>(xa0 v H' ⟨J.os,J.bare,J.base,J.ag,rv,q⟩);cases fl with
 |ret u=>obtain⟨v,U',H',J,rv,q⟩:=hs;exact fin J rv q
 |next=>obtain⟨U',H',J,q⟩:=hs;exact fin (v:=V.ar) (u:=Ğ) J a_ q
 |brk=>obtain⟨_,_,_,q⟩:=hs;exact H? q
 |cont=>obtain⟨_,_,_,q⟩:=hs;exact H? q
section
variable {X:Cx}{x:y_}{p pos:Ī}{e:G?}{es:b? G?}{t:TA}{id T:í}{r:b? V->Hp->VK->Prop}
noncomputable def Ly (r:b? V->Hp->VK->Prop)(t:TA):TE:=λ U H Q=>t U H λvs H1=>r vs H1 Q
theorem jl (hc:cD X (.builtin id) r)(hg:Gl X x)(hm:X.mg x=none)(hv:N4 x=some (.builtin id))(ha:PA X (e::es) t)(hn:e_ (x≠"__name__") aP2)(cP:e_ ((x==("__debug__":y_))=false) aP2)(he:e_ (x_ (e::es) X.env=(false,T? e X.env)::x_ es X.env) aP1)(cw:e_ ((Y? pos (x_ es X.env)).any (·.1)=false) aP1):PE X (.Call (.Name x p) (e::es) [] pos) (Ly r t):=by
 intro pins s U H Q I h;refine á (zH I hg hm hv ?_ hn cP);exact afe (ai (ha pos pins s U H _ I h) λus s1 ⟨vs,H1,I1,r1,q1⟩=>hc pins s1 U H1 vs us Q I1 r1 q1) he cw
theorem y4 (hc:cD X (.type T) r)(hg:Gl X x)(hm:X.mg x=none)(hv:N4 x=some (.type T))(ha:PA X (e::es) t)(hn:e_ (x≠"__name__") aP2)(cP:e_ ((x==("__debug__":y_))=false) aP2)(he:e_ (x_ (e::es) X.env=(false,T? e X.env)::x_ es X.env) aP1)(cw:e_ ((Y? pos (x_ es X.env)).any (·.1)=false) aP1):PE X (.Call (.Name x p) (e::es) [] pos) (Ly r t):=by
 intro pins s U H Q I h;refine á (zH I hg hm hv ?_ hn cP);exact aaj (ai (ha pos pins s U H _ I h) λus s1 ⟨vs,H1,I1,r1,q1⟩=>hc pins s1 U H1 vs us Q I1 r1 q1) he cw
end
end L2
namespace HT
open PySem PyProof.Rows
noncomputable def lexLt:b? i_->b? i_->s?
 |[],[]=>false
 |[],_::_=>true
 |_::_,[]=>false
 |x::xs,y::ys=>if x=y then lexLt xs ys else p_ (x<y)
theorem uB (x y:i_)(xs ys:b? i_):lexLt (x::xs) (y::ys)=if x=y then lexLt xs ys else p_ (x<y):=a_
theorem T9:lexLt [] []=false:=a_
theorem Ua (y:i_)(ys:b? i_):lexLt [] (y::ys)=true:=a_
theorem Ub (x:i_)(xs:b? i_):lexLt (x::xs) []=false:=a_
theorem Uc (A:B?)(s:d_)(a:i_)(t:Tok)(c:i_)(u:Tok):∃e,z_ A s (.int a t) (.int c u) e/\(e=true↔a=c):=⟨(a==c),z_.int_int a t c u,by simp⟩
theorem Ud (A:B?)(s:d_)(a:i_)(t:Tok)(c:i_)(u:Tok)(prog:n_)(w:z?)(E:b_->d_->Prop)(Q:b_->d_->Prop)(h:Q (.bool (p_ (a<c))) s):l_ (m_ prog w) A (richCompare .Lt (.int a t) (.int c u)) Q E s:=(aaF h:l_ (m_ prog w) A (M? .Lt (.int a t) (.int c u)) Q E s)
section
open PySem.SeqAt
open PySem.AutoSeq1 (wpAny_loadPart')
open PySem.MeetsSeq PySem.MeetsSeq2 PySem.MeetsSeq3
theorem Ue (l b:c_)(items bc:C? b_)(n n2:j?)(dd rT:f_ c_)(sl nK:C? (f_ b_))(ns ms:b? i_)(hi:U? items.toList ns)(hj:U? bc.toList ms):aei (Builtin.«tuple.__lt__» ⟨[.ref l,.ref b],[]⟩) (λ_ R s=>s.heap.get? l=some {cls:=.type "tuple",dict:=dd,data:=.seq items n,slots:=sl}/\s.heap.get? b=some {cls:=.type "tuple",dict:=rT,data:=.seq bc n2,slots:=nK}/\R (.ok (.ret (.bool (lexLt ns ms)))) s):=
 .of_wp λprog w A R s h=>by
  obtain⟨hp,g,d,tk,os⟩:=s;obtain⟨hl,hb,h⟩:=h;have f2:=AutoSeq1.sub_tuple_tuple;have z1:items.size=ns.length:=by rw[<-hi.length];simp
  have z2:bc.size=ms.length:=by rw[<-hj.length];simp
  wp_walk using wpAny_loadPart' hl,wpAny_loadPart' hb,wpAny_forIn_list _ (λrest b s'=>b.1=none/\s'=⟨hp,g,d,tk,os⟩/\∃(vs ws:b? b_)(gS rW:b? i_),rest=vs.zip ws/\U? vs gS/\U? ws rW/\gS.length+bc.size=rW.length+items.size/\R (.ok (.ret (.bool (lexLt gS rW)))) ⟨hp,g,d,tk,os⟩) _;case turn=>
   rintro⟨y,x⟩ rest b s' ⟨iz,rfl,vs,ws,gS,rW,hz,DM,Aa,hlen,hR⟩
   cases DM with
   |nil=>rw[b?.zip_nil_left]at hz;cases hz
   | cons a t DN=>
    cases Aa with
    |nil=>rw[aa2]at hz;cases hz
    |cons c u DO=>
     rw[aaN]at hz;injection hz with Ug fb;injection Ug with hy hx;subst hy hx;rw[uB]at hR;simp only[E?]at hlen;obtain⟨e,he,uC⟩:=Uc A.in1 ⟨hp,g,d,tk,os⟩ a t c u;refine d? (he prog w _ _ ?_);cases e with
     |true=>rw[j_ (uC.mp a_)]at hR;wp_walk;exact⟨a_,a_,xa2 _ _ _ _ ⟨fb,DN,DO,by lia,hR⟩⟩
     |false=>rw[f? (λq=>v_ (uC.mpr q) p?)]at hR;have Uh:=Ud A.in1 ⟨hp,g,d,tk,os⟩ a t c u prog w;wp_walk using Uh;exact⟨_,a_,by simpa using hR⟩
  case fin=>
   rintro⟨b1,b2⟩ s' ⟨iz,rfl,vs,ws,gS,rW,hz,DM,Aa,hlen,hR⟩
   simp only at iz;subst iz;have hv:lexLt gS rW=p_ (items.size<bc.size):=by
    cases DM with
    |nil=>
     cases Aa with
     |nil=>simp only[ź]at hlen;rw[T9];exact(t_ (by lia)).symm
     |cons c u hw=>simp only[ź,E?]at hlen;rw[Ua];exact(j' (by lia)).symm
    |cons a t hv=>
     cases Aa with
     |nil=>simp only[ź,E?]at hlen;rw[Ub];exact(t_ (by lia)).symm
     |cons c u hw=>rw[aaN]at hz;cases hz
   rw[hv]at hR;wp_walk;exact⟨_,a_,by simpa[V_.Tuple.tupleCompareSizes]using hR⟩
  case h=>exact⟨a_,a_,xa2 items.toList bc.toList ns ms ⟨a_,hi,hj,by lia,h⟩⟩
end
section
variable {prog:n_}{w:z?}{A:B?}{E:b_->d_->Prop}{s:d_}
theorem Lz {l b:c_}{items bc:C? b_}{ns ms:b? i_}{Q:b_->d_->Prop}(hl:ē s.heap l items)(hb:ē s.heap b bc)(hi:U? items.toList ns)(hj:U? bc.toList ms)(hu:A.units<P?)(h:Q (.bool (lexLt ns ms)) s):l_ (m_ prog w) A (M? .Lt (.ref l) (.ref b)) Q E s:=by
 obtain⟨⟨cls,dd,data,sl⟩,ho,hc,n,hd⟩:=id hl;obtain⟨⟨DP,rT,data2,nK⟩,fS,jC,n2,hd2⟩:=id hb;simp only at hc hd jC hd2;subst hc hd jC hd2;exact richCompare_meets_room (op:=.Lt) ⟨_,ho,a_⟩ ⟨_,fS,a_⟩ PySem.F.slot_tuple_lt PySem.F.entry_tuple_lt (PySem.F.args_tuple_lt_2 _ _) (Ue l b items bc n n2 dd rT sl nK ns ms hi hj) ⟨ho,fS,show À (lexLt ns ms)≠aaH/\Q (.bool (lexLt ns ms)) s from⟨(λx=>nomatch x),h⟩⟩ hu
theorem Ui {t b:c_}{vs ws:b? b_}{Q:b_->d_->Prop}(ht:ē s.heap t vs.toArray)(hb:ē s.heap b ws.toArray)(hv:vs≠[])(h1:ws=[]->Q (.ref t) s)(h2:ws≠[]->Q (.ref s.heap.objs.size) {s with heap:=s.heap.push {cls:=.type "tuple",data:=.seq (vs++ws).toArray}})(hsz:vs.length+ws.length<=k?):l_ (m_ prog w) A (ă .Add (.ref t) (.ref b)) Q E s:=by
 obtain⟨⟨cls,dd,data,sl⟩,ho,hc,n,hd⟩:=id ht;obtain⟨⟨DP,rT,data2,nK⟩,fS,jC,n2,hd2⟩:=id hb;simp only at hc hd jC hd2;subst hc hd jC hd2;have e:vs.toArray++ws.toArray=(vs++ws).toArray:=by simp
 by_cases hw:ws=[]
 .exact concat_meets ⟨_,ho,a_⟩ ⟨_,fS,a_⟩ aex afJ abw abl (abd _ _) (tuple_addW1 t b vs.toArray ws.toArray n n2 dd rT sl nK (by simpa using hv) (by simp[hw])) ⟨ho,fS,h1 hw⟩
 .refine concat_meets ⟨_,ho,a_⟩ ⟨_,fS,a_⟩ aex afJ abw abl (abd _ _) (tuple_addW2 t b vs.toArray ws.toArray n n2 dd rT sl nK (by simpa using hv) (by simpa using hw) (by rw[D',D'];exact hsz)) ⟨ho,fS,?_⟩;rw[e];exact h2 hw
end
end HT
namespace L2
open PySem PySem.Spec PyProof.Rows
theorem intsAre_of {ns:b? i_}:∀{us:b? b_},Vals (ns.map V.int) us->U? us ns:=by
 induction ns with
 |nil=>intro us r;rw[ī]at r;cases r;exact .nil
 |cons n ns ih=>
  intro us r;rw[y?]at r;cases r with
  |cons r1 r2=>obtain⟨t,e⟩:=r1;subst e;exact .cons n t (ih r2)
section
variable {X:Cx}{e:G?}{te:TE}{lo hi:f_ G?}{tl th:TO}{pos p2:Ī}
noncomputable def LA (K:e?):R2:=λx y H Q=>∃a b xs ys,x= .ref a/\y= .ref b/\ax K H a xs/\ax K H b ys/\xs≠[]/\xs.length+ys.length<=k?/\(ys=[]->Q (.ref a) H)/\(ys≠[]->∀p,H p=none->Q (.ref p) (upd H p (.tup (xs++ys))))
theorem Vals.DQ {xs:b? V}{us:b? b_}(r:Vals xs us):us=[]↔xs=[]:=by
 cases r with
 |nil=>simp
 |cons _ _=>simp
theorem Uj:bD X (ă .Add) (LA X.K):=by intro pins s U H x y v u Q I rx ry h;obtain⟨a,b,xs,ys,rfl,rfl,ha,hb,hx,hz,q1,q2⟩:=h;cases rx;cases ry;obtain⟨its,r1,p1,_⟩:=I.tuple ha;obtain⟨pO,r2,p2,_⟩:=I.tuple hb;refine HT.Ui p1 p2 (λz=>hx (r1.DQ.mp z)) (λz=>(xa0 (.ref a) H ⟨I,a_,q1 (r2.DQ.mp z)⟩)) (λz=>?_) (by rw[<-r1.length,<-r2.length];exact hz);refine(xa0 (.ref s.heap.objs.size) _ ⟨I.laid (t':=s.toks) (o:=.tup (xs++ys)) (λb ob q=>g_ _ q) (s_ _) ?_,a_,q2 (λw=>z (r2.DQ.mpr w)) _ (I.ag.fresh (s_ _))⟩);exact⟨by rw[r_];exact hz,_,r1.append r2,ē.new _ _⟩
end
noncomputable def nM (n:j?)(i:i_):f_ j?:=if 0<=i then(if i<n then some i.toNat else none)else if-(n:i_)<=i then some (i+n).toNat else none
noncomputable def nN {α:Type}(xs:b? α)(i:i_):f_ α:=(nM xs.length i).bind λj=>xs[j]?
theorem LB {n:j?}{i:i_}{j:j?}(h:nM n i=some j):acD i n=some j/\j<n/\-(n:i_)<=i/\i<n:=by
 unfold nM at h;by_cases h0:0<=i
 .rw[j_ h0]at h;by_cases h1:i<n
  .rw[j_ h1]at h;have e:i.toNat=j:=o_ h;exact⟨by rw[adv h0 h1,e],by lia,by lia,h1⟩
  .rw[f? h1]at h;cases h
 .rw[f? h0]at h;by_cases h1:-(n:i_)<=i
  .rw[j_ h1]at h;have e:(i+n).toNat=j:=o_ h;exact⟨by rw[ac0 (by lia) h1,e],by lia,h1,by lia⟩
  .rw[f? h1]at h;cases h
theorem LC {α:Type}{xs:b? α}{i:i_}{v:α}(h:nN xs i=some v):∃j,acD i xs.length=some j/\xs[j]?=some v/\j<xs.length/\-(xs.length:i_)<=i/\i<xs.length:=by
 unfold nN at h;cases e:nM xs.length i with
 |none=>rw[e]at h;cases h
 |some j=>rw[e]at h;obtain⟨h1,h2,h3,h4⟩:=LB e;exact⟨j,h1,h,h2,h3,h4⟩
noncomputable def Uk (b:G?):Prop:=∀o i,abB b false o i=operate [o,i] (abK o i)
noncomputable def Ab (X:Cx)(r:R2):Prop:=∀(value slice:G?)(pins:b? (c_×J_))(s:d_)(U:St)(H:Hp)(x y:V)(v u:b_)(Q:VK),Inv X pins U H s->RelV x v->RelV y u->r x y H Q->abB slice false v u=operate [v,u] (abK v u)->l_ (m_ X.prog X.w) X.A (afX value slice v u) (EP X pins U Q) X.xe s
noncomputable def uD (X:Cx)(id:í)(r:V->b? V->Hp->VK->Prop):Prop:=∀(pins:b? (c_×J_))(s:d_)(U:St)(H:Hp)(x:V)(xs:b? V)(v:b_)(us:b? b_)(Q:VK),Inv X pins U H s->RelV x v->Vals xs us->r x xs H Q->l_ (m_ X.prog X.w) X.A (Ħ (.builtin id) (v::us)) (EP X pins U Q) X.xe s
section
variable {X:Cx}{a b:G?}{ta tb:TE}{pos:Ī}
theorem cx {r:R2}(hr:Ab X r)(ha:PE X a ta)(hb:PE X b tb)(hs:Uk b):PE X (.Subscript a b pos) (zQ r ta tb):=by intro pins s U H Q I h;exact Subscript_ (DA ha hb I h λv u s2 x y H2 I2 rx ry q=>hr a b pins s2 U H2 x y v u Q I2 rx ry q (hs _ _))
noncomputable def Ul (K:e?):R2:=λx y H Q=>∃p xs i v,x= .ref p/\y= .int i/\ah K H p xs/\nN xs i=some v/\Q v H
noncomputable def LF (K:e?):R2:=λx y H Q=>∃p xs i v,x= .ref p/\y= .int i/\ax K H p xs/\nN xs i=some v/\Q v H
theorem gT:Ab X (Ul X.K):=by
 intro value slice pins s U H x y v u Q I rx ry h hs;obtain⟨p,xs,i,z,rfl,rfl,hq,he,q⟩:=h;cases rx;obtain⟨t,rfl⟩:=ry;obtain⟨its,r,pl,hz⟩:=I.list hq;obtain⟨j,h1,h2,h3,h4,h5⟩:=LC he;obtain⟨w,ew,cI⟩:=r.get h2;have hl:=r.length;have hn:=pK;have fin:EP X pins U Q w s:=(xa0 z H ⟨I,cI,q⟩);by_cases h0:0<=i
 .have hj:i.toNat=j:=by
   rw[adv h0 h5]at h1;exact o_ h1
  exact item_listR pl.isList h0 (by lia) (by rw[hj];simpa using ew) fin hs
 .have hj:(i+(its.toArray.size:i_)).toNat=j:=by
   rw[ac0 (by lia) h4]at h1;rw[D',<-hl];exact o_ h1
  exact ac6 (x:=w) pl.isList.typeIs slot_list_getitem.lookup (wpAny_getItem_list_neg (Q:=λr s'=>r=w/\EP X pins U Q r s') pl.isList (by lia) (by rw[D']<;>lia) (by lia) (by rw[hj];simpa using ew) ⟨a_,fin⟩) hs
theorem kR:Ab X (LF X.K):=by
 intro value slice pins s U H x y v u Q I rx ry h hs;obtain⟨p,xs,i,z,rfl,rfl,hq,he,q⟩:=h;cases rx;obtain⟨t,rfl⟩:=ry;obtain⟨its,r,pl,hz⟩:=I.tuple hq;obtain⟨j,h1,h2,h3,h4,h5⟩:=LC he;obtain⟨w,ew,cI⟩:=r.get h2;have hl:=r.length;have hn:=pK;have fin:EP X pins U Q w s:=(xa0 z H ⟨I,cI,q⟩);exact ac6 (x:=w) pl.typeIs slot_tuple_getitem.lookup (getItem_tuple (j:=j) (Q:=λr s'=>r=w/\EP X pins U Q r s') pl (by lia) (by lia) (by rw[D',<-hl];exact h1) (by simpa using ew) ⟨a_,fin⟩) hs
theorem Um (its:b? b_)(n j:j?)(u:b_):Å (·.setIfInBounds j u) {cls:=.type "list",data:=.seq its.toArray n}={cls:=.type "list",data:=.seq (its.set j u).toArray n}:=by simp[Å]
theorem Inv.lst {pins:b? (c_×J_)}{U:St}{H:Hp}{s:d_}{p:c_}{xs:b? V}(I:Inv X pins U H s)(h:H p=some (.lst xs)):∃(its:b? b_)(n:j?),Vals xs its/\s.heap.get? p=some {cls:=.type "list",data:=.seq its.toArray n}/\xs.length<=k?:=by
 obtain⟨z,its,n,r,e⟩:=I.ag p _ h;exact(xa0 its n ⟨r,e,z⟩)
theorem Inv.Uo {pins:b? (c_×J_)}{U:St}{H:Hp}{s:d_}{p:c_}{xs ys:b? V}{its its':b? b_}{n n':j?}{f:J_->J_}(I:Inv X pins U H s)(h:H p=some (.lst xs))(ho:s.heap.get? p=some {cls:=.type "list",data:=.seq its.toArray n})(hf:f {cls:=.type "list",data:=.seq its.toArray n}={cls:=.type "list",data:=.seq its'.toArray n'})(r:Vals ys its')(hz:ys.length<=k?)(t:j?):
  Inv X pins U (upd H p (.lst ys)) {s with heap:=s.heap.update p f,toks:=t}:=by
 have e:(s.heap.update p f).get? p=some {cls:=.type "list",data:=.seq its'.toArray n'}:=by rw[R? f ho (by rw[hf]<;>rfl),hf]
 refine I.write (x:=p) (e:=p) (by rw[h];trivial) (.inl a_) (λb u hb q=>(ſ _ _ (Í hb)).trans q) ⟨_,e⟩ ?_;exact⟨hz,xa0 its' n' ⟨r,e⟩⟩
noncomputable def Ur:V->V->V->Hp->(Hp->Prop)->Prop:=λo i v H Q=>∃p xs k j,o= .ref p/\i= .int k/\H p=some (.lst xs)/\nM xs.length k=some j/\Q (upd H p (.lst (xs.set j v)))
theorem set_list:Du X Ur:=by
 intro pins s U H o i v ov iv u Q I ro ri rv h;obtain⟨p,xs,k,j,rfl,rfl,hp,hj,q⟩:=h;cases ro;obtain⟨t,rfl⟩:=ri;obtain⟨its,n,r,ho,hz⟩:=I.lst hp;obtain⟨h1,h2,h3,h4⟩:=LB hj;have hl:=r.length;have hn:=pK;have I':Inv X pins U (upd H p (.lst (xs.set j v))) {s with heap:=s.heap.update p (Å (·.setIfInBounds j u))}:=I.Uo hp ho (Um its n j u) (r.set rv j) (by rw[aaX];exact hz) s.toks;by_cases h0:0<=k
 .have hk:k.toNat=j:=by
   rw[adv h0 h4]at h1;exact o_ h1
  exact PySem.W.ki_setAt ho h0 (by lia) (by rw[D',<-hl];exact h4) (by rw[hk];exact⟨_,I',q⟩)
 .have hk:(k+(its.toArray.size:i_)).toNat=j:=by
   rw[ac0 (by lia) h3]at h1;rw[D',<-hl];exact o_ h1
  exact PySem.W.ki_setBack ho (by lia) (by rw[D',<-hl];exact h3) (by lia) (by rw[hk];exact⟨_,I',q⟩)
noncomputable def md:V->s?
 | .ar=>true
 | .bl _=>true
 | .int _=>true
 | .str _=>true
 |_=>false
noncomputable def nO:V->V->s?
 | .ar,.ar=>true
 | .bl a,.bl b=>a==b
 | .bl a,.int b=>(if a then 1 else 0)==b
 | .int a,.bl b=>a==(if b then 1 else 0)
 | .int a,.int b=>a==b
 | .str a,.str b=>a==b
 |_,_=>false
theorem Us {A:B?}{s:d_}{y x:V}{u v:b_}(ry:RelV y u)(rx:RelV x v)(fy:md y=true)(fx:md x=true):z_ A s u v (nO y x):=by
 cases y with
 |ar=>
  cases ry;cases x with
  |ar=>cases rx;exact z_.same _
  |bl b=>cases rx;exact z_.none_bool b
  |int b=>obtain⟨t,rfl⟩:=rx;exact z_.none_int b t
  |str b=>obtain⟨t,rfl⟩:=rx;exact z_.none_str b t
  |_=>exact v_ (show false=true from fx) p?
 |bl a=>
  cases ry;cases x with
  |ar=>cases rx;exact z_.bool_none a
  |bl b=>cases rx;exact z_.bool_bool a b
  |int b=>obtain⟨t,rfl⟩:=rx;exact z_.bool_int a b t
  |str b=>obtain⟨t,rfl⟩:=rx;exact z_.bool_str a b t
  |_=>exact v_ (show false=true from fx) p?
 |int a=>
  obtain⟨t',rfl⟩:=ry;cases x with
  |ar=>cases rx;exact z_.int_none a t'
  |bl b=>cases rx;exact z_.int_bool a t' b
  |int b=>obtain⟨t,rfl⟩:=rx;exact z_.int_int a t' b t
  |str b=>obtain⟨t,rfl⟩:=rx;exact z_.int_str a t' b t
  |_=>exact v_ (show false=true from fx) p?
 |str a=>
  obtain⟨t',rfl⟩:=ry;cases x with
  |ar=>cases rx;exact z_.str_none a t'
  |bl b=>cases rx;exact z_.str_bool a t' b
  |int b=>obtain⟨t,rfl⟩:=rx;exact z_.str_int a t' b t
  |str b=>obtain⟨t,rfl⟩:=rx;exact z_.str_str a t' b t
  |_=>exact v_ (show false=true from fx) p?
 |_=>exact v_ (show false=true from fy) p?
noncomputable def gC (x:V)(u:b_):s?:=match u with
 | .none=>nO .ar x
 | .bool b=>nO (.bl b) x
 | .int i _=>nO (.int i) x
 | .str z _=>nO (.str z) x
 |_=>false
theorem LG {x y:V}{u:b_}(r:RelV y u)(f:md y=true):gC x u=nO y x:=by
 cases y with
 |ar=>cases r;rfl
 |bl b=>cases r;rfl
 |int i=>obtain⟨t,rfl⟩:=r;rfl
 |str z=>obtain⟨t,rfl⟩:=r;rfl
 |_=>exact v_ (show false=true from f) p?
theorem uE {x:V}:∀{xs:b? V}{us:b? b_},Vals xs us->xs.all md=true->us.any (gC x)=xs.any λy=>nO y x
 |_,_,.nil,_=>a_
 |y::xs,u::us,.cons r t,f=>by rw[acU,M_]at f;rw[Ō,Ō,LG r f.1,uE t f.2]
theorem uF {A:B?}{s:d_}{x:V}{v:b_}(rx:RelV x v)(fx:md x=true):∀{xs:b? V}{us:b? b_},Vals xs us->xs.all md=true->∀u∈us,z_ A s u v (gC x u)
 |_,_,.nil,_=>λu hu=>by cases hu
 |y::xs,u::us,.cons r t,f=>λu' hu=>by
  rw[acU,M_]at f;rcases B_.mp hu with rfl|hu
  .rw[LG r f.1];exact Us r rx f.1 fx
  .exact uF rx fx t f.2 u' hu
noncomputable def Ac (x:V)(xs:b? V):s?:=xs.any λy=>nO y x
noncomputable def DR (K:e?)(neg:s?):R2:=λx y H Q=>∃p xs,y= .ref p/\(ah K H p xs\/ax K H p xs)/\md x=true/\xs.all md=true/\Q (.bl (if neg then !Ac x xs else Ac x xs)) H
theorem LH:bD X (M? .In) (DR X.K false):=by
 intro pins s U H x y v u Q I rx ry h;obtain⟨p,xs,rfl,hq,fx,fs,q⟩:=h;cases ry;rcases hq with hq|hq
 .obtain⟨its,r,pl,hz⟩:=I.list hq;refine adi (gC x) pl.isList (λw hw=>uF rx fx r fs w (by simpa using hw)) (xa0 (.bl _) H ⟨I,a_,?_⟩);rw[show its.toArray.any (gC x)=its.any (gC x)by simp,uE r fs];exact q
 .obtain⟨its,r,pl,hz⟩:=I.tuple hq;refine SeqAt.in_tupleAt (gC x) pl (λw hw=>uF rx fx r fs w (by simpa using hw)) (xa0 (.bl _) H ⟨I,a_,?_⟩);rw[show its.toArray.any (gC x)=its.any (gC x)by simp,uE r fs];exact q
theorem Ae:bD X (M? .NotIn) (DR X.K true):=by
 intro pins s U H x y v u Q I rx ry h;obtain⟨p,xs,rfl,hq,fx,fs,q⟩:=h;cases ry;rcases hq with hq|hq
 .obtain⟨its,r,pl,hz⟩:=I.list hq;refine aai (gC x) pl.isList (λw hw=>uF rx fx r fs w (by simpa using hw)) (xa0 (.bl _) H ⟨I,a_,?_⟩);rw[show its.toArray.any (gC x)=its.any (gC x)by simp,uE r fs];exact q
 .obtain⟨its,r,pl,hz⟩:=I.tuple hq;refine SeqAt.notIn_tupleAt (gC x) pl (λw hw=>uF rx fx r fs w (by simpa using hw)) (xa0 (.bl _) H ⟨I,a_,?_⟩);rw[show its.toArray.any (gC x)=its.any (gC x)by simp,uE r fs];exact q
theorem jt:cD X (.builtin "len") (λxs H Q=>∃p ys,xs=[.ref p]/\(ah X.K H p ys\/ax X.K H p ys)/\Q (.int ys.length) H):=by
 intro pins s U H xs us Q I r h;obtain⟨p,ys,rfl,hq,q⟩:=h;obtain⟨u,rfl,rx⟩:=vals1 r;cases rx;have hn:=pK;rcases hq with hq|hq
 .obtain⟨its,r',pl,hz⟩:=I.list hq;have hlen:=r'.length;exact Calls.call_len_list pl.isList (by simp only[D']<;>lia) (xa0 (.int ys.length) H ⟨I.tok _,⟨s.toks+1,by rw[D',hlen]⟩,q⟩)
 .obtain⟨its,r',pl,hz⟩:=I.tuple hq;have hlen:=r'.length;exact len_tuple pl (by simp only[D']<;>lia) (xa0 (.int ys.length) H ⟨I.tok _,⟨s.toks+1,by rw[D',hlen]⟩,q⟩)
theorem we:cD X (.type "list") (λxs H Q=>∃p ys,xs=[.ref p]/\(ah X.K H p ys\/ax X.K H p ys)/\∀l,H l=none->Q (.ref l) (upd H l (.lst ys))):=by
 intro pins s U H xs us Q I r h;obtain⟨p,ys,rfl,hq,q⟩:=h;obtain⟨u,rfl,rx⟩:=vals1 r;cases rx;have fin:∀(its:b? b_),Vals ys its->ys.length<=k?->∀(h':k_)(c':j?),(∀b o',s.heap.get? b=some o'->h'.get? b=some o')->h'.get? s.heap.objs.size=some {cls:=.type "list",dict:=none,data:=.seq its.toArray c',slots:=#[]}->EP X pins U Q (.ref s.heap.objs.size) {s with heap:=h'}:=λits r' hz h' c' kp e=>(xa0 (.ref s.heap.objs.size) _ ⟨I.laid (t':=s.toks) kp (s_ _) (show y0 X.prog X.w _ h' _ (.lst ys)from⟨hz,xa0 its c' ⟨r',e⟩⟩),a_,q _ (I.ag.fresh (s_ _))⟩);rcases hq with hq|hq
 .obtain⟨its,r',pl,hz⟩:=I.list hq;have hlen:=r'.length;obtain⟨o,ho,hc,n,hd⟩:=pl.isList;exact afP p (.inl a_) ho hc hd (λh' c' kp e=>fin its r' hz h' c' kp e) (by simp only[D']<;>lia)
 .obtain⟨its,r',pl,hz⟩:=I.tuple hq;have hlen:=r'.length;obtain⟨o,ho,hc,n,hd⟩:=pl;exact afP p (.inr a_) ho hc hd (λh' c' kp e=>fin its r' hz h' c' kp e) (by simp only[D']<;>lia)
theorem Af:cD X (.type "tuple") (λxs H Q=>∃p ys,xs=[.ref p]/\((ah X.K H p ys/\∀l,H l=none->Q (.ref l) (upd H l (.tup ys)))\/(ax X.K H p ys/\Q (.ref p) H))):=by
 intro pins s U H xs us Q I r h;obtain⟨p,ys,rfl,h⟩:=h;obtain⟨u,rfl,rx⟩:=vals1 r;cases rx;rcases h with⟨hq,q⟩|⟨hq,q⟩
 .obtain⟨its,r',pl,hz⟩:=I.list hq;have hlen:=r'.length;refine call_tuple_list pl.isList (λh' kp=>?_) (by simp only[D']<;>lia);have I1:Inv X pins U H {s with heap:=h'}:=I.kept (t':=s.toks) kp;have I2:Inv X pins U (upd H h'.objs.size (.tup ys)) {s with heap:=h'.push {cls:=.type "tuple",data:=.seq its.toArray}}:=I1.laid (t':=s.toks) (λb o e=>g_ _ e) (s_ _) (show y0 X.prog X.w _ _ _ (.tup ys)from⟨hz,its,r',ē.new _ _⟩);exact(xa0 (.ref h'.objs.size) _ ⟨I2,a_,q _ (I1.ag.fresh (s_ _))⟩)
 .obtain⟨its,r',pl,hz⟩:=I.tuple hq;exact call_tuple_same pl (xa0 (.ref p) H ⟨I,a_,q⟩)
noncomputable def DS (K:e?)(T:í)(x:V)(H:Hp):Prop:=match x with
 | .str _=>T="str"
 | .int _=>T="int"
 | .ref p=>(T="list"/\∃xs,ah K H p xs)\/(T="tuple"/\∃o,K.lookup p=some o/\o.cls= .type "tuple"/\o.dict=none)\/(T="dict"/\((∃aa,H p=some (.dK aa))\/∃aa,H p=some (.dT aa)))\/(T="set"/\∃S n,H p=some (.set S n))
 |_=>v?
theorem LI {pins:b? (c_×J_)}{U:St}{H:Hp}{s:d_}{T:í}{x:V}{v:b_}(I:Inv X pins U H s)(r:RelV x v)(ty:DS X.K T x H):s.TypeIs v T/\∀a,v= .ref a->∃ob,s.heap.get? a=some ob/\ob.dict=none:=by
 cases x with
 |str z=>obtain⟨t,rfl⟩:=r;cases(show T="str"from ty);exact⟨typeIs_str s z t,λ_ e=>nomatch e⟩
 |int i=>obtain⟨t,rfl⟩:=r;cases(show T="int"from ty);exact⟨Ņ s i t,λ_ e=>nomatch e⟩
 | ref p=>
  cases r;rcases ty with⟨rfl,xs,hq⟩|⟨rfl,o,hk,hc,hd⟩|⟨rfl,hk⟩|⟨rfl,S,n,hk⟩
  .obtain⟨its,_,pl,_⟩:=I.list hq;refine⟨pl.isList.typeIs,λa e=>?_⟩;cases e;obtain⟨o,n,e,c,hd,_⟩:=pl;exact⟨o,e,hd⟩
  .refine⟨⟨o,I.aW p o hk,hc⟩,λa e=>?_⟩;cases e;exact⟨o,I.aW _ o hk,hd⟩
  .have z:∃o,s.heap.get? p=some o/\o.ExactDict:=by
    rcases hk with⟨aa,hk⟩|⟨aa,hk⟩
    .obtain⟨_,_,_,_,o,_,_,e,ex,_⟩:=I.ag p _ hk;exact⟨o,e,ex⟩
    .obtain⟨_,_,_,_,o,_,_,e,ex,_⟩:=I.ag p _ hk;exact⟨o,e,ex⟩
   obtain⟨o,e,ex⟩:=z;refine⟨⟨o,e,ex.1⟩,λa e2=>?_⟩;cases e2;exact⟨o,e,ex.2.1⟩
  .obtain⟨o,_,_,_,e,ex,_⟩:=I.ag p _ hk;refine⟨⟨o,e,ex.1⟩,λa e2=>?_⟩;cases e2;exact⟨o,e,ex.2.1⟩
 |_=>exact H? ty
noncomputable def Ut (K:e?)(T:í)(r:V->b? V->Hp->VK->Prop)(to:TE):TE:=λ U H Q=>to U H λx H1=>DS K T x H1/\r x [] H1 Q
noncomputable def Uu (K:e?)(T:í)(r:V->b? V->Hp->VK->Prop)(to:TE)(t:TA):TE:=λ U H Q=>to U H λx H1=>DS K T x H1/\t U H1 λxs H2=>r x xs H2 Q
variable {o e:G?}{es:b? G?}{to:TE}{t:TA}{name:y_}{apos ay:Ī}{T id:í}{r:V->b? V->Hp->VK->Prop}
theorem Uv (pa:PlainAttrs T)(slot:Slot T name id)(DT:adQ (.builtin id)=Ø (.type "method_descriptor"))(hm:uD X id r)(ho:PE X o to)(fc:e_ (Ŝ o name X.env (T? o X.env)=T? o X.env) aP1)(jD:e_ ((apos.endLine==ay.line)=true) aP1):PE X (.Call (.Attribute o name apos) [] [] ay) (Ut X.K T r to):=by
 intro pins s U H Q I h;refine wpAny_Call_method0_late fc jD (ai (ho pins s U H _ I h) λv s1 zQ=>?_);obtain⟨x,H1,I1,r1,ty,q1⟩:=zQ;obtain⟨h1,h2⟩:=LI I1 r1 ty;exact(xa0 T id ⟨pa,slot,DT,h1,h2,ą a_ (PySem.evalArgs_none (hm pins s1 U H1 x [] v [] Q I1 r1 .nil q1))⟩)
theorem fT (pa:PlainAttrs T)(slot:Slot T name id)(DT:adQ (.builtin id)=Ø (.type "method_descriptor"))(hm:uD X id r)(ho:PE X o to)(ha:PA X (e::es) t)(fc:e_ (Ŝ o name X.env (T? o X.env)=T? o X.env) aP1)(DU:e_ (((Y? ay (x_ (e::es) X.env)).all (λx=>!x.1)&&(Ñ ay (S_ [] X.env)).all (λx=>x.1.isSome)&&p_ ((e::es).length+([]:b? aa9).length+(if([]:b? aa9).isEmpty then 0 else 1)<30))=true) aP1)(jD:e_ ((apos.endLine==ay.line)=true) aP1)(hs:e_ (x_ (e::es) X.env=(false,T? e X.env)::x_ es X.env) aP1)(pP:e_ ((Y? ay (x_ es X.env)).any (·.1)=false) aP1):
  PE X (.Call (.Attribute o name apos) (e::es) [] ay) (Uu X.K T r to t):=by
 intro pins s U H Q I h;refine wpAny_Call_method_late fc DU jD a_ (ai (ho pins s U H _ I h) λv s1 zQ=>?_);obtain⟨x,H1,I1,r1,ty,q1⟩:=zQ;obtain⟨h1,h2⟩:=LI I1 r1 ty;refine(xa0 T id ⟨pa,slot,DT,h1,h2,?_⟩);have hA:=ha ay pins s1 U H1 _ I1 q1;rw[hs]at hA⊢;refine ą (by show(false||(Y? ay (x_ es X.env)).any (·.1))=false;rw[pP]<;>rfl) (ê ?_);exact ai hA λus s2 ⟨vs,H2,I2,r2,q2⟩=>hm pins s2 U H2 x vs v us Q I2 r1 r2 q2
end
noncomputable def DV (X:Cx)(id:í)(r:V->b? V->Hp->VK->Prop):Prop:=∀(pins:b? (c_×J_))(s:d_)(U:St)(H:Hp)(x:V)(xs:b? V)(v:b_)(us:b? b_)(Q:VK),Inv X pins U H s->RelV x v->Vals xs us->r x xs H Q->l_ (m_ X.prog X.w) X.A (Ħ (.builtin id) (v::us)) (EP X pins U Q) X.xe s
theorem Vals.one:∀{x:V}{us:b? b_},Vals [x] us->∃u,us=[u]/\RelV x u:=λ{x us} p=>by
 cases p with
 |cons r t=>cases t;exact⟨_,a_,r⟩
theorem Vals.two:∀{x y:V}{us:b? b_},Vals [x,y] us->∃u v,us=[u,v]/\RelV x u/\RelV y v
 |_,_,_,.cons r (.cons q .nil)=>(xa0 _ _ ⟨a_,r,q⟩)
theorem Vals.eraseIdx:∀{xs:b? V}{us:b? b_}(i:j?),Vals xs us->Vals (xs.eraseIdx i) (us.eraseIdx i)
 |_,_,_,.nil=>.nil
 |_,_,0,.cons _ t=>t
 |_,_,i+1,.cons r t=>.cons r (Vals.eraseIdx i t)
theorem Vals.rep {xs:b? V}{us:b? b_}(h:Vals xs us):∀k:j?,Vals (l' k xs).flatten (l' k us).flatten
 |0=>.nil
 |k+1=>by rw[X',X',ŀ,ŀ];exact Vals.append h (Vals.rep h k)
theorem LJ {α:Type}:∀(l:b? α)(i:j?),(l.eraseIdx i).length<=l.length
 |[],_=>s_ _
 |_::_,0=>ŷ _
 |_::r,i+1=>abf (LJ r i)
theorem foldl_rep (its:b? b_):∀(k:j?)(acc:b? b_),acT (λx1 x2=>x1++x2) acc.toArray (l' k its.toArray)=(acc++(l' k its).flatten).toArray
 |0,acc=>by simp
 |k+1,acc=>by
  have e:acc.toArray++its.toArray=(acc++its).toArray:=by simp
  have e2:(acc++its)++(l' k its).flatten=acc++(l' (k+1) its).flatten:=by rw[X',ŀ,abp]
  rw[<-e2,<-foldl_rep its k (acc++its),<-e,X',ż]
section
variable {X:Cx}{pins:b? (c_×J_)}{U:St}{H:Hp}{s:d_}{l b:c_}{xs ys zs:b? V}
theorem Inv.DW {its its':b? b_}{n:j?}{f:C? b_->C? b_}{t':j?}(I:Inv X pins U H s)(hH:H l=some (.lst xs))(e:s.heap.get? l=some {cls:=.type "list",data:=.seq its.toArray n})(hf:f its.toArray=its'.toArray)(hv:Vals ys its')(hz:ys.length<=k?):
  Inv X pins U (upd H l (.lst ys)) {s with heap:=s.heap.update l (Å f),toks:=t'}:=by
 have q:=PySem.IsL.update e f;rw[hf]at q;refine I.write (x:=l) (e:=l) (by rw[hH];exact ad4) (.inl a_) (λb' u hb hu=>(ſ s.heap (Å f) (Í hb)).trans hu) ⟨_,q⟩ ?_;exact⟨hz,xa0 its' _ ⟨hv,q⟩⟩
theorem Inv.LK {its:b? b_}{t':j?}(I:Inv X pins U H s)(hv:Vals ys its)(hz:ys.length<=k?):Inv X pins U (upd H s.heap.objs.size (.lst ys)) {s with heap:=s.heap.push {cls:=.type "list",data:=.seq its.toArray},toks:=t'}:=
 I.laid (λ_ _ q=>g_ _ q) (s_ _) ⟨hz,xa0 its 0 ⟨hv,x? _ a_⟩⟩
theorem Inv.fresh (I:Inv X pins U H s):H s.heap.objs.size=none:=I.ag.fresh (s_ _)
theorem Inv.rX (I:Inv X pins U H s)(hH:H l=some (.lst xs)):xs.length<=k?/\∃(its:b? b_)(n:j?),Vals xs its/\xs.length=its.length/\s.heap.get? l=some {cls:=.type "list",data:=.seq its.toArray n}:=by obtain⟨z,its,n,r,e⟩:=I.ag l _ hH;exact⟨z,xa0 its n ⟨r,r.length,e⟩⟩
theorem Uw {n:j?}(h:n<=k?):ů n=false:=by unfold ů;exact t_ (by lia)
end
section
variable {X:Cx}
noncomputable def Ux:V->b? V->Hp->VK->Prop:=λx vs H Q=>∃l xs y,x= .ref l/\vs=[y]/\H l=some (.lst xs)/\xs.length<k?/\Q .ar (upd H l (.lst (xs++[y])))
theorem y3:DV X "list.append" Ux:=by intro pins s U H x vs v us Q I rx rv h;obtain⟨l,xs,y,rfl,rfl,hH,hz,q⟩:=h;cases rx;obtain⟨u,rfl,ru⟩:=rv.one;obtain⟨z,its,n,r,hl,e⟩:=I.rX hH;refine ã D_ ⟨_,e,a_⟩ F.entry_list_append (F.args_list_append_2 _ _) (PySem.list_append l its.toArray n u (by rw[D'];lia)) ⟨e,?_⟩;refine(xa0 .ar _ ⟨I.DW (its':=its++[u]) hH e (by simp) (r.append (.cons ru .nil)) ?_,a_,q⟩);rw[r_,b?.length_singleton];lia
noncomputable def Uy:V->b? V->Hp->VK->Prop:=λx vs H Q=>∃l xs i k y,x= .ref l/\vs=[.int i]/\H l=some (.lst xs)/\-(2^63)<=i/\i<2^63/\acD i xs.length=some k/\xs[k]?=some y/\Q y (upd H l (.lst (xs.eraseIdx k)))
theorem Uz:DV X "list.pop" Uy:=by
 intro pins s U H x vs v us Q I rx rv h;obtain⟨l,xs,i,k,y,rfl,rfl,hH,h1,h2,hk,hy,q⟩:=h;cases rx;obtain⟨u,rfl,ru⟩:=rv.one;obtain⟨t,rfl⟩:=ru;obtain⟨z,its,n,r,hl,e⟩:=I.rX hH;obtain⟨w,hw,cI⟩:=r.get hy;refine ã acO ⟨_,e,a_⟩ F.entry_list_pop (F.args_list_pop_2 _ _) (MeetsSeq.list_pop_at l its.toArray n i t k w (afo h1 h2) (by rw[D',<-hl];exact hk) (by rw[<-ĺ];exact hw) (by rw[D'];lia)) ⟨e,?_⟩;refine(xa0 y _ ⟨I.DW (its':=its.eraseIdx k) hH e ?_ (r.eraseIdx k) ?_,cI,q⟩)
 .show its.toArray.eraseIdxIfInBounds k=(its.eraseIdx k).toArray;rw[ģ]
 .have:=LJ xs k;lia
noncomputable def UA:R2:=λx y H Q=>∃l b xs zs,x= .ref l/\y= .ref b/\H l=some (.lst xs)/\H b=some (.lst zs)/\xs.length+zs.length<=k?/\∀p,H p=none->Q (.ref p) (upd H p (.lst (xs++zs)))
theorem uG:bD X (ă .Add) UA:=by
 intro pins s U H x y v u Q I rx ry h;obtain⟨l,b,xs,zs,rfl,rfl,hH,hB,hz,q⟩:=h;cases rx;cases ry;obtain⟨z,its,n,r,hl,e⟩:=I.rX hH;obtain⟨z2,pO,n2,r2,LL,e2⟩:=I.rX hB;refine PySem.P.add_list e e2 ?_ (by rw[D',D'];lia);have ea:its.toArray++pO.toArray=(its++pO).toArray:=by simp
 rw[ea];exact(xa0 (.ref _) _ ⟨I.LK (t':=s.toks) (r.append r2) (by rw[r_];lia),a_,q _ I.fresh⟩)
noncomputable def UB:R2:=λx y H Q=>∃l k xs,x= .ref l/\y= .int k/\H l=some (.lst xs)/\-(2^63)<=k/\k<2^63/\xs.length*k.toNat<=k?/\∀p,H p=none->Q (.ref p) (upd H p (.lst (l' k.toNat xs).flatten))
theorem len_rep {α:Type}(xs:b? α)(k:j?):(l' k xs).flatten.length=k*xs.length:=by
 induction k with
 |zero=>simp
 |succ k ih=>rw[X',ŀ,r_,ih,afA,j?.add_comm]
theorem UC:bD X (ă .Mult) UB:=by
 intro pins s U H x y v u Q I rx ry h;obtain⟨l,k,xs,rfl,rfl,hH,h1,h2,hz,q⟩:=h;cases rx;obtain⟨t,rfl⟩:=ry;obtain⟨z,its,n,r,hl,e⟩:=I.rX hH;have hlen:its.toArray.size*k.toNat<=k?:=by rw[D',<-hl];exact hz
 have DX:¬its.toArray.size*k.toNat>(2^63-1) / 8:=by
  have:(k?:j?)<=(2^63-1) / 8:=by decide
  lia
 have DY:¬(!V_.List.listFitsIndex k)=true:=by rw[afo h1 h2];exact p?
 have uH:¬ů (its.toArray.size*k.toNat)=true:=by rw[Uw hlen];exact p?
 have jE:acT (λx1 x2=>x1++x2) #[] (l' (if its.toArray.isEmpty=true then 0 else k.toNat) its.toArray)=(l' k.toNat its).flatten.toArray:=by
  have f0:∀m:j?,acT (λx1 x2=>x1++x2) #[] (l' m its.toArray)=(l' m its).flatten.toArray:=λm=>by have:=foldl_rep its m [];rw[abQ]at this;exact this
  rw[f0];cases its with
  |nil=>simp
  |cons a r'=>rw[f? (by simp)]
 refine ő (T:="list") (U:="int") (by decide) ⟨_,e,a_⟩ (λs'=>Ņ s' k t) noFill_list_mul abx ā repeat_list aba.lookup (ã ā (Ņ s k t) abc (aaW _ _) (int___rmul___int_list k t l its.toArray n) ⟨e,a_,⟨_,e,a_⟩,ã F.slot_list_mul ⟨_,e,a_⟩ F.entry_list_mul (F.args_list_mul_2 _ _) (AutoListH.list___mul___list_int_3 l its.toArray n k t DY DX uH) ⟨e,?_⟩⟩);rw[jE];exact(xa0 (.ref _) _ ⟨I.LK (t':=s.toks) (r.rep k.toNat) (by rw[len_rep,acP];exact hz),a_,q _ I.fresh⟩)
end
end L2
namespace LM
open PySem PySem.W PySem.Calls PyProof.Rows
theorem UD {P:Params}{h:k_}:∀(ns:b? i_)(vs:b? b_),WellAll P h vs (ns.map WData.int)->U? vs ns:=by
 intro ns;induction ns with
 |nil=>intro vs w;rw[ī]at w;cases w;exact .nil
 |cons n ns ih=>
  intro vs w;rw[y?]at w;cases w with
  |cons a b=>cases a;exact .cons _ _ (ih _ b)
theorem UE {l:ı}{n:j?}(hn:l.most=some n){P:Params}{h:k_}{args:b? WData}{vals:b? b_}(me:l.row.toRowW.claim.pre args=true)(DZ:WellAll P h vals args):∃a vs ns,vals=[o? a]/\args=[WData.list (ns.map WData.int)]/\h.get? a=some {cls:=.type "list",data:=.seq vs.toArray}/\U? vs ns/\ns.length<=n:=by
 have UG:WShape.hasAll [] args [.list .int]=true:=(pre_splitW me).1;have hc:l.pre.holds [] {args:=args}=true:=(pre_splitW me).2;obtain⟨d,r,rfl,h1,h2⟩:=hasAllW_cons UG;obtain rfl:=hasAllW_nil h2;obtain⟨xs,rfl,h3⟩:=hasW_list h1;obtain⟨ns,rfl⟩:=items_int h3;have hlen:ns.length<=n:=by
  unfold ı.pre at hc;have h4:(WTm.not (.lt (.lit (.int (n:i_))) (.len (.arg 0)))).holds [] {args:=[.list (ns.map .int)]}=true:=by have h4:=(holds_andW hc).1;rw[hn]at h4;exact h4
  have h5:=condW_of h4 (w_not (w_lt w_lit (w_len_list (w_arg a_))));rw[i?]at h5;refine j?.le_of_not_lt λq=>?_;have q':(n:i_)<((ns.length:j?):i_):=by lia
  first
   |(rw[j' q']at h5;exact v_ h5 (by decide))
   |(simp at h5;lia)
 cases DZ with
 |cons w1 w2=>
  cases w2;cases w1 with
  |list ho jB=>exact(xa1 _ _ ns ⟨a_,a_,ho,UD ns _ jB,hlen⟩)
theorem UH (l:ı)(args:b? WData):l.row.toRowW.claim.post args (.bool true) args=true:=postW_of (r:=l.row.toRowW) (X:=(true==true)) (show WShape.has [] (.bool true) .bool=true by first|rfl|decide|simp[WShape.has,WShape.arms,WShape.armsAll]) (show(WTm.eq .res (.lit (.bool true))).value [] {args:=args,res:=some (.bool true),after:=args}=some (.bool (true==true))from w_eq_bool (w_res a_) w_lit) a_
theorem UI {l:ı}{n:j?}{q:n_}{loose:b? y_}{XP:(y_->f_ b_)->k_->Prop}{YP:z?->k_->Prop}{d:DefRec}(hn:l.most=some n)(uI:d.params.defaults=[])(call:∀(w:z?)(au aj:d_)(mg mb:y_->f_ b_)(fa:c_)(o:J_)(pm cd doc:b_)(a:c_)(vs:b? b_)(ns:b? i_),Ground q loose [] XP w au mg mb aj.heap->YP w aj.heap->
   aj.heap.get? fa=some o->o.data= .func (docDef d.name d.params d.body d.scope pm cd doc)->aj.heap.CodeRec cd d.name->mg d.name=some (.ref fa)->
   aj.heap.get? a=some {cls:=.type "list",data:=.seq vs.toArray}->U? vs ns->ns.length<=n->aj.gens=#[]->
   Ð (m_ l.prog w) aav (.call (.ref fa) ⟨[.ref a],[]⟩) (λr s'=>r= .ok (.ret (.bool true))/\OldK aj.heap s'.heap/\s'.os=aj.os/\ŗ s'.gens) aj):
  acw q loose XP YP l.row.toRowW d [] (λf vs=>Ħ f vs):=by
 intro w au aj mg mb G Yq fa o pm cd doc dV kV ho hd eW hD hmg hg args vals as me uJ hrd DZ hlo;obtain rfl:dV= .none:=Dflts.none hD uI;obtain rfl:kV= .none:=Dflts.noKw hD;obtain⟨a,vs,ns,rfl,rfl,pQ,hints,hlen⟩:=UE hn me DZ;refine enter_call (û (call w au aj mg mb fa o pm cd doc a vs ns G Yq ho (fd_plain hd) eW hmg pQ hints hlen hg) λr s' hq=>?_);obtain⟨rfl,h2,h3,h4⟩:=hq;exact⟨.inl (xa1 (.bool true) (.bool true) [] ⟨a_,λ_=>a_,.bool true,UH l _,λ_=>⟨afD,λ_ hm=>(nomatch hm)⟩⟩),h2,h3,h4⟩
end LM
namespace L2
open PySem PySem.Spec PyProof.Rows
theorem LN:∀{vs:b? b_}{ns:b? i_},U? vs ns->Vals (ns.map V.int) vs
 |_,_,.nil=>.nil
 |_,_,.cons n t h=>.cons ⟨t,a_⟩ (LN h)
noncomputable def Ag (H:Hp):Prop:=∀b,H b=none\/∃o xs,H b=some (.az o (.lst xs))
theorem UJ {P:n_}{w:z?}{K:e?}{mg mb:y_->f_ b_}{CX:eY}{k:j?}{fa a:c_}{fd:l?}{x:y_}{sp:Sp}{aj:d_}{vs:b? b_}{ns:b? i_}(KX:K.In aj.heap)(rY:aj.heap.Ns Þ mg)(hb:aj.heap.Ns ab5 mb)(UK:∀x:y_,x≠"__name__"->mb x=N4 x)(D0:aj.heap.NoLimit)(hg:aj.gens=#[])(ha:aj.heap.get? a=some {cls:=.type "list",data:=.seq vs.toArray})(hi:U? vs ns)(hl:ns.length<=k?)(hr:aY k aav)(F:∀base:k_,K.In base->base.Ns Þ mg->zu P w K mg base CX k fa fd [x] sp)(uK:∀(s:d_)(u:b_),aaz s fd ⟨[u],[]⟩ [(x,u)])(iM:∀H:Hp,Ag H->ah K H a (ns.map V.int)->sp [.ref a] H (λv _=>v= .bl true) λ_ _ _=>v?)(uL:∀H e s',CX [] H aj (λ_ _ _=>v?) e s'->v?):
  Ð (m_ P w) aav (.call (.ref fa) ⟨[.ref a],[]⟩) (λr s'=>r= .ok (.ret (.bool true))/\OldK aj.heap s'.heap/\s'.os=aj.os/\ŗ s'.gens) aj:=by
 have rv:=LN hi;have D1:=hi.length;have core:∀H:Hp,Ag H->ah K H a (ns.map V.int)->bK P w H aj.heap->(∀b,H b≠none->b=a)->(H a≠none->K.lookup a=none)->Ð (m_ P w) aav (.call (.ref fa) ⟨[.ref a],[]⟩) (λr s'=>r= .ok (.ret (.bool true))/\OldK aj.heap s'.heap/\s'.os=aj.os/\ŗ s'.gens) aj:=by
  intro H hO hS ag hA hK;have gU:∀{b:c_}{o:J_},aj.heap.get? b=some o->H b=none->(lQ aj.heap H).get? b=some o:=λe n=>Sg e n;have tZ:∀{b:c_}{o:J_}{es:C? ì}{ep:j?},aj.heap.get? b=some o->o.data= .dict es ep->H b=none:=λ{b o es ep} e d=>by
   cases q:H b with
   |none=>rfl
   |some u=>have e':b=a:=hA b (by rw[q];simp);subst e';rw[ha]at e;cases e;have d':Data.seq vs.toArray _=Data.dict es ep:=d;cases d'
  have Ah:∀{b:c_}{m:y_->f_ b_},aj.heap.Ns b m->(lQ aj.heap H).Ns b m:=λ{b m} ⟨o,es,ep,e,d,r⟩=>(xa1 o es ep ⟨gU e (tZ e d),d,r⟩);have LO:K.In (lQ aj.heap H):=λb o e=>gU (KX b o e) (by
   cases q:H b with
   |none=>rfl
   |some u=>have e':b=a:=hA b (by rw[q];simp);subst e';rw[hK (by rw[q];simp)]at e;cases e)
  have hM:Mod K mg (lQ aj.heap H):=⟨LO,Ah rY,⟨mb,Ah hb,UK⟩,let⟨mc,h1,h2⟩:=D0;⟨mc,Ah h1,h2⟩⟩;have e0:pM P w K mg (lQ aj.heap H) aav [] aj H:=⟨a_,hM,λb o e=>Sh e,afC (Sf _ _),ad4,λb hb=>v_ (show b∈([]:b? c_)from hb) (by simp),ag,.of_eq hg⟩;refine û ((F _ LO (Ah rY)).run aav [] aj H ⟨[.ref a],[]⟩ [.ref a] [.ref a] _ _ hr e0 (uK aj (.ref a)) (.cons a_ .nil) (iM H hO hS)) λr s' h=>?_;cases r with
  |error e=>exact(uL H e s' h).elim
  | ok fl=>
   cases fl with
   |next=>exact H? h
   |brk=>exact H? h
   |cont=>exact H? h
   | ret u=>
    obtain⟨v,H',os,bare,un,D2,r',q⟩:=h;have q':v= .bl true:=q;subst q';obtain rfl:u=À true:=r';refine⟨a_,OldK.of_keep λb o e=>?_,os,bare⟩;cases q:H b with
    |none=>exact un.keep b o e q (by intro z;exact v_ (show b∈([]:b? c_)from z) (by simp)) (by simp)
    |some u=>
     rcases hO b with z|⟨ob,xs,z⟩
     .rw[q]at z;cases z
     .have z2:=un.dU b ob _ z;obtain⟨e1,_⟩:=ag b _ z;obtain⟨e2,_⟩:=D2 b _ z2;rw[e]at e1;cases e1;exact e2
 cases hk:K.lookup a with
 |some o=>have e:=KX a o hk;rw[ha]at e;cases e;refine core (λ_=>none) (λ_=>.inl a_) (.inr (xa1 _ vs.toArray _ ⟨hk,a_,a_,a_,by rw[D',D1];exact hl,by simpa using rv⟩)) (λb u z=>by have z':(none:f_ HO)=some u:=z;cases z') (λb z=>v_ a_ z) λz=>v_ a_ z
 | none=>
  refine core (λb=>if b=a then some (.az {cls:=.type "list",data:=.seq vs.toArray} (.lst (ns.map V.int)))else none) (λb=>?_) (.inl (.inr ⟨{cls:=.type "list",data:=.seq vs.toArray},j_ a_⟩)) (λb u z=>?_) (λb z=>?_) λ_=>hk
  .by_cases hb:b=a
   .exact .inr (xa0 _ _ (j_ hb))
   .exact .inl (f? hb)
  .by_cases hb:b=a
   .have z':=(j_ hb).symm.trans z;cases z';subst hb;exact⟨ha,by rw[i?];exact hl,xa0 vs _ ⟨rv,ha⟩⟩
   .have z':=(f? hb).symm.trans z;cases z'
  .by_cases hb:b=a
   .exact hb
   .exact v_ (f? hb) z
theorem UL {l:ı}{n k:j?}{q:n_}{loose:b? y_}{XP:(y_->f_ b_)->k_->Prop}{YP:z?->k_->Prop}{d:DefRec}{K:Params->e?}{CX:z?->eY}{sp:z?->Sp}{x:y_}(hn:l.most=some n)(lZ:n<=k?)(uI:d.params.defaults=[])(hr:aY k aav)(hY:∀(w:z?)(h:k_),YP w h->(K w.params).In h)(F:∀(w:z?)(mg:y_->f_ b_)(fa:c_)(h:k_),(K w.params).In h->h.Ns Þ mg->mg d.name=some (.ref fa)->∃fd:l?,(∀(s:d_)(u:b_),aaz s fd ⟨[u],[]⟩ [(x,u)])/\∀base:k_,(K w.params).In base->base.Ns Þ mg->zu l.prog w (K w.params) mg base (CX w) k fa fd [x] (sp w))(iM:∀(w:z?)(H:Hp)(a:c_)(ns:b? i_),ns.length<=n->Ag H->ah (K w.params) H a (ns.map V.int)->sp w [.ref a] H (λv _=>v= .bl true) λ_ _ _=>v?)(uL:∀(w:z?)(H:Hp)(s:d_)(e:b_)(s':d_),CX w [] H s (λ_ _ _=>v?) e s'->v?):
  acw q loose XP YP l.row.toRowW d [] (λf vs=>Ħ f vs):=by
 refine LM.UI hn uI λw au aj mg mb fa o pm cd doc a vs ns G Yq ho hd eW hmg pQ hints hlen hg=>?_;have KX:=hY w _ Yq;obtain⟨fd,hb,hF⟩:=F w mg fa _ KX G.T.g hmg;exact UJ KX G.T.g G.T.b G.T.builtins G.T.nolimit hg pQ hints (K? hlen lZ) hr hF hb (λH hO hS=>iM w H a ns hlen hO hS) λH e s'=>uL w H aj e s'
theorem j47 {l:ı}{n k:j?}{q:n_}{loose:b? y_}{XP:(y_->f_ b_)->k_->Prop}{YP:z?->k_->Prop}{d:DefRec}{K:Params->e?}{CX:eY}{sp:e?->Sp}{x:y_}(hn:l.most=some n)(lZ:n<=k?)(uI:d.params.defaults=[])(hr:aY k aav)(hY:∀(w:z?)(h:k_),YP w h->(K w.params).In h)(F:∀(w:z?)(mg:y_->f_ b_)(fa:c_)(h:k_),(K w.params).In h->h.Ns Þ mg->mg d.name=some (.ref fa)->∃fd:l?,(∀(s:d_)(u:b_),aaz s fd ⟨[u],[]⟩ [(x,u)])/\∀base:k_,(K w.params).In base->base.Ns Þ mg->zu l.prog w (K w.params) mg base CX k fa fd [x] (sp (K w.params)))(iM:∀(K:e?)(H:Hp)(a:c_)(ns:b? i_),ns.length<=n->Ag H->ah K H a (ns.map V.int)->sp K [.ref a] H (λv _=>v= .bl true) λ_ _ _=>v?)(uL:∀(H:Hp)(s:d_)(e:b_)(s':d_),CX [] H s (λ_ _ _=>v?) e s'->v?):
  acw q loose XP YP l.row.toRowW d [] (λf vs=>Ħ f vs):=
 UL (K:=K) (CX:=λ_=>CX) (sp:=λw=>sp (K w.params)) hn lZ uI hr hY F (λw H a ns h1 h2 h3=>iM (K w.params) H a ns h1 h2 h3) λ_ H s e s'=>uL H s e s'
noncomputable def inClass (s:I_)(j:j?):I_:=match s with
 | .ClassDef _ _ _ body _ _ _ _ _ _ _=>body.getD j (.Pass ⟨0,0,0,0⟩)
 |_=>.Pass ⟨0,0,0,0⟩
noncomputable def rZ (s:I_):Arguments:=match s with
 | .FunctionDef _ a _ _ _ _ _ _ _ _=>a
 |_=>{posonlyargs:=[],args:=[],vararg:=none,kwonlyargs:=[],kw_defaults:=[],kwarg:=none,defaults:=[]}
noncomputable def iN (s:I_):b? I_:=match s with
 | .FunctionDef _ _ b _ _ _ _ _ _ _=>b
 |_=>[]
noncomputable def jr (s:I_):Xg:=match s with
 | .FunctionDef _ _ _ _ _ _ sc _ _ _=>sc
 |_=>{kind:=.function,names:=[],isGenerator:=false,isCoroutine:=false}
noncomputable abbrev CX0:eY:=λ_ _ _ _ _ _=>v?
noncomputable abbrev E0:XK:=λ_ _ _=>v?
theorem jq {X:Cx}:Passes CX0 X E0:=λ_ _ _ _ _ _ _ h=>h.elim
structure av (K:e?)(x qual:y_)(st:I_)(f:c_)(fd:l?):Prop where
 ex:∃(oc:b_)(od:f_ c_)(kV doc pm:b_)(an:f_ c_)(aD ct:b_)(kQ:C? (f_ b_)),fd=ô x qual (rZ st) (iN st) (jr st) .none kV doc pm an aD ct/\K.lookup f=some ⟨oc,od,.func fd,kQ⟩/\aah K aD qual=true
 kp:Û K (.ref f)=true
section
variable {P:n_}{w:z?}{K:e?}{mg:y_->f_ b_}{base:k_}
theorem av.ok {x qual:y_}{st:I_}{f:c_}{fd:l?}{N ps:b? y_}{k:j?}{sp:Sp}(F:av K x qual st f fd)(S:ql N ps (jr st))(len:∀vs H Q E,sp vs H Q E->vs.length=ps.length)(bg:∀(aD:b_)(A:B?)(outer:b? š)(s:d_)(H:Hp)(vs:b? V)(Q:VK)(E:XK),aY k (A.deeper (Â qual (jr st) s.heap.objs.size f aD))->sp vs H Q E->∃t,dj (dm CX0 P w K mg base N qual (jr st) f aD A outer s H E).pB (iN st) t/\t {nx:=λ_ H'=>Q .ar H',rt:=Q} (start N vs) H):zu P w K mg base CX0 (k+1) f fd ps sp:=by
 obtain⟨oc,od,kV,doc,pm,an,aD,ct,kQ,rfl,lk,eW⟩:=F.ex;refine Lx lk eW S len λA outer s H vs Q E hr iM=>?_;obtain⟨t,h,q⟩:=bg aD A outer s H vs Q E hr iM;exact⟨t,h.pB,q⟩
theorem av.dO {x qual:y_}{st:I_}{f:c_}{fd:l?}{N ps:b? y_}{k:j?}{sp:Sp}(F:av K x qual st f fd)(S:ql N ps (jr st))(bg:∀(aD:b_)(A:B?)(outer:b? š)(s:d_)(H:Hp)(vs:b? V)(Q:VK)(E:XK),aY k (A.deeper (Â qual (jr st) s.heap.objs.size f aD))->sp vs H Q E->∃t,dj (dm CX0 P w K mg base N qual (jr st) f aD A outer s H E).pB (iN st) t/\t {nx:=λ_ H'=>Q .ar H',rt:=Q} (start N vs) H)(len:e_ (∀vs H Q E,sp vs H Q E->vs.length=ps.length) aP6):zu P w K mg base CX0 (k+1) f fd ps sp:=F.ok S len bg
theorem av.aZ {x qual:y_}{st:I_}{f:c_}{fd:l?}{N ps:b? y_}{k:j?}{sp:Sp}(F:av K x qual st f fd)(bg:∀(aD:b_)(A:B?)(outer:b? š)(s:d_)(H:Hp)(vs:b? V)(Q:VK)(E:XK),aY k (A.deeper (Â qual (jr st) s.heap.objs.size f aD))->sp vs H Q E->∃t,dj (dm CX0 P w K mg base N qual (jr st) f aD A outer s H E).pB (iN st) t/\t {nx:=λ_ H'=>Q .ar H',rt:=Q} (start N vs) H)(S:e_ (ql N ps (jr st)) aP8)(len:e_ (∀vs H Q E,sp vs H Q E->vs.length=ps.length) aP6):zu P w K mg base CX0 (k+1) f fd ps sp:=F.ok S len bg
theorem av.binds {x qual:y_}{st:I_}{f:c_}{fd:l?}{ps:b? y_}(F:av K x qual st f fd)(h:∀(kV doc pm:b_)(an:f_ c_)(aD ct:b_)(us:b? b_),us.length=ps.length->ady (ô x qual (rZ st) (iN st) (jr st) .none kV doc pm an aD ct) ⟨us,[]⟩=Ø (ps.zip us)):Binds K fd ps []:=by
 obtain⟨oc,od,kV,doc,pm,an,aD,ct,kQ,rfl,lk,eW⟩:=F.ex;exact .all (h kV doc pm an aD ct)
theorem ji {x qual:y_}{st:I_}{f:c_}{oc:b_}{od an:f_ c_}{kQ:C? (f_ b_)}{kV doc pm aD ct:b_}(l:K.lookup f=some ⟨oc,od,.func (ô x qual (rZ st) (iN st) (jr st) .none kV doc pm an aD ct),kQ⟩)(c:aah K aD qual=true)(k:Û K (.ref f)=true):av K x qual st f (ô x qual (rZ st) (iN st) (jr st) .none kV doc pm an aD ct):=⟨(xa4 oc od kV doc pm an aD ct kQ ⟨a_,l,c⟩),k⟩
end
theorem mf {A:B?}{k:j?}(hr:aY k A):A.units+1<P?:=ė (adn (by decide:1<=64) _) hr.units
theorem zq {n:j?}(h:n<=1000):n<k?:=ė h (by decide)
section
variable {X:Cx}
theorem pv (i:j?){x:y_}{pos:Ī}(hN:e_ (X.N[i]?=some x) aP1)(hv:tQ X.env.scope x:=by first|exact Or.inl rfl|exact Or.inr (Or.inl rfl)|exact Or.inr (Or.inr rfl))(hd:e_ ((x==("__debug__":y_))=false) aP2)(eW:e_ ((x==("__classdict__":y_))=false) aP2):PE X (.Name x pos) (KL i):=Sj hN hv hd eW
end
theorem gd {A Bq:Prop}(h:Bq):if false=true then A else Bq:=by rw[f? p?];exact h
theorem cb {A Bq:Prop}(h:A):if true=true then A else Bq:=by rw[j_ a_];exact h
theorem bh {c A Bq:Prop}[aeO c](h1:c->A)(h2:¬c->Bq):if c then A else Bq:=by
 by_cases h:c
 .rw[j_ h];exact h1 h
 .rw[f? h];exact h2 h
noncomputable def xf (H H':Hp):Prop:=∀b o,H b=some o->H' b=some o
theorem xf.refl (H:Hp):xf H H:=λ_ _ h=>h
theorem xf.trans {H H1 H2:Hp}(a:xf H H1)(b:xf H1 H2):xf H H2:=λc o h=>b c o (a c o h)
theorem xf.free {H H':Hp}(e:xf H H'){l:c_}(h:H' l=Option.none):H l=Option.none:=by
 cases q:H l with
 |none=>rfl
 |some o=>rw[e l o q]at h;cases h
theorem xf.seq {K:e?}{H H':Hp}{a:c_}{xs:b? V}(e:xf H H')(h:ah K H a xs):ah K H' a xs:=by
 rcases h with(h|⟨o,h⟩)|h
 .exact .inl (.inl (e _ _ h))
 .exact .inl (.inr ⟨o,e _ _ h⟩)
 .exact .inr h
section
variable {B:Type}[İ B]
noncomputable def br (aa:b? (B×V))(k:B):f_ V:=(aa.find? λkv=>p_ (kv.1=k)).map (·.2)
noncomputable def putK (aa:b? (B×V))(k:B)(v:V):b? (B×V):=if(aa.any λkv=>p_ (kv.1=k))=true then aa.map (λkv=>if kv.1=k then(kv.1,v)else kv)else aa++[(k,v)]
theorem mh {p:B×V}{r:b? (B×V)}{k:B}(e:p.1=k):br (p::r) k=some p.2:=by simp[br,É,e]
theorem mi {p:B×V}{r:b? (B×V)}{k:B}(e:¬p.1=k):br (p::r) k=br r k:=by simp[br,É,e]
theorem Ai (k:B):∀aa:b? (B×V),(aa.any λkv=>p_ (kv.1=k))=(br aa k).isSome
 |[]=>a_
 |p::r=>by
  rw[Ō];by_cases e:p.1=k
  .simp only[mh e,j' e,s?.true_or,ael]
  .rw[mi e,t_ e,afG];exact Ai k r
theorem uM (aa:b? (B×V))(k:B)(v:V):(putK aa k v).length<=aa.length+1:=by
 unfold putK;split
 .rw[i?];lia
 .rw[r_,E?,ź];lia
theorem Aj {aa:b? (B×V)}{k:B}(v:V)(h:br aa k=none):putK aa k v=aa++[(k,v)]:=by unfold putK;rw[Ai,h];exact f? (by decide)
theorem dJ.se {o:f_ V}{u:f_ b_}(r:dJ o u):o.isSome=u.isSome:=by
 cases o with
 |none=>cases u with
  |none=>rfl
  |some _=>exact(show v? from r).elim
 |some _=>cases u with
  |none=>exact(show v? from r).elim
  |some _=>rfl
theorem dJ.getD {o:f_ V}{u:f_ b_}{d:V}{d':b_}(r:dJ o u)(rd:RelV d d'):RelV (o.getD d) (u.getD d'):=by
 cases o with
 |none=>cases u with
  |none=>exact rd
  |some _=>exact(show v? from r).elim
 |some _=>cases u with
  |none=>exact(show v? from r).elim
  |some _=>exact r
theorem KV.val {aa:b? (B×V)}{vs:b? (B×b_)}(r:KV aa vs)(k:B):dJ (br aa k) (aa4 vs k):=by
 unfold KV at r;induction r with
 |nil=>exact q_
 | @cons p q ps qs h t ih=>
  obtain⟨h1,h2⟩:=h;by_cases e:p.1=k
  .have e':q.1=k:=h1.symm.trans e;have b:aa4 (q::qs) k=some q.2:=by simp[aa4,É,e']
   rw[mh e,b];exact h2
  .have e':¬q.1=k:=λz=>e (h1.trans z);have b:aa4 (q::qs) k=aa4 qs k:=by simp[aa4,É,e']
   rw[mi e,b];exact ih
theorem KV.any {aa:b? (B×V)}{vs:b? (B×b_)}(r:KV aa vs)(k:B):(aa.any λkv=>p_ (kv.1=k))=vs.any λkv=>p_ (kv.1=k):=by
 unfold KV at r;induction r with
 |nil=>rfl
 |cons h t ih=>rw[Ō,Ō,ih,h.1]
theorem KV.D3 {aa:b? (B×V)}{vs:b? (B×b_)}(r:KV aa vs)(k:B){y:V}{u:b_}(ry:RelV y u):KV (aa.map λkv=>if kv.1=k then(kv.1,y)else kv) (vs.map λkv=>if kv.1=k then(kv.1,u)else kv):=by
 unfold KV at r⊢;induction r with
 |nil=>exact .nil
 |@cons p q ps qs h t ih=>
  rw[y?,y?];refine .cons ?_ ih;obtain⟨h1,h2⟩:=h;by_cases e:p.1=k
  .rw[j_ e,j_ (h1.symm.trans e)];exact⟨h1,ry⟩
  .rw[f? e,f? (λz=>e (h1.trans z))];exact⟨h1,h2⟩
theorem KV.put {aa:b? (B×V)}{vs:b? (B×b_)}(r:KV aa vs)(k:B){y:V}{u:b_}(ry:RelV y u):KV (putK aa k y) (stored vs k u):=by
 unfold putK stored;rw[r.any k];by_cases e:(vs.any λkv=>p_ (kv.1=k))=true
 .rw[j_ e,j_ e];exact r.D3 k ry
 .rw[f? e,f? e];exact adz r ⟨a_,ry⟩
theorem KV.length {aa:b? (B×V)}{vs:b? (B×b_)}(r:KV aa vs):aa.length=vs.length:=q? r
end
theorem pR {P:n_}{w:z?}{k:Key}{u:b_}(r:RelV (kV k) u):(qp P w).is k u=true:=by
 cases k with
 |inl i=>obtain⟨t,e⟩:=(show ∃t,u=ù i t from r);subst e;exact Kz P w i t
 |inr x=>obtain⟨t,e⟩:=(show ∃t,u=adh x t from r);subst e;exact Se P w x t
theorem LP {P:n_}{w:z?}:∀{ks:b? Key}{us:b? b_},Vals (ks.map kV) us->ItemsAre (qp P w) ks us
 |[],_,r=>by rw[ī]at r;cases r;exact .nil
 |k::ks,_,r=>by
  rw[y?]at r;cases r with
  |cons h t=>exact .cons (pR h) (LP t)
noncomputable abbrev KT (H:Hp):b? (b? Key×V)->b? (b? Key×c_×b_)->Prop:=g? λp q=>p.1=q.1/\H q.2.1=some (.tup (p.1.map kV))/\RelV p.2 q.2.2
theorem KT.val {H:Hp}{aa:b? (b? Key×V)}{xs:b? (b? Key×c_×b_)}(r:KT H aa xs)(k:b? Key):dJ (br aa k) ((ň xs k).map (·.2)):=by
 induction r with
 |nil=>exact q_
 | @cons p q ps qs h t ih=>
  obtain⟨h1,_,h2⟩:=h;by_cases e:p.1=k
  .have e':q.1=k:=h1.symm.trans e;have b:ň (q::qs) k=some q.2:=by simp[ň,É,e']
   rw[mh e,b];exact h2
  .have e':¬q.1=k:=λz=>e (h1.trans z);have b:ň (q::qs) k=ň qs k:=by simp[ň,É,e']
   rw[mi e,b];exact ih
theorem KT.D3 {H:Hp}{aa:b? (b? Key×V)}{xs:b? (b? Key×c_×b_)}(r:KT H aa xs)(k:b? Key){y:V}{u:b_}(ry:RelV y u):KT H (aa.map λkv=>if kv.1=k then(kv.1,y)else kv) (xs.map (putAt k u)):=by
 induction r with
 |nil=>exact .nil
 |@cons p q ps qs h t ih=>
  rw[y?,y?];refine .cons ?_ ih;obtain⟨h1,h2,h3⟩:=h;unfold putAt;by_cases e:p.1=k
  .rw[j_ e,j_ (h1.symm.trans e)];exact⟨h1,h2,ry⟩
  .rw[f? e,f? (λz=>e (h1.trans z))];exact⟨h1,h2,h3⟩
theorem KT.put {H:Hp}{aa:b? (b? Key×V)}{xs:b? (b? Key×c_×b_)}(r:KT H aa xs)(k:b? Key){b:c_}{y:V}{u:b_}(hb:H b=some (.tup (k.map kV)))(ry:RelV y u):KT H (putK aa k y) (aea xs k b u):=by
 have e:(aa.any λkv=>p_ (kv.1=k))=(ň xs k).isSome:=by rw[Ai,(r.val k).se,aas]
 unfold putK aea;rw[e];by_cases q:(ň xs k).isSome=true
 .rw[j_ q,j_ q];exact r.D3 k ry
 .rw[f? q,f? q];exact adz r ⟨a_,hb,ry⟩
theorem KT.keeps {H H':Hp}{aa:b? (b? Key×V)}{xs:b? (b? Key×c_×b_)}(r:KT H aa xs)(ht:∀b ys,H b=some (.tup ys)->H' b=some (.tup ys)):KT H' aa xs:=Paired.gi r λ_ _ z=>⟨z.1,ht _ _ z.2.1,z.2.2⟩
section
variable {P:n_}{w:z?}{H:Hp}{h:k_}{a:c_}
theorem LQ {u:HO}(ok:bK P w H h)(e:Rd H a u):y0 P w H h a u:=e.ok ok
theorem pT {aa:b? (Key×V)}(ok:bK P w H h)(e:Rd H a (.dK aa)):aa.length<=k?/\(a==V')=false/\∃vs,KV aa vs/\h.DictOf (qp P w) a vs:=show y0 P w H h a (.dK aa)from LQ ok e
theorem LR {aa:b? (Key×V)}(ok:bK P w H h)(e:H a=some (.dK aa)):aa.length<=k?/\(a==V')=false/\∃vs,KV aa vs/\h.DictOf (qp P w) a vs:=pT ok (.inl e)
theorem kS {ks:b? Key}(ok:bK P w H h)(e:H a=some (.tup (ks.map kV))):(Ł (qp P w)).is h ks a:=by obtain⟨_,its,r,o,h1,h2,n,h3⟩:=(show y0 P w H h a (.tup (ks.map kV))from ok a _ e);exact(xa1 o its.toArray n ⟨h1,h2,h3,by simpa using LP r⟩)
theorem pU {aa:b? (b? Key×V)}(ok:bK P w H h)(e:Rd H a (.dT aa)):aa.length<=k?/\(a==V')=false/\∃xs,KT H aa xs/\h.DictOfH (Ł (qp P w)) a xs:=by
 obtain⟨z,y,xs,r,o,es,ep,h1,h2,h3,h4,h5⟩:=(show y0 P w H h a (.dT aa)from LQ ok e);refine⟨z,y,xs,r,xa1 o es ep ⟨h1,h2,h3,h4,λx hx=>?_,h5⟩⟩;have all:∀{l:b? (b? Key×V)}{m:b? (b? Key×c_×b_)},KT H l m->∀x∈m,(Ł (qp P w)).is h x.1 x.2.1:=by
  intro l m q;induction q with
  |nil=>intro x hx;exact nomatch hx
  |@cons p q ps qs hq t ih=>
   intro x hx;rcases B_.mp hx with e|hx
   .subst e;exact kS ok (by rw[<-hq.1];exact hq.2.1)
   .exact ih x hx
 exact all r x hx
theorem D4 {aa:b? (b? Key×V)}(ok:bK P w H h)(e:H a=some (.dT aa)):aa.length<=k?/\(a==V')=false/\∃xs,KT H aa xs/\h.DictOfH (Ł (qp P w)) a xs:=pU ok (.inl e)
end
noncomputable def mn (H:Hp)(a:c_)(y:V)(r:f_ V):Prop:=(∃aa k,Rd H a (.dK aa)/\y=kV k/\r=br aa k)\/∃aa k b,Rd H a (.dT aa)/\y= .ref b/\H b=some (.tup (k.map kV))/\r=br aa k
noncomputable def iO (H:Hp)(a:c_)(y v:V)(H':Hp):Prop:=(∃aa k,H a=some (.dK aa)/\y=kV k/\aa.length<k?/\H'=upd H a (.dK (putK aa k v)))\/∃aa k b,H a=some (.dT aa)/\y= .ref b/\H b=some (.tup (k.map kV))/\aa.length<k?/\H'=upd H a (.dT (putK aa k v))
theorem iO.k {H:Hp}{a:c_}{aa:b? (Key×V)}{k:Key}{v:V}(e:H a=some (.dK aa))(hl:aa.length<k?):iO H a (kV k) v (upd H a (.dK (putK aa k v))):=.inl (xa0 aa k ⟨e,a_,hl,a_⟩)
theorem iO.t {H:Hp}{a b:c_}{aa:b? (b? Key×V)}{k:b? Key}{v:V}(e:H a=some (.dT aa))(eb:H b=some (.tup (k.map kV)))(hl:aa.length<k?):iO H a (.ref b) v (upd H a (.dT (putK aa k v))):=.inr (xa1 aa k b ⟨e,a_,eb,hl,a_⟩)
section
variable {X:Cx}{pins:b? (c_×J_)}{U:St}{H:Hp}{s:d_}{a:c_}{y v:V}{u r:b_}{o:f_ V}{A:B?}{E:b_->d_->Prop}
theorem Inv.big (I:Inv X pins U H s):V'<s.heap.objs.size:=by have h:Þ<s.heap.objs.size:=(I.mod.glob.keeps I.bk).lt;exact j?.lt_trans (by decide) h
theorem UM {Q:b_->d_->Prop}(hu:A.units+1<P?)(I:Inv X pins U H s)(g:mn H a y (some v))(ry:RelV y u)(h:∀w' s',Inv X pins U H s'->RelV v w'->Q w' s'):l_ (m_ X.prog X.w) A (abK (.ref a) u) Q E s:=by
 rcases g with⟨aa,k,e,ey,l⟩|⟨aa,k,b,e,ey,eb,l⟩
 .subst ey;obtain⟨z,hd,vs,rel,dd⟩:=pT I.ag e;obtain⟨w',hw,cI⟩:=dJ.some_of (v:=v) (o:=aa4 vs k) (by rw[l];exact rel.val k);exact wpAny_getItem_of (pR ry) dd.mapOf hw (h w' _ (I.tok _) cI)
 .subst ey;cases(show u=o? b from ry);obtain⟨z,hd,xs,rel,dd⟩:=pU I.ag e;obtain⟨w',hw,cI⟩:=dJ.some_of (v:=v) (o:=(ň xs k).map (·.2)) (by rw[l];exact rel.val k);obtain⟨p,hp,Ak⟩:=adm.mp hw;refine adO (â hu) (kS I.ag eb) dd hp ?_;rw[Ak];exact h w' _ (I.tok _) cI
theorem UN {Q:b_->d_->Prop}(hu:A.units+1<P?)(I:Inv X pins U H s)(g:mn H a y o)(ry:RelV y u)(h:∀s',Inv X pins U H s'->Q (.bool o.isSome) s'):l_ (m_ X.prog X.w) A (M? .In u (.ref a)) Q E s:=by
 rcases g with⟨aa,k,e,ey,l⟩|⟨aa,k,b,e,ey,eb,l⟩
 .subst ey;obtain⟨z,hd,vs,rel,dd⟩:=pT I.ag e;refine wpAny_in_of (pR ry) hd dd.mapOf ?_;rw[<-(rel.val k).se,<-l];exact h _ (I.tok _)
 .subst ey;cases(show u=o? b from ry);obtain⟨z,hd,xs,rel,dd⟩:=pU I.ag e;refine wpAny_in_heap (â hu) (kS I.ag eb) hd dd ?_;have q:=(rel.val k).se;rw[aas]at q;rw[<-q,<-l];exact h _ (I.tok _)
theorem UO {Q:b_->d_->Prop}(hu:A.units+1<P?)(I:Inv X pins U H s)(g:mn H a y o)(ry:RelV y u)(h:∀s',Inv X pins U H s'->Q (.bool (!o.isSome)) s'):l_ (m_ X.prog X.w) A (M? .NotIn u (.ref a)) Q E s:=by
 rcases g with⟨aa,k,e,ey,l⟩|⟨aa,k,b,e,ey,eb,l⟩
 .subst ey;obtain⟨z,hd,vs,rel,dd⟩:=pT I.ag e;refine wpAny_notIn_of (pR ry) hd dd.mapOf ?_;rw[<-(rel.val k).se,<-l];exact h _ (I.tok _)
 .subst ey;cases(show u=o? b from ry);obtain⟨z,hd,xs,rel,dd⟩:=pU I.ag e;refine wpAny_notIn_heap (â hu) (kS I.ag eb) hd dd ?_;have q:=(rel.val k).se;rw[aas]at q;rw[<-q,<-l];exact h _ (I.tok _)
theorem pV {h':k_}{t':j?}{ob:HO}(I:Inv X pins U H s)(mu:fO (H a))(hs:F_ a s.heap h')(he:∃q,h'.get? a=some q)(new:y0 X.prog X.w (upd H a ob) h' a ob):Inv X pins U (upd H a ob) {s with heap:=h',toks:=t'}:=
 I.write (x:=a) (e:=a) mu (.inl a_) (λb q hb z=>(hs.2 b hb).trans z) he new
theorem LS {P:n_}{w:z?}{H':Hp}{h':k_}{aa:b? (Key×V)}{vs:b? (Key×b_)}(z:aa.length<=k?)(hd:(a==V')=false)(rel:KV aa vs)(dd:h'.DictOf (qp P w) a vs):y0 P w H' h' a (.dK aa):=⟨z,hd,vs,rel,dd⟩
theorem UP {H':Hp}{Q:Unit->d_->Prop}(hu:A.units+1<P?)(I:Inv X pins U H s)(g:iO H a y v H')(ry:RelV y u)(rv:RelV v r)(h:∀s',Inv X pins U H' s'->Q () s'):l_ (m_ X.prog X.w) A (aeb (.ref a) u r) Q E s:=by
 rcases g with⟨aa,k,e,ey,l,eH⟩|⟨aa,k,b,e,ey,eb,l,eH⟩
 .subst ey eH;obtain⟨z,hd,vs,rel,dd⟩:=LR I.ag e;have hz:vs.length<=k?:=by rw[<-rel.length];exact z
  have hl:(putK aa k v).length<=k?:=by have:=uM aa k v;lia
  refine wpAny_setItem_pairs (hsz:=hz) (pR ry) dd λh' gD hs=>h _ ?_;have he:∃q,h'.get? a=some q:=let⟨q,_,_,hq,_⟩:=gD;⟨q,hq⟩;exact pV I (by rw[e];exact q_) hs he (LS hl hd (rel.put k rv) gD)
 .subst ey eH;cases(show u=o? b from ry);obtain⟨z,hd,xs,rel,dd⟩:=D4 I.ag e;have hz:xs.length<=k?:=by rw[<-q? rel];exact z
  have hl:(putK aa k v).length<=k?:=by have:=uM aa k v;lia
  refine adL (hsz:=hz) (â hu) (kS I.ag eb) dd λh' gD hs=>h _ ?_;obtain⟨q,es,ep,hq,h2,h3,h4,_,h5⟩:=gD;refine pV I (by rw[e];exact q_) hs ⟨q,hq⟩ ⟨hl,hd,_,(rel.put k eb rv).keeps λc ys ec=>?_,xa1 q es ep ⟨hq,h2,h3,h4,h5⟩⟩;rw[jd (gA ec e (λz=>nomatch z))];exact ec
end
noncomputable def D5 (i:G?):Prop:=∀ov iv,abB i false ov iv=operate [ov,iv] (abK ov iv)
theorem LU {prog:n_}{w:z?}{A:B?}{E:b_->d_->Prop}{s:d_}{env:š}{value slice:G?}{pos:Ī}{T id:í}{Q:b_->d_->Prop}(hl:ń (.type T) "__getitem__"=Ø (some (.builtin id)))(hs:D5 slice)(h:l_ (m_ prog w) A (T? value env) (λo aj=>l_ (m_ prog w) A (T? slice env) (λi ae=>ae.TypeIs o T/\l_ (m_ prog w) A (abK o i) Q E ae) E aj) E s):
  l_ (m_ prog w) A (T? (.Subscript value slice pos) env) Q E s:=by
 refine Subscript_ (F' h (λo aj h₁=>F' h₁ (λi ae bQ=>?_) λ_ _ x=>x) λ_ _ x=>x);obtain⟨hT,bQ⟩:=bQ;unfold afX;refine d? ?_;rw[getitemInPython_of_ne hT.not_modules];refine d? (ĉ hT hl ?_);have fin:l_ (m_ prog w) A (abB slice false o i) (λr aT=>l_ (m_ prog w) A (letTemporaryGo value o r >>= λ_=>Ø r) Q E aT) E ae:=by rw[hs o i];exact wpAny_operating (F' bQ (λr aT gE=>d? (wpAny_letTemporaryGo (h_ gE))) λ_ _ x=>x)
 first
  |exact h_ (d? fin)
  |exact wpAny_bind (wpAny_pure (wpAny_bind fin))
  |exact wpAny_bind fin
theorem UQ {X:Cx}{pins:b? (c_×J_)}{U:St}{H:Hp}{s:d_}{a:c_}{y:V}{o:f_ V}(I:Inv X pins U H s)(g:mn H a y o):s.TypeIs (.ref a) "dict":=by
 rcases g with⟨aa,k,e,_,_⟩|⟨aa,k,b,e,_,_,_⟩
 .obtain⟨_,_,vs,_,dd⟩:=pT I.ag e;exact dd.typeIs
 .obtain⟨_,_,xs,_,dd⟩:=pU I.ag e;exact dd.typeIs
noncomputable def UR (td ty:TE):TE:=λ U H Q=>td U H λx H1=>ty U H1 λy H2=>∃a v,x= .ref a/\mn H2 a y (some v)/\Q v H2
noncomputable def US (ty td:TE):TE:=λ U H Q=>ty U H λy H1=>td U H1 λx H2=>∃a o,x= .ref a/\mn H2 a y o/\Q (.bl o.isSome) H2
noncomputable def UT (ty td:TE):TE:=λ U H Q=>ty U H λy H1=>td U H1 λx H2=>∃a o,x= .ref a/\mn H2 a y o/\Q (.bl (!o.isSome)) H2
noncomputable def UU (td ty tv:TE):TS:=λD U H=>tv U H λv H1=>td U H1 λx H2=>ty U H2 λy H3=>∃a H4,x= .ref a/\iO H3 a y v H4/\D.nx U H4
section
variable {X:Cx}{o i e value:G?}{pos pos' pF:Ī}{td ty tv:TE}
theorem LW (hu:X.A.units+1<P?)(ho:PE X o td)(hi:PE X i ty)(hs:D5 i):PE X (.Subscript o i pos) (UR td ty):=by intro pins s U H Q I h;refine LU aa0.lookup hs (ai (ho pins s U H _ I h) λu s1 ⟨x,H1,I1,rx,q1⟩=>ai (hi pins s1 U H1 _ I1 q1) λiv s2 zQ=>?_);obtain⟨y,H2,I2,ry,a,v,ex,g,q2⟩:=zQ;subst ex;obtain rfl:u=o? a:=rx;exact⟨UQ I2 g,UM hu I2 g ry λw' s3 I3 cI=>(xa0 v H2 ⟨I3,cI,q2⟩)⟩
theorem UW (hu:X.A.units+1<P?)(hi:PE X i ty)(ho:PE X o td):PC X .In i o (US ty td):=by intro pins s U H Q I h;refine ai (hi pins s U H _ I h) λiv s1 ⟨y,H1,I1,ry,q1⟩=>ai (ho pins s1 U H1 _ I1 q1) λu s2 zQ=>?_;obtain⟨x,H2,I2,rx,a,ov,ex,g,q2⟩:=zQ;subst ex;obtain rfl:u=o? a:=rx;exact UN hu I2 g ry λs3 I3=>(xa0 (.bl ov.isSome) H2 ⟨I3,a_,q2⟩)
theorem D6 (hu:X.A.units+1<P?)(hi:PE X i ty)(ho:PE X o td):PC X .NotIn i o (UT ty td):=by intro pins s U H Q I h;refine ai (hi pins s U H _ I h) λiv s1 ⟨y,H1,I1,ry,q1⟩=>ai (ho pins s1 U H1 _ I1 q1) λu s2 zQ=>?_;obtain⟨x,H2,I2,rx,a,ov,ex,g,q2⟩:=zQ;subst ex;obtain rfl:u=o? a:=rx;exact UO hu I2 g ry λs3 I3=>(xa0 (.bl (!ov.isSome)) H2 ⟨I3,a_,q2⟩)
theorem LX (hu:X.A.units+1<P?)(ho:PE X o td)(hi:PE X i ty)(hv:PE X value tv)(hs:ŧ value (some (.Subscript o i pos')) pos.line X.env=Ø false):PS X (.Assign [.Subscript o i pos'] value pos) (UU td ty tv):=by
 intro pins s U H D I h;refine acY (ai (hv pins s U H _ I h) λr s1 ⟨v,H1,I1,rv,q1⟩=>ai (ho pins s1 U H1 _ I1 q1) λu s2 ⟨x,H2,I2,rx,q2⟩=>ai (hi pins s2 U H2 _ I2 q2) λiv s3 zQ=>?_) hs;obtain⟨y,H3,I3,ry,a,H4,ex,g,q3⟩:=zQ;subst ex;obtain rfl:u=o? a:=rx;exact UP hu I3 g ry rv λs4 I4=>(xa0 U H4 ⟨I4,q3⟩)
end
theorem UX {P:n_}{w:z?}{H:Hp}(h:k_)(hb:V'<h.objs.size):y0 P w H (h.push {cls:=.type "dict",data:=.dict #[]}) h.objs.size (.dK []):=⟨W_ _,Ê.mpr (Í (N? hb)),[],.nil,k_.DictOf.new h⟩
theorem LY {P:n_}{w:z?}{H:Hp}(h:k_)(hb:V'<h.objs.size):y0 P w H (h.push {cls:=.type "dict",data:=.dict #[]}) h.objs.size (.dT []):=⟨W_ _,Ê.mpr (Í (N? hb)),[],.nil,xa1 _ (#[]) 0 ⟨x? _ a_,⟨a_,a_,a_⟩,a_,a_,acS⟩⟩
noncomputable def UY:TE:=λ_ H Q=>∀p,H p=none->Q (.ref p) (upd H p (.dT []))
section
variable {X:Cx}{pos:Ī}
theorem Al:PE X (.Dict [] [] pos) UY:=λpins s U H Q I h=>wpAny_Dict_empty (xa0 (.ref s.heap.objs.size) _ ⟨I.laid (a:=s.heap.objs.size) (o:=.dT []) (t':=s.toks) (λ_ _ q=>g_ _ q) (s_ _) (LY s.heap I.big),a_,h _ (I.ag.fresh (s_ _))⟩)
end
structure M2 (X:Cx)(o:G?)(m:y_)(apos:Ī)(e f:G?)(ay:Ī):Prop where
 base:Ŝ o m X.env (T? o X.env)=T? o X.env
 few:((Y? ay (x_ [e,f] X.env)).all (λx=>!x.1)&&(Ñ ay (S_ [] X.env)).all (λx=>x.1.isSome)&&p_ (([e,f]:b? G?).length+([]:b? aa9).length+(if([]:b? aa9).isEmpty then 0 else 1)<30))=true
 line:(apos.endLine==ay.line)=true
 trees:Y? ay (x_ [e,f] X.env)=[(false,T? e X.env),(false,T? f X.env)]
noncomputable def LZ (H:Hp)(a:c_):Prop:=(∃aa,Rd H a (.dK aa))\/∃aa,Rd H a (.dT aa)
theorem UZ {X:Cx}{pins:b? (c_×J_)}{U:St}{H:Hp}{s:d_}{a:c_}(I:Inv X pins U H s)(d:LZ H a):s.TypeIs (.ref a) "dict"/\(∀b,o? a= .ref b->∃ob,s.heap.get? b=some ob/\ob.dict=none)/\(a==V')=false:=by
 rcases d with⟨aa,e⟩|⟨aa,e⟩
 .obtain⟨_,hd,vs,_,dd⟩:=pT I.ag e;refine⟨dd.typeIs,λb q=>?_,hd⟩;cases q;obtain⟨ob,_,_,h1,h2,_⟩:=dd;exact⟨ob,h1,h2.2.1⟩
 .obtain⟨_,hd,xs,_,dd⟩:=pU I.ag e;refine⟨dd.typeIs,λb q=>?_,hd⟩;cases q;obtain⟨ob,_,_,h1,h2,_⟩:=dd;exact⟨ob,h1,h2.2.1⟩
section
variable {X:Cx}{pins:b? (c_×J_)}{U:St}{H:Hp}{s:d_}{a:c_}{y d:V}{u r:b_}{o:f_ V}{A:B?}{E:b_->d_->Prop}
theorem U5 {Q:b_->d_->Prop}(hu:A.units+1<P?)(I:Inv X pins U H s)(g:mn H a y o)(ry:RelV y u)(rd:RelV d r)(h:∀w' s',Inv X pins U H s'->RelV (o.getD d) w'->Q w' s'):l_ (m_ X.prog X.w) A (Ħ (.builtin "dict.get") [.ref a,u,r]) Q E s:=by
 rcases g with⟨aa,k,e,ey,l⟩|⟨aa,k,b,e,ey,eb,l⟩
 .subst ey;obtain⟨z,hd,vs,rel,dd⟩:=pT I.ag e;refine ļ Ċ dd.typeIs Ŋ (Ŀ _ _ _) (meets_dict_get_default (qp X.prog X.w) a (pR ry) hd r) ⟨_,dd.mapOf,h _ _ (I.tok _) ?_⟩;rw[l];exact(rel.val k).getD rd
 .subst ey;cases(show u=o? b from ry);obtain⟨z,hd,xs,rel,dd⟩:=pU I.ag e;refine ļ Ċ dd.typeIs Ŋ (Ŀ _ _ _) (acG (Ł (qp X.prog X.w)) a b hd r) ⟨â hu,xa0 k xs ⟨kS I.ag eb,dd,h _ _ (I.tok _) ?_⟩⟩;rw[l];exact(rel.val k).getD rd
end
section
variable {B:Type}[İ B]
theorem Va {aa:b? (B×V)}{k:B}{v:V}(h:br aa k=some v):k∈aa.map (·.1):=by
 have q:(aa.any λkv=>p_ (kv.1=k))=true:=by rw[Ai,h];all_goals rfl
 obtain⟨p,hp,e⟩:=aep.mp q;exact O_.mpr ⟨p,hp,w? e⟩
end
noncomputable def cJ (scope:Xg)(env:š):b? (y_×c_):=(scope.names.filterMap λp=>if p.2=Ö then(env.cells.lookup p.1).map λc=>(p.1,c)else none).reverse
theorem uN {α:Type}{x:y_}{c:α}:∀{l:b? (y_×α)},l.lookup x=some c->(x,c)∈l
 |[],h=>by simp at h
 |(y,d)::r,h=>by
  rw[à]at h;cases e:x==y with
  |true=>rw[e]at h;have h':d=c:=o_ h;rw[h',ł e];exact t?
  |false=>rw[e]at h;exact u_ _ (uN h)
theorem L0 {α:Type}{x:y_}{c:α}:∀{l:b? (y_×α)},(x,c)∈l->∃d,l.lookup x=some d
 |[],h=>by simp at h
 | (y,d)::r,h=>by
  rw[à];cases e:x==y with
  |true=>exact⟨d,a_⟩
  |false=>
   rcases B_.mp h with z|z
   .have z1:x=y:=T_ Prod.fst z;rw[z1,ú]at e;cases e
   .exact L0 z
theorem D7 {scope:Xg}{env:š}{x:y_}{c:c_}:(x,c)∈cJ scope env↔(x,Ö)∈scope.names/\env.cells.lookup x=some c:=by
 unfold cJ;rw[b?.mem_reverse,aaP];constructor
 .rintro⟨⟨y,k⟩,hm,e⟩
  by_cases hk:k=Ö
  .subst hk;rw[j_ a_]at e;cases q:env.cells.lookup y with
   |none=>rw[q]at e;cases e
   |some d=>rw[q]at e;have e':(y,d)=(x,c):=o_ e;cases e';exact⟨hm,q⟩
  .rw[f? hk]at e;cases e
 .rintro⟨hm,q⟩
  exact⟨(x,Ö),hm,by rw[j_ a_];rw[q];rfl⟩
theorem jF {scope:Xg}{env:š}{x:y_}{c:c_}(h:(cJ scope env).lookup x=some c):env.cells.lookup x=some c:=(D7.mp (uN h)).2
theorem D8 {scope:Xg}{env:š}{x:y_}{c:c_}(hm:(x,Ö)∈scope.names)(h:env.cells.lookup x=some c):(cJ scope env).lookup x=some c:=by obtain⟨d,e⟩:=L0 (D7.mpr ⟨hm,h⟩);rw[e,<-h];exact(jF e).symm
theorem D9 {env:š}:∀(names:b? (y_×D?))(cs:b? (y_×c_)),(∀p∈names,p.2= .free->∃c,env.cells.lookup p.1=some c)->(forIn names cs λ(x:y_×D?)(cs:b? (y_×c_))=>(match x with
   |(name,kind)=>if(kind== .free)=true then(do let a<-adT env name;Ø (đ ((name,a)::cs)))else Ø (đ cs):Ģ (È (b? (y_×c_)))))
   =Ø ((names.filterMap λp=>if p.2=Ö then(env.cells.lookup p.1).map λc=>(p.1,c)else none).reverse++cs)
 |[],cs,_=>a_
 | (n,k)::r,cs,h=>by
  rw[Ż];have hr:∀p∈r,p.2= .free->∃c,env.cells.lookup p.1=some c:=λp hp=>h p (u_ _ hp);by_cases hk:k=Ö
  .subst hk;obtain⟨c,hc⟩:=h (n,.free) t? a_;have e1:adT env n=Ø c:=by unfold adT;rw[show env.cells.lookup n=some c from hc]
   show((do let a<-adT env n;Ø (đ ((n,a)::cs)):Ģ (È (b? (y_×c_)))) >>= _)=_;rw[e1];simp only[pure_bind];rw[D9 r ((n,c)::cs) hr,ě,j_ a_,show env.cells.lookup n=some c from hc];simp
  .have hb:(k==Ö)=false:=by simpa using hk
   show((if(k==Ö)=true then(do let a<-adT env n;Ø (đ ((n,a)::cs)))else Ø (đ cs):Ģ (È (b? (y_×c_)))) >>= _)=_;rw[hb,f? p?];simp only[pure_bind];rw[D9 r cs hr,ě,f? hk]
theorem Ma {scope:Xg}{env:š}(h:∀p∈scope.names,p.2= .free->∃c,env.cells.lookup p.1=some c):adS scope env=Ø (cJ scope env):=by have e:=D9 scope.names [] h;rw[å]at e;unfold adS cJ;simp only[bind_pure];exact e
theorem kh {env:š}{x:y_}:∀{names:b? (y_×D?)}{k:D?},(names.map λ(n,k)=>if(k==Ö&&env.scope.kind== .function&&env.kindOf n==some .cell)then(n,ğ)else(n,k)).lookup x=some k->∃k',(x,k')∈names/\(k'=k\/(k'= .free/\k= .cell))
 |[],_,h=>by simp at h
 | (n,j)::r,k,h=>by
  by_cases hc:(j==Ö&&env.scope.kind== .function&&env.kindOf n==some .cell)=true
  .rw[y?]at h;have h':ò x ((if(j==Ö&&env.scope.kind== .function&&env.kindOf n==some .cell)=true then(n,ğ)else(n,j))::_)=some k:=h;rw[j_ hc,à]at h';cases e:x==n with
   |true=>
    rw[e]at h';have h2:ğ=k:=o_ h';have hj:j=Ö:=by have:=hc;rw[M_,M_]at this;exact ł this.1.1
    exact⟨j,by rw[ł e];exact t?,.inr ⟨hj,h2.symm⟩⟩
   |false=>rw[e]at h';obtain⟨k',hm,q⟩:=kh h';exact⟨k',u_ _ hm,q⟩
  .rw[y?]at h;have h':ò x ((if(j==Ö&&env.scope.kind== .function&&env.kindOf n==some .cell)=true then(n,ğ)else(n,j))::_)=some k:=h;rw[f? hc,à]at h';cases e:x==n with
   |true=>rw[e]at h';exact⟨j,by rw[ł e];exact t?,.inl (o_ h')⟩
   |false=>rw[e]at h';obtain⟨k',hm,q⟩:=kh h';exact⟨k',u_ _ hm,q⟩
noncomputable def Mb (N:b? y_)(sc scope:Xg)(N':b? y_)(ix:b? (f_ j?)):s?:=scope.kind== .function&&scope.names.all (λy=>y.2 != .cell)&&scope.names.all (λy=>y.2 != .local||scope.names.lookup y.1==some .local)&&
 scope.names.all (λy=>y.2 != .free||sc.names.lookup y.1==some .cell||sc.names.lookup y.1==some .free)&&
 p_ (ix.length=N'.length)&&p_ N'.Nodup&&(N'.zip ix).all λp=>match p.2 with
  |none=>scope.names.all λy=>y.1 != p.1||y.2== .local
  |some k=>N[k]?==some p.1&&scope.names.lookup p.1==some .free&&scope.names.all λy=>y.1 != p.1||y.2== .free
structure jG (N:b? y_)(sc scope:Xg)(N':b? y_)(ix:b? (f_ j?)):Prop where
 kind:scope.kind= .function
 Mc:∀y∈scope.names,y.2≠.cell
 names:∀y∈scope.names,y.2= .local->scope.names.lookup y.1=some .local
 frees:∀y∈scope.names,y.2= .free->sc.names.lookup y.1=some .cell\/sc.names.lookup y.1=some .free
 len:ix.length=N'.length
 nd:N'.Nodup
 own:∀(i:j?)(x:y_),N'[i]?=some x->ix[i]?=some none->∀y∈scope.names,y.1=x->y.2= .local
 out:∀(i:j?)(x:y_)(k:j?),N'[i]?=some x->ix[i]?=some (some k)->N[k]?=some x/\(x,Ö)∈scope.names/\∀y∈scope.names,y.1=x->y.2= .free
theorem yg {N:b? y_}{sc scope:Xg}{N':b? y_}{ix:b? (f_ j?)}(h:Mb N sc scope N' ix=true):jG N sc scope N' ix:=by
 unfold Mb at h;simp only[M_,Ó,Ġ,aaS,Á,Ï,ne_eq]at h;obtain⟨⟨⟨⟨⟨⟨h1,h2⟩,h3⟩,h4⟩,h5⟩,h6⟩,h7⟩:=h;have nP:∀{i:j?}{x:y_}{o:f_ j?},N'[i]?=some x->ix[i]?=some o->(x,o)∈N'.zip ix:=λ{i x o} a b=>by refine r? (i:=i) ?_;rw[acf];exact⟨a,b⟩
 refine⟨h1,λy hy=>h2 y hy,λy hy e=>?_,λy hy e=>?_,h5,h6,λi x a b y hy e=>?_,λi x k a b=>?_⟩
 .rcases h3 y hy with z|z
  .exact v_ e z
  .exact z
 .rcases h4 y hy with(z|z)|z
  .exact v_ e z
  .exact .inl z
  .exact .inr z
 .have q:=h7 _ (nP a b);simp only[Ó,Ġ,aaS,Á,ne_eq]at q;rcases q y hy with z|z
  .exact v_ e z
  .exact z
 .have q:=h7 _ (nP a b);simp only[M_,Ó,Ġ,aaS,Á,ne_eq]at q;obtain⟨⟨q1,q2⟩,q3⟩:=q;refine⟨q1,uN q2,λy hy e=>?_⟩;rcases q3 y hy with z|z
  .exact v_ e z
  .exact z
noncomputable def iA (ix:b? (f_ j?))(U:St):St:=ix.map λo=>match o with
 |some k=>(U[k]?).join
 |none=>none
noncomputable def bT (X:Cx)(scope:Xg)(N':b? y_)(C:c_)(fp:b? c_)(ae:d_)(af:Hp):Cx:={X with N:=N',au:=ae,bC:=af,env:=adx scope (cJ scope X.env) C X.env,outer:=X.stack,stack:=X.stack,ex:=fp,fn:=λ_=>false,pn:=[],xe:=λ_ _=>v?}
noncomputable abbrev fe (its:b? b_)(n:j?):J_:={cls:=.type "list",data:=.seq its.toArray n}
section
variable {X:Cx}{scope:Xg}{N':b? y_}{ix:b? (f_ j?)}{C:c_}{fp:b? c_}{ae:d_}{af:Hp}{pins:b? (c_×J_)}{U:St}
theorem Md (I:Inv X pins U af ae){x:y_}{c:c_}(h:(cJ scope X.env).lookup x=some c):c<ae.heap.objs.size:=by obtain⟨v,q⟩:=I.cell x c (jF h);exact q.lt
theorem Vb (I:Inv X pins U af ae){b:c_}(h:ae.heap.objs.size<=b):b∉bu X.stack:=λz=>by
 rcases B_.mp (I.oX b z)with e|e
 .rw[e]at h;exact v_ (F? I.lt h) (ý _)
 .exact I.KC h e
end
structure kU (N:b? y_)(sc scope:Xg)(N':b? y_)(ix:b? (f_ j?))(ow:f_ y_):Prop where
 kind:scope.kind= .function
 one:scope.names.filter (λz=>z.2== .cell)=ow.toList.map λy=>(y,.cell)
 names:∀y∈scope.names,y.2= .local->scope.names.lookup y.1=some .local
 frees:∀y∈scope.names,y.2= .free->sc.names.lookup y.1=some .cell\/sc.names.lookup y.1=some .free
 nf:∀y,ow=some y->(y,Ö)∉scope.names
 len:ix.length=N'.length
 out:∀(i:j?)(x:y_)(k:j?),N'[i]?=some x->ix[i]?=some (some k)->N[k]?=some x/\(x,Ö)∈scope.names/\∀y∈scope.names,y.1=x->y.2= .free
theorem jG.g {N:b? y_}{sc scope:Xg}{N':b? y_}{ix:b? (f_ j?)}(co:jG N sc scope N' ix):kU N sc scope N' ix none:=⟨co.kind,b?.filter_eq_nil_iff.mpr λz hz e=>co.Mc z hz (ł e),co.names,co.frees,(λ_ z=>nomatch z),co.len,co.out⟩
theorem kU.cell {N:b? y_}{sc scope:Xg}{N':b? y_}{ix:b? (f_ j?)}{ow:f_ y_}{x:y_}(co:kU N sc scope N' ix ow)(h:(x,ğ)∈scope.names):ow=some x:=by have z:(x,ğ)∈scope.names.filter (λz=>z.2== .cell):=Č.mpr ⟨h,a_⟩;rw[co.one]at z;obtain⟨y,hy,e⟩:=O_.mp z;rw[<-(Ô e).1];exact f_.mem_toList.mp hy
theorem kU.own {N:b? y_}{sc scope:Xg}{N':b? y_}{ix:b? (f_ j?)}{ow:f_ y_}{y:y_}(co:kU N sc scope N' ix ow)(h:ow=some y):(y,ğ)∈scope.names:=by
 have z:(y,ğ)∈scope.names.filter (λz=>z.2== .cell):=by rw[co.one,h];exact t?
 exact(Č.mp z).1
noncomputable def own (ow:f_ y_)(C:c_):b? (y_×c_):=ow.toList.map λy=>(y,Ä C)
noncomputable def dz (X:Cx)(scope:Xg)(N':b? y_)(ow:f_ y_)(C:c_)(fp:b? c_)(ae:d_)(af:Hp):Cx:={X with N:=N',au:=ae,bC:=af,env:=adx scope (own ow C++cJ scope X.env) C X.env,outer:=X.stack,stack:=X.stack,ex:=fp,fn:=λz=>ow==some z,pn:=[],xe:=λ_ _=>v?}
section
variable {X:Cx}{scope:Xg}{N':b? y_}{ix:b? (f_ j?)}{ow:f_ y_}{C:c_}{fp:b? c_}{ae:d_}{af:Hp}{pins:b? (c_×J_)}{U:St}
theorem nQ {x:y_}{c:c_}(h:(own ow C++cJ scope X.env).lookup x=some c):(ow=some x/\@Eq j? c (Ä C))\/(cJ scope X.env).lookup x=some c:=by
 cases ow with
 |none=>exact .inr h
 |some y=>
  have h:((y,Ä C)::cJ scope X.env).lookup x=some c:=h;rw[à]at h;cases e:x==y with
  |true=>rw[e]at h;exact .inl ⟨by rw[ł e],(o_ h).symm⟩
  |false=>rw[e]at h;exact .inr h
theorem Me {x:y_}{c:c_}(n:ow≠some x)(h:(cJ scope X.env).lookup x=some c):(own ow C++cJ scope X.env).lookup x=some c:=by
 cases ow with
 |none=>exact h
 |some y=>show((y,Ä C)::cJ scope X.env).lookup x=some c;rw[à,Ê.mpr λz=>n (by rw[z])];exact h
theorem Mf (I:Inv X pins U af ae)(co:kU X.N X.env.scope scope N' ix ow)(hC:@LE.le j? _ ae.heap.objs.size C)(hf:∀b∈fp,eG X pins af b)(aA:∀b∈fp,b<ae.heap.objs.size):(dz X scope N' ow C fp ae af).Ok where
 mod:=I.ok.mod
 kind:=co.kind
 glob:=I.ok.glob
 blt:=I.ok.blt
 above:=hC
 inj:=λx z c e1 e2=>by
  have lt:∀{u:y_},(cJ scope X.env).lookup u=some c->@Ś j? _ c ae.heap.objs.size:=λh=>Md I h;rcases nQ e1 with⟨f1,q1⟩|f1<;>rcases nQ e2 with⟨f2,q2⟩|f2
  .exact o_ (f1.symm.trans f2)
  .have:=lt f2;have q:@Eq j? c (Ä C):=q1;lia
  .have:=lt f1;have q:@Eq j? c (Ä C):=q2;lia
  .exact I.ok.inj x z c (jF f1) (jF f2)
 has:=λx h=>by
  have h1:∃k,(aed scope X.env).names.lookup x=some k/\(k= .cell\/k= .free):=by
   rcases h with h|h
   .exact⟨_,h,.inl a_⟩
   .exact⟨_,h,.inr a_⟩
  obtain⟨k,h1,h2⟩:=h1;obtain⟨k',hm,q⟩:=kh h1;by_cases hx:ow=some x
  .refine⟨Ä C,?_⟩;show ò x (own ow C++cJ scope X.env)=_;rw[hx];show ò x ((x,Ä C)::cJ scope X.env)=_;rw[à,ú]
  have hk:k'= .free:=by
   rcases q with q|⟨q,_⟩
   .rcases h2 with z|z
    .exact v_ (co.cell (by rw[<-z,<-q];exact hm)) hx
    .exact q.trans z
   .exact q
  rw[hk]at hm;obtain⟨c,hc⟩:=I.ok.has x (co.frees _ hm a_);exact⟨c,Me hx (D8 hm hc)⟩
 oV:=λx c h e=>by
  rcases nQ e with⟨_,q⟩|f
  .have q':@Eq j? c (Ä C):=q;show@LE.le j? _ ae.heap.objs.size c;lia
  .exact v_ (D7.mp (uN f)).1 (co.nf x (ł (show(ow==some x)=true from h)))
 hd:=I.ok.hd
 frames:=I.ok.frames
 dy:=.inl a_
 zB:=λb hb=>⟨N? (F? (aA b hb) hC),λx c e=>(nQ e).elim (λq=>by have q':@Eq j? c (Ä C):=q.2;have:@Ś j? _ b ae.heap.objs.size:=aA b hb;show¬@Eq j? c b;lia) λf=>(hf b hb).2.2.2.2.1 x c (jF f)⟩
 bs:=I.bs
 kG:=K? I.ok.kG I.sz
 oW:=λb o e hb=>by
  rcases(hf b hb).2.2.2.1 with z|z
  .exact I.ok.oW b o e z
  .exact v_ (F? (u? (I.ok.bs b o e).1) z) (ý _)
 rJ:=λb hb z=>by
  rcases B_.mp (I.oX b z)with e|e
  .exact(hf b hb).2.1 e
  .exact(hf b hb).2.2.1 e
 fP:=I.stack
 i5:=I.zC
theorem Vc (I:Inv X pins U af ae)(co:kU X.N X.env.scope scope N' ix ow){D:c_}{h₁:k_}{t':j?}(hD:@Eq j? D ae.heap.objs.size)(hC:@Eq j? C (ae.heap.objs.size+1))(hf:∀b∈fp,eG X pins af b)(aA:∀b∈fp,b<ae.heap.objs.size)(old:∀b o,ae.heap.get? b=some o->h₁.get? b=some o)(fg:h₁.get? D=some (fe [] 0)){m:y_->f_ b_}(rY:h₁.Ns C m)(uO:ow≠none->h₁.IsCell (Ä C) none):
  Inv (dz X scope N' ow C fp ae af) [(D,fe [] 0)] (iA ix U) af {ae with heap:=h₁,toks:=t'} where
 ok:=Mf I co (by lia) hf aA
 os:=a_
 bare:=I.bare
 base:=Un.kept old
 loc :=by
  refine⟨m,rY,λi x v e1 e2 e3=>?_⟩;unfold iA at e2;rw[J']at e2;cases q:ix[i]? with
  |none=>rw[q]at e2;cases e2
  | some o=>
   rw[q]at e2;cases o with
   |none=>cases e2
   | some k=>
    have gW:(U[k]?).join=some v:=o_ e2;have pW:U[k]?=some (some v):=by
     cases z:U[k]? with
     |none=>rw[z]at gW;cases gW
     |some o=>rw[z]at gW;exact T_ some gW
    obtain⟨o1,o2,o3⟩:=co.out i x k e1 q;have hk:X.env.kindOf x=some .cell\/X.env.kindOf x=some .free:=co.frees _ o2 a_;have Vd:tQ X.env.scope x:=.inr hk;obtain⟨m0,_,hl⟩:=I.loc;obtain⟨u,r,l⟩:=hl k x v o1 pW Vd;refine⟨u,r,?_⟩;rcases l with⟨l,_⟩|⟨_,c,ec,dM⟩
    .rcases hk with z|z
     .rw[z]at l;cases l
     .rw[z]at l;cases l
    .refine .inr ⟨?_,c,Me (λz=>by have:=o3 _ (co.own z) a_;cases this) (D8 o2 ec),?_⟩
     .rcases e3 with z|z|z
      .obtain⟨k',hm,q⟩:=kh z;rcases q with q|⟨_,q⟩
       .have:=o3 _ hm a_;rw[show k'=D?.local from q]at this;cases this
       .cases q
      .exact .inl z
      .exact .inr z
     .obtain⟨o,ho,hd⟩:=dM;exact⟨o,old _ _ ho,hd⟩
 cell:=λx c e=>by
  rcases nQ e with⟨w,q⟩|f
  .rw[show c=Ä C from q];exact⟨_,uO (by rw[w];intro z;cases z)⟩
  obtain⟨v,o,ho,hd⟩:=I.cell x c (jF f);exact(xa0 v o ⟨old _ _ ho,hd⟩)
 free:=I.ag.fresh (by show@LE.le j? _ ae.heap.objs.size C;lia)
 dW:=λx c e=>(nQ e).elim (λq=>I.ag.fresh (by have q':@Eq j? c (Ä C):=q.2;show@LE.le j? _ ae.heap.objs.size c;lia)) λf=>I.dW x c (jF f)
 pin:=λp hp=>by
  have e:p=(D,fe [] 0):=by simpa[dz]using hp
  subst e;refine⟨fg,I.ag.fresh (by show@LE.le j? _ ae.heap.objs.size D;lia),by show¬@Eq j? D C;lia,Vb I (by show@LE.le j? _ ae.heap.objs.size D;lia),λv z=>?_⟩;have z':Data.seq _ _=Data.cell v:=z;cases z'
 ag:=I.ag.kept old
 len:=by unfold iA;rw[i?];exact co.len
theorem Ve (I:Inv X pins U af ae){D:c_}(hD:@Eq j? D ae.heap.objs.size)(hf:∀b∈fp,eG X pins af b){ys:b? V}{its:b? b_}{n:j?}{U':St}{H':Hp}{s':d_}(I':Inv (dz X scope N' ow C fp ae af) [(D,fe its n)] U' H' s')(hv:Vals ys its)(hz:ys.length<=k?):Inv X pins U (upd H' D (.lst ys)) s':=by
 obtain⟨dp,dn,_,_,_⟩:=I'.pin (D,fe its n) (by simp);have Vf:s'.heap.get? D=some (fe its n):=dp;have Mg:H' D=none:=dn;have u:=I'.base;have ne:∀b o,ae.heap.get? b=some o->b≠D:=λb o e z=>by have h1:@Ś j? _ b ae.heap.objs.size:=u? e;have h2:@Eq j? b D:=z;lia
 have nU:∀b o,af b=some o->b≠D:=λb o e z=>by have h1:@Ś j? _ b ae.heap.objs.size:=I.ag.lt e;have h2:@Eq j? b D:=z;lia
 refine I.Dr (ch:=fp) I'.os ⟨u.keep,u.slot,λb o e q hb=>?_,u.there,λb xs q=>?_,λb o xs q=>?_,λb ps q=>?_⟩ (λb o e=>?_) I'.bare λb hb=>?_
 .rw[jd (ne b o e)];exact u.free b o e q hb
 .rw[jd (nU b _ q)];exact u.cj b xs q
 .rw[jd (nU b _ q)];exact u.dU b o xs q
 .rw[jd (nU b _ q)];exact u.eU b ps q
 .by_cases hb:b=D
  .subst hb;rw[ja]at e;cases e;exact⟨hz,xa0 its n ⟨hv,Vf⟩⟩
  .rw[jd hb]at e;exact(I'.ag b o e).dh (λc v _ q=>q) (λc q=>by rw[jd (jh q Mg)];exact q) λc xs q=>by rw[jd (jh q Mg)];exact q
 .obtain⟨_,f1,_,f3,f4,f5⟩:=hf b hb;exact⟨f3,f1,f4,f5⟩
end
section
variable {X:Cx}{scope:Xg}{N':b? y_}{ix:b? (f_ j?)}{C:c_}{fp:b? c_}{ae:d_}{af:Hp}{pins:b? (c_×J_)}{U:St}
theorem Vg (I:Inv X pins U af ae)(co:jG X.N X.env.scope scope N' ix)(hC:@LE.le j? _ ae.heap.objs.size C)(hf:∀b∈fp,eG X pins af b)(aA:∀b∈fp,b<ae.heap.objs.size):(bT X scope N' C fp ae af).Ok:=Mf (ow:=none) I co.g hC hf aA
end
noncomputable abbrev eK:b_->d_->Prop:=λ_ _=>v?
section
variable {prog:n_}{w:z?}{A:B?}{R:ş->d_->Prop}{s:d_}
theorem Vh {elt target iter:G?}{ifs:b? G?}{scope:Xg}{pos:Ī}{it acc:b_}{env:š}(I:j?->d_->Prop)(turn:∀n s,I n s->l_ (m_ prog w) A (Ŵ it) (λr aj=>match r with
   |none=>R (.ok .next) aj
   |some v=>l_ (m_ prog w) A (Ķ target it v) (λ_ aj=>l_ (m_ prog w) A (aap target env v) (λ_ ae=>l_ (m_ prog w) A (forIn ifs true λc r=>if r=true then do let ok<-abY c env (T? c env);Ø (đ ok)else Ø (đ r)) (λok aT=>if ok=true then l_ (m_ prog w) A (T? elt env) (λx cQ=>l_ (m_ prog w) A (Ħ (.builtin "list.append") [acc,x]) (λ_ jH=>∃m,m<n/\I m jH) eK cQ) eK aT
      else ∃m,m<n/\I m aT) eK ae) eK aj) eK aj) eK s)(n:j?)(h:I n s):Ð (m_ prog w) A (.compLoop (.ListComp elt [⟨target,iter,ifs,0⟩] scope pos) 0 it acc env) R s:=by
 refine ac2 a_ I (λn s hI=>?_) n h;show l_ _ A ((compTurn (.ListComp elt [⟨target,iter,ifs,0⟩] scope pos) 0 it acc env).onRaise (λx=>do acF x env;aeR x)) _ _ s;refine wpAny_noted ?_;rw[compTurn_list];refine d? (Õ (d? (F' (turn n s hI) (λr aj h₁=>?_) λ_ _ h'=>h'.elim)));cases r with
 |none=>exact h_ h₁
 |some v=>
  refine d? (F' h₁ (λ_ aj h₁=>?_) λ_ _ h'=>h'.elim);refine d? (F' h₁ (λ_ ae bQ=>d? (F' bQ (λok aT gE=>?_) λ_ _ h'=>h'.elim)) λ_ _ h'=>h'.elim);cases ok with
  |false=>exact h_ ⟨a_,gE⟩
  |true=>exact d? (d? (F' gE (λx cQ cR=>d? (F' cR (λ_ jH bp=>h_ (h_ ⟨a_,bp⟩)) λ_ _ h'=>h'.elim)) λ_ _ h'=>h'.elim))
end
noncomputable def mq (X:Cx)(ifs:b? G?)(t:TT):Prop:=∀(pins:b? (c_×J_))(s:d_)(U:St)(H:Hp)(Q:s?->Hp->Prop),Inv X pins U H s->t U H Q->l_ (m_ X.prog X.w) X.A (forIn ifs true λc r=>if r=true then do let ok<-abY c X.env (T? c X.env);Ø (đ ok)else Ø (đ r)) (TP X pins U Q) X.xe s
noncomputable def pX:TT:=λ_ H Q=>Q true H
theorem sf {X:Cx}:mq X [] pX:=λ_ _ _ H _ I h=>wpAny_tests_nil ⟨H,I,h⟩
theorem nW {X:Cx}{c:G?}{t:TT}(h:PT X c t):mq X [c] t:=λpins s U H Q I q=>wpAny_tests_one (h pins s U H Q I q)
theorem Mh:∀(names:b? (y_×D?))(n:j?)(acc:b? (y_×c_))(h:k_),names.filter (λz=>z.2== .cell)=[]->ū n names acc=acc/\abt h names=h:=λnames=>by
 induction names with
 |nil=>exact λ_ _ _ _=>⟨a_,a_⟩
 | cons p r ih=>
  intro n acc h e;obtain⟨x,k⟩:=p;have hk:(k==ğ)=false:=by
   cases q:(k==ğ)with
   |false=>rfl
   |true=>rw[acB (by exact q)]at e;cases e
  rw[acC (by rw[show((x,k):y_×D?).2=k from a_,hk];decide)]at e;unfold ū abt;rw[hk,f? p?,f? p?];exact ih n acc h e
theorem Mi {ow:f_ y_}:∀(names:b? (y_×D?))(n:j?)(acc:b? (y_×c_))(h:k_),h.objs.size=n->names.filter (λz=>z.2== .cell)=(ow.toList.map λy=>(y,.cell))->ū n names acc=(ow.toList.map λy=>(y,n))++acc/\(∀b o,h.get? b=some o->(abt h names).get? b=some o)/\(ow≠none->(abt h names).IsCell n none)
 |[],n,acc,h,hn,e=>by
  cases ow with
  |none=>exact⟨a_,λ_ _ z=>z,λz=>v_ a_ z⟩
  |some y=>cases e
 | (x,k)::r,n,acc,h,hn,e=>by
  unfold ū abt;cases q:(k==ğ)with
  |true=>
   rw[acB (by exact q)]at e;cases ow with
   |none=>cases e
   |some y=>obtain⟨e1,e2⟩:=Ĵ e;rw[j_ a_,j_ a_,(Ô e1).1,(Mh r _ _ h e2).1,(Mh r 0 acc _ e2).2];refine⟨a_,λb o e=>g_ _ e,λ_=>⟨{cls:=.type "cell",data:=.cell none},?_,a_⟩⟩;rw[<-hn];exact x? _ a_
  |false=>rw[acC (by rw[show((x,k):y_×D?).2=k from a_,q];decide)]at e;rw[f? p?,f? p?];exact Mi r n acc h hn e
theorem Vi {M:aaJ}{A:B?}{E:b_->d_->Prop}{s:d_}{scope:Xg}{globals:c_}{cl:b? (y_×c_)}{qual:y_}{ow:f_ y_}{env:š}{Q:š->d_->Prop}(hc:scope.names.filter (λz=>z.2== .cell)=ow.toList.map λy=>(y,.cell))(hQ:∀h',h'.Ns s.heap.objs.size (λ_=>none)->(ow≠none->h'.IsCell (s.heap.objs.size+1) none)->(∀b o,s.heap.get? b=some o->h'.get? b=some o)->Q (newEnv scope s.heap.objs.size globals (own ow s.heap.objs.size++cl) qual none .none (some env) ab5) {s with heap:=h'}):
  l_ M A (ņ scope globals cl [] qual none .none (some env)) Q E s:=by
 simp only[ņ,ael,acW];refine d? (wpAny_alloc (d? (wpAny_layCells _ (λname kind cells=>by cases q:kind==ğ<;>simp[q]) _ _ _ _ ?_)));have sz:(s.heap.push {cls:=.type "dict",data:=.dict #[]}).objs.size=s.heap.objs.size+1:=ď ..;obtain⟨e1,kp,uO⟩:=Mi (ow:=ow) scope.names (s.heap.objs.size+1) cl (s.heap.push {cls:=.type "dict",data:=.dict #[]}) sz hc;show l_ M A _ Q E _;rw[show({s with heap:=s.heap.push {cls:=.type "dict",data:=.dict #[]}}:d_).heap.objs.size=s.heap.objs.size+1 from sz,e1];refine d? (h_ (h_ ?_));exact hQ _ ((k_.Ns.new s.heap (.type "dict")).keeps kp) uO λb o e=>kp b o (g_ _ e)
noncomputable def uP (Q:VK)(ys:b? V)(H:Hp):Prop:=∀p,H p=none->Q (.ref p) (upd H p (.lst ys))
noncomputable def Ea (ix:b? (f_ j?))(wi:TI)(g:TG)(ti:TT)(te:TE):TE:=λ U H Q=>wi U H λJ H1=>∃W:j?->j?->b? V->St->Hp->Prop,(∃m,W 0 m [] (iA ix U) H1)/\∀i m ys U H,W i m ys U H->ys.length<=k?/\((J.stop i H/\uP Q ys H)\/(J.go i H/\∃N:b? V->St->Hp->Prop,(∀ba U' H',N ba U' H'->∃m',m'<m/\W (i+1) m' ba U' H')/\∀x H',J.eF i H x H'->g x U H' λ U2 H2=>ti U2 H2 λb H3=>if b=true then te U2 H3 λy H4=>N (ys++[y]) U2 H4 else N ys U2 H3))
structure si (X:Cx)(pins:b? (c_×J_))(H:Hp)(s:d_)(C:c_):Prop where
 ns:∃m,s.heap.Ns C m
 fr:H C=none
 nl:C≠X.env.locals
 ab:X.au.heap.objs.size<=C
 nc:∀x c,X.env.cells.lookup x=some c->c≠C
 np:∀p∈X.pn++pins,p.1≠C
section
variable {X:Cx}
theorem Mj {scope:Xg}{N':b? y_}{ow:f_ y_}{ix:b? (f_ j?)}{pins:b? (c_×J_)}{U:St}{tg iter elt:G?}{ifs:b? G?}{pos:Ī}{g:TG}{ti:TT}{te:TE}{E:b_->d_->Prop}(co:kU X.N X.env.scope scope N' ix ow)(hc:X.calm=true)(hg:∀C fp ae af,PG (dz X scope N' ow C fp ae af) tg g)(hi:∀C fp ae af,mq (dz X scope N' ow C fp ae af) ifs ti)(he:∀C fp ae af,PE (dz X scope N' ow C fp ae af) elt te){af:Hp}{ae:d_}{J:It}{fp:b? c_}{it:c_}{tn:j?->k_->Prop}{QF:b? V->Hp->Prop}(I:Inv X pins U af ae)(T:Turn X.prog X.w X.K tg J fp it tn)(st:tn 0 ae.heap)(hf:∀b∈fp,eG X pins af b){W:j?->j?->b? V->St->Hp->Prop}(w0:∃m,W 0 m [] (iA ix U) af)(hW:∀i m ys U H,W i m ys U H->ys.length<=k?/\((J.stop i H/\QF ys H)\/(J.go i H/\∃N:b? V->St->Hp->Prop,(∀ba U' H',N ba U' H'->∃m',m'<m/\W (i+1) m' ba U' H')/\∀x H',J.eF i H x H'->g x U H' λ U2 H2=>ti U2 H2 λb H3=>if b=true then te U2 H3 λy H4=>N (ys++[y]) U2 H4 else N ys U2 H3))){RR:b_->c_->ş->d_->Prop}(uQ:∀D C ys H' s',Inv X pins U (upd H' D (.lst ys)) s'->H' D=none->QF ys H'->si X pins (upd H' D (.lst ys)) s' C->RR (.ref D) C (.ok .next) s'):
  l_ (m_ X.prog X.w) X.A (newList []) (λacc aT=>l_ (m_ X.prog X.w) X.A (ņ scope X.env.globals (cJ scope X.env) [] X.env.qual none .none (some X.env)) (λfh cQ=>Ð (m_ X.prog X.w) X.A (.compStart (.ListComp elt [⟨tg,iter,ifs,0⟩] scope pos) 0 (.ref it) acc {fh with scope:=aed scope X.env}) (RR acc fh.locals) cQ) E aT) E ae:=by
 have aA:∀b∈fp,@Ś j? _ b ae.heap.objs.size:=λb hb=>by obtain⟨o,e,_⟩:=T.obj _ _ st b hb;exact u? e
 refine î (Vi co.one λh₁ bR dZ cK=>?_);dsimp only at bR dZ cK⊢;generalize sj:ae.heap.push {cls:=.type "list",dict:=none,data:=.seq ([]:b? b_).toArray}=H2 at bR dZ cK⊢;have hC:@Eq j? H2.objs.size (ae.heap.objs.size+1):=by rw[<-sj,ď]
 have below:∀b:j?,b<ae.heap.objs.size->¬@Eq j? b H2.objs.size:=λb hb=>by lia
 have Eb:¬@Eq j? ae.heap.objs.size H2.objs.size:=by lia
 have old:∀b o,ae.heap.get? b=some o->h₁.get? b=some o:=λb o e=>cK b o (sj ▸ g_ _ e);have fg:h₁.get? ae.heap.objs.size=some (fe [] 0):=cK _ _ (sj ▸ x? _ a_);have fj:tn 0 h₁:=T.keep _ _ _ st λb _ o e=>old b o e;generalize Ec:H2.objs.size=C at bR dZ hC below Eb⊢;generalize Ml:ae.heap.objs.size=D at fg Eb⊢;have loop:∀aT:d_,aT={ae with heap:=h₁}->Ð (m_ X.prog X.w) X.A (.compLoop (.ListComp elt [⟨tg,iter,ifs,0⟩] scope pos) 0 (.ref it) (.ref D) (adx scope (own ow C++cJ scope X.env) C X.env)) (RR (.ref D) C) aT:=by
  rintro aT rfl
  obtain⟨m0,w0⟩:=w0;have I3:Inv (dz X scope N' ow C fp ae af) [(D,fe [] 0)] (iA ix U) af {ae with heap:=h₁}:=Vc I co Ml.symm hC hf aA old fg bR dZ;refine Vh (λk s'=>∃i ys its n U' H',Inv (dz X scope N' ow C fp ae af) [(D,fe its n)] U' H' s'/\Vals ys its/\tn i s'.heap/\(∀b∈fp,H' b=none)/\W i k ys U' H') ?_ m0 (xa5 0 [] [] 0 _ _ ⟨I3,.nil,fj,λb hb=>(hf b hb).1,w0⟩)
  rintro k s' ⟨i,ys,its,n,U',H',I',hv,bG,pY,w'⟩
  have gF:∀{H':Hp}{o:J_},(∀b∈fp,H' b=none)->∀b∈fp,eG (dz X scope N' ow C fp ae af) [(D,o)] H' b:=λ{H' o} hn b hb=>by
   refine⟨hn b hb,below b (aA b hb),λz=>?_,.inl hb,λx c e=>(nQ e).elim (λq=>by have q':@Eq j? c (Ä C):=q.2;have:@Ś j? _ b ae.heap.objs.size:=aA b hb;show¬@Eq j? c b;lia) λf=>(hf b hb).2.2.2.2.1 x c (jF f),λp hp z=>?_⟩
   .rcases B_.mp (I.oX b z)with e|e
    .exact(hf b hb).2.1 e
    .exact(hf b hb).2.2.1 e
   .have e:p=(D,o):=by simpa[dz]using hp
    subst e;have z':@Eq j? D b:=z;have z2:=aA b hb;lia
  obtain⟨hz,Vj⟩:=hW i k ys U' H' w';rcases Vj with⟨stop,q⟩|⟨go,N,hN,step⟩
  .refine ai (T.done (dz X scope N' ow C fp ae af) a_ a_ a_ hc i _ s' U' H' eK I' (gF pY) bG stop) λr s4 ⟨hr,I4⟩=>?_;subst hr;obtain⟨_,dn,_⟩:=I4.pin (D,fe its n) (by simp);have cf:H' C=none:=I4.free;refine uQ D C ys H' s4 (Ve I Ml.symm hf I4 hv hz) dn q ⟨?_,by rw[jd (Í Eb)];exact cf,?_,?_,λx c e=>?_,λp hp=>?_⟩
   .obtain⟨m,hn,_⟩:=I4.loc;exact⟨m,hn⟩
   .have z:@Ś j? _ X.env.locals ae.heap.objs.size:=I.lt;show¬@Eq j? C X.env.locals;lia
   .have z:@LE.le j? _ X.au.heap.objs.size ae.heap.objs.size:=I.sz;show@LE.le j? _ X.au.heap.objs.size C;lia
   .obtain⟨v,z⟩:=I.cell x c e;have z2:@Ś j? _ c ae.heap.objs.size:=z.lt;show¬@Eq j? c C;lia
   .have z2:@Ś j? _ p.1 ae.heap.objs.size:=u? (I.pin p hp).1;show¬@Eq j? p.1 C;lia
  .refine ai (T.item (dz X scope N' ow C fp ae af) a_ a_ a_ hc i _ s' U' H' eK I' (gF pY) bG go) λr s4 zQ=>?_;obtain⟨u,hr,h4⟩:=zQ;subst hr;refine ai h4 λ_ s5 zQ=>?_;obtain⟨x,H5,I5,r5,y5,iq,tU⟩:=zQ;have tV:=I5.pinned (gF tU) (T.obj _ _ iq);refine ai (hg C fp ae af _ s5 U' H5 x u _ tV r5 (step x H5 y5)) λ_ s6 zQ=>?_;obtain⟨U6,H6,I6,q6⟩:=zQ;refine ai (hi C fp ae af _ s6 U6 H6 _ I6 q6) λok s7 zQ=>?_;obtain⟨H7,I7,q7⟩:=zQ;have gG:∀{U8:St}{H8:Hp}{s8:d_},Inv (dz X scope N' ow C fp ae af) ([(D,fe its n)]++lX fp s5.heap) U8 H8 s8->∀b∈fp,∀o,s5.heap.get? b=some o->s8.heap.get? b=some o/\H8 b=none:=λ{U8 H8 s8} I8 b hb o e=>by
    have z:=I8.pin (b,o) (C_ _ (C_ _ (zO hb e)));exact⟨z.1,z.2.1⟩
   cases ok with
   |false=>
    have gH:N ys U6 H7:=by have gH:=q7;rw[f? p?]at gH;exact gH
    obtain⟨m',hm,w7⟩:=hN _ _ _ gH;refine⟨m',hm,xa5 (i+1) ys its n U6 H7 ⟨I7.tT,hv,T.keep _ _ _ iq λb hb o e=>(gG I7 b hb o e).1,λb hb=>?_,w7⟩⟩;obtain⟨o,e,_⟩:=T.obj _ _ iq b hb;exact(gG I7 b hb o e).2
   | true=>
    have gH:te U6 H7 λy H4=>N (ys++[y]) U6 H4:=by have gH:=q7;rw[j_ a_]at gH;exact gH
    show l_ _ _ _ _ _ _;refine ai (he C fp ae af _ s7 U6 H7 _ I7 gH) λyv s8 zQ=>?_;obtain⟨y,H8,I8,r8,q8⟩:=zQ;obtain⟨m',hm,w8⟩:=hN _ _ _ q8;obtain⟨z1,z2,z3,z4,z5⟩:=I8.pin (D,fe its n) (by simp);have zD:s8.heap.get? D=some (fe its n):=z1;have uR:=hv.length;refine append_at (hsz:=by rw[D'];lia) zD λh9 Mm Vl=>?_;have Vm:Inv (dz X scope N' ow C fp ae af) (lX fp s5.heap) U6 H8 s8:=I8.zE λp hp=>I8.pin p (C_ _ (C_ _ hp));have I9:Inv (dz X scope N' ow C fp ae af) (lX fp s5.heap) U6 H8 {s8 with heap:=h9}:=Vm.turned (it:=D) (t':=s8.toks) (λb o hb e=>(Mm.2 b hb).trans e) z2 z3 (.inr (by show ae.heap.objs.size<=D;lia)) (λx c e=>(nQ e).elim (λq=>by have q':@Eq j? c (Ä C):=q.2;show¬@Eq j? c D;lia) λf=>by have z:@Ś j? _ c ae.heap.objs.size:=Md (scope:=scope) I f;show¬@Eq j? c D;lia) (λp hp=>by
      have mr:p∈lX fp s5.heap:=by simpa[dz]using hp
      have z:=aA _ (K3 mr).1;show¬@Eq j? p.1 D;lia);have Ed:h9.get? D=some (fe (its++[yv]) (n+1)):=by
     rw[Vl];simp[fe]
    have bN:Inv (dz X scope N' ow C fp ae af) [(D,fe (its++[yv]) (n+1))] U6 H8 {s8 with heap:=h9}:=I9.zE λp hp=>by
     have e:p=(D,fe (its++[yv]) (n+1)):=by simpa using hp
     subst e;refine⟨Ed,z2,z3,z4,λv z=>?_⟩;have z':Data.seq _ _=Data.cell v:=z;cases z'
    refine⟨m',hm,xa5 (i+1) (ys++[y]) (its++[yv]) (n+1) U6 H8 ⟨bN,hv.append (.cons r8 .nil),T.keep _ _ _ iq λb hb o e=>?_,λb hb=>?_,w8⟩⟩
    .have Vn:b≠D:=by
      have z:=aA b hb;show¬@Eq j? b D;lia
     exact(Mm.2 b Vn).trans (gG I8 b hb o e).1
    .obtain⟨o,e,_⟩:=T.obj _ _ iq b hb;exact(gG I8 b hb o e).2
 exact codeAny_compStart_list (loop _ a_) (T.self _ 0 _ _ _ fj (loop _ a_))
theorem Mn {scope:Xg}{N':b? y_}{ix:b? (f_ j?)}{pins:b? (c_×J_)}{U:St}{tg iter elt:G?}{ifs:b? G?}{pos:Ī}{g:TG}{ti:TT}{te:TE}{E:b_->d_->Prop}(co:jG X.N X.env.scope scope N' ix)(hc:X.calm=true)(hg:∀C fp ae af,PG (bT X scope N' C fp ae af) tg g)(hi:∀C fp ae af,mq (bT X scope N' C fp ae af) ifs ti)(he:∀C fp ae af,PE (bT X scope N' C fp ae af) elt te){af:Hp}{ae:d_}{J:It}{fp:b? c_}{it:c_}{tn:j?->k_->Prop}{QF:b? V->Hp->Prop}(I:Inv X pins U af ae)(T:Turn X.prog X.w X.K tg J fp it tn)(st:tn 0 ae.heap)(hf:∀b∈fp,eG X pins af b){W:j?->j?->b? V->St->Hp->Prop}(w0:∃m,W 0 m [] (iA ix U) af)(hW:∀i m ys U H,W i m ys U H->ys.length<=k?/\((J.stop i H/\QF ys H)\/(J.go i H/\∃N:b? V->St->Hp->Prop,(∀ba U' H',N ba U' H'->∃m',m'<m/\W (i+1) m' ba U' H')/\∀x H',J.eF i H x H'->g x U H' λ U2 H2=>ti U2 H2 λb H3=>if b=true then te U2 H3 λy H4=>N (ys++[y]) U2 H4 else N ys U2 H3))){RR:b_->c_->ş->d_->Prop}(uQ:∀D C ys H' s',Inv X pins U (upd H' D (.lst ys)) s'->H' D=none->QF ys H'->si X pins (upd H' D (.lst ys)) s' C->RR (.ref D) C (.ok .next) s'):
  l_ (m_ X.prog X.w) X.A (newList []) (λacc aT=>l_ (m_ X.prog X.w) X.A (ņ scope X.env.globals (cJ scope X.env) [] X.env.qual none .none (some X.env)) (λfh cQ=>Ð (m_ X.prog X.w) X.A (.compStart (.ListComp elt [⟨tg,iter,ifs,0⟩] scope pos) 0 (.ref it) acc {fh with scope:=aed scope X.env}) (RR acc fh.locals) cQ) E aT) E ae:=Mj (ow:=none) co.g hc hg hi he I T st hf w0 hW uQ
theorem si.go {pins:b? (c_×J_)}{U:St}{H:Hp}{s:d_}{C:c_}{h':k_}(G:si X pins H s C)(I:Inv X pins U H s)(hs:F_ C s.heap h'):Inv X pins U H {s with heap:=h'}:=I.turned (it:=C) (t':=s.toks) (λb o hb e=>(hs.2 b hb).trans e) G.fr G.nl (.inr G.ab) G.nc G.np
variable {scope:Xg}{N':b? y_}{ix:b? (f_ j?)}{tg iter elt:G?}{ifs:b? G?}{pos:Ī}{wi:TI}{g:TG}{ti:TT}{te:TE}
theorem Ee (co:jG X.N X.env.scope scope N' ix){pins:b? (c_×J_)}{U:St}{H:Hp}{s:d_}(I:Inv X pins U H s):adS scope X.env=Ø (cJ scope X.env):=Ma λp hp e=>I.ok.has p.1 (co.frees p hp e)
theorem jI (co:jG X.N X.env.scope scope N' ix)(hc:X.calm=true)(hit:PI X tg iter wi)(hg:∀C fp ae af,PG (bT X scope N' C fp ae af) tg g)(hi:∀C fp ae af,mq (bT X scope N' C fp ae af) ifs ti)(he:∀C fp ae af,PE (bT X scope N' C fp ae af) elt te)(hs:e_ (∀x,Ĕ iter X.env x=Ø x) aP3):
  PE X (.ListComp elt [⟨tg,iter,ifs,0⟩] scope pos) (Ea ix wi g ti te):=by
 intro pins s U H Q I h;rw[afN];refine Ă (use:=none) a_ hs (Ee co I) co.kind co.names (ai (hit pins s U H _ I h) λxv aj h₁=>ai h₁ λrN ae bQ=>?_);obtain⟨it,fp,tn,J,af,e,dA,T,st,hf,W,w0,hW⟩:=bQ;subst e;refine Mn co hc hg hi he dA T st hf w0 hW (RR:=λacc C=>adw (m_ X.prog X.w) X.A X.xe none (EP X pins U Q) acc C) λD C ys H' s' I' dn q G=>?_;obtain⟨m,hn⟩:=G.ns;exact⟨m,hn,λh' iB=>(xa0 (.ref D) _ ⟨G.go I' iB,a_,q D dn⟩)⟩
theorem Vo {i:j?}{y:y_}{py uT:Ī}(hN:X.N.Nodup)(Vp:X.N[i]?=some y)(hy:X.env.scope.names.lookup y=some .local)(co:jG X.N X.env.scope scope N' ix)(hc:X.calm=true)(hit:PI X tg iter wi)(hg:∀C fp ae af,PG (bT X scope N' C fp ae af) tg g)(hi:∀C fp ae af,mq (bT X scope N' C fp ae af) ifs ti)(he:∀C fp ae af,PE (bT X scope N' C fp ae af) elt te)(hs:e_ (∀x,Ĕ iter X.env x=Ø x) aP3)(Vq:e_ (ŧ (.ListComp elt [⟨tg,iter,ifs,0⟩] scope pos) (some (.Name y py)) uT.line X.env=Ø true) aP1):
  PS X (.Assign [.Name y py] (.ListComp elt [⟨tg,iter,ifs,0⟩] scope pos) uT) (Dw (Ea ix wi g ti te) (ip i)):=by
 intro pins s U H D I h;rw[exec_Assign_Name_used _ _ _ _ Vq];refine d? (Õ (d? ?_));show l_ _ X.A (do let _<-afO (.ListComp elt [⟨tg,iter,ifs,0⟩] scope pos) scope X.env _ (newList []) false (T? iter X.env) (some (aap (.Name y py) X.env))) _ _ s;refine d? (F' (Ă (use:=some (aap (.Name y py) X.env)) (Q:=λ_ s'=>SP X pins D .next s') a_ hs (Ee co I) co.kind co.names (ai (hit pins s U H _ I h) λxv aj h₁=>ai h₁ λrN ae bQ=>?_)) (λ_ s' hq=>h_ (h_ hq)) λ_ _ e=>e);obtain⟨it,fp,tn,J,af,e,dA,T,st,hf,W,w0,hW⟩:=bQ;subst e;refine Mn co hc hg hi he dA T st hf w0 hW (RR:=λacc C=>adw (m_ X.prog X.w) X.A X.xe (some (aap (.Name y py) X.env)) (λ_ s'=>SP X pins D .next s') acc C) λDa C ys H' s' I' dn q G=>?_;show l_ _ _ (aap (.Name y py) X.env (.ref Da)) _ _ s';refine ad8 (KH (v:=.ref Da) I' hN Vp (.inl hy) a_ (λbZ Vr zQ=>?_) (.inr hy));obtain⟨a,sb,ha⟩:=zQ;have Vs:C≠a:=by
  rcases ha with z|z
  .rw[z];exact G.nl
  .exact Í (G.nc _ _ z)
 obtain⟨m,hn⟩:=G.ns;have lZ:=hn.sameBut sb Vs;have G2:si X pins (upd H' Da (.lst ys)) bZ C:=⟨⟨m,lZ⟩,G.fr,G.nl,G.ab,G.nc,G.np⟩;exact⟨m,lZ,λh' iB=>(xa0 _ _ ⟨G2.go Vr iB,q Da dn⟩)⟩
end
theorem so {K:e?}{a:c_}{xs:b? V}{g:TG}{ti:TT}{te:TE}{U0:St}{H0:Hp}{Q:VK}(Pv:j?->b? V->St->Hp->Prop)(h0:Pv 0 [] U0 H0)(hl:∀i ys U H,i<=xs.length->Pv i ys U H->ah K H a xs/\ys.length<=k?)(hs:∀i x ys U H,xs[i]?=some x->Pv i ys U H->g x U H λ U2 H2=>ti U2 H2 λb H3=>if b=true then te U2 H3 λy H4=>Pv (i+1) (ys++[y]) U2 H4 else Pv (i+1) ys U2 H3)(hd:∀ys U H,Pv xs.length ys U H->∀p,H p=none->Q (.ref p) (upd H p (.lst ys))):∃W:j?->j?->b? V->St->Hp->Prop,(∃m,W 0 m [] U0 H0)/\∀i m ys U H,W i m ys U H->ys.length<=k?/\(((nG K a).stop i H/\uP Q ys H)\/((nG K a).go i H/\∃N:b? V->St->Hp->Prop,(∀ba U' H',N ba U' H'->∃m',m'<m/\W (i+1) m' ba U' H')/\∀x H',(nG K a).eF i H x H'->g x U H' λ U2 H2=>ti U2 H2 λb H3=>if b=true then te U2 H3 λy H4=>N (ys++[y]) U2 H4 else N ys U2 H3)):=by
 refine⟨λi m ys U H=>m=xs.length-i/\i<=xs.length/\Pv i ys U H,⟨xs.length,by simp,W_ _,h0⟩,?_⟩
 rintro i m ys U H ⟨rfl,hi,p⟩
 obtain⟨q,hz⟩:=hl i ys U H hi p;refine⟨hz,?_⟩;by_cases aA:i<xs.length
 .refine .inr ⟨(xa0 xs (xs[i]) ⟨q,by simp[aA]⟩),Pv (i+1),λba U' H' p'=>⟨xs.length-(i+1),by lia,a_,aA,p'⟩,λx H' y=>?_⟩;obtain⟨e,y⟩:=y;subst e;exact hs i x ys U _ (y xs q) p
 .have e:i=xs.length:=by lia
  subst e;exact .inl ⟨⟨xs,q,s_ _⟩,hd ys U H p⟩
theorem Ef {lo:i_}{n:j?}{g:TG}{ti:TT}{te:TE}{U0:St}{H0:Hp}{Q:VK}(Pv:j?->b? V->St->Hp->Prop)(h0:Pv 0 [] U0 H0)(hl:∀i ys U H,i<=n->Pv i ys U H->ys.length<=k?)(hs:∀i ys U H,i<n->Pv i ys U H->g (.int (lo+i)) U H λ U2 H2=>ti U2 H2 λb H3=>if b=true then te U2 H3 λy H4=>Pv (i+1) (ys++[y]) U2 H4 else Pv (i+1) ys U2 H3)(hd:∀ys U H,Pv n ys U H->∀p,H p=none->Q (.ref p) (upd H p (.lst ys))):∃W:j?->j?->b? V->St->Hp->Prop,(∃m,W 0 m [] U0 H0)/\∀i m ys U H,W i m ys U H->ys.length<=k?/\(((kN lo n).stop i H/\uP Q ys H)\/((kN lo n).go i H/\∃N:b? V->St->Hp->Prop,(∀ba U' H',N ba U' H'->∃m',m'<m/\W (i+1) m' ba U' H')/\∀x H',(kN lo n).eF i H x H'->g x U H' λ U2 H2=>ti U2 H2 λb H3=>if b=true then te U2 H3 λy H4=>N (ys++[y]) U2 H4 else N ys U2 H3)):=by
 refine⟨λi m ys U H=>m=n-i/\i<=n/\Pv i ys U H,⟨n,by simp,W_ _,h0⟩,?_⟩
 rintro i m ys U H ⟨rfl,hi,p⟩
 refine⟨hl i ys U H hi p,?_⟩;by_cases aA:i<n
 .refine .inr ⟨aA,Pv (i+1),λba U' H' p'=>⟨n-(i+1),by lia,a_,aA,p'⟩,λx H' y=>?_⟩;obtain⟨e,y⟩:=y;subst e y;exact hs i ys U _ aA p
 .have e:i=n:=by lia
  subst e;exact .inl ⟨s_ _,hd ys U H p⟩
section
variable {X:Cx}
theorem sr:cD X (.builtin "isinstance") (λxs H Q=>∃x t T b,xs=[x,.ty T]/\iu X.K H x t/\K_ X.K t (.type T)=some b/\Q (.bl b) H):=by intro pins s U H xs us Q I r h;obtain⟨x,t,T,b,rfl,ty,e,q⟩:=h;obtain⟨u,w,rfl,r1,r2⟩:=vals2 r;obtain rfl:w=ĝ T:=r2;exact Lk I r1 ty e λtk=>(xa0 (.bl b) H ⟨I.tok tk,a_,q⟩)
theorem Vu {A:B?}{s:d_}{p:c_}{its:b? b_}(hh:A.handled=none)(hl:s.heap.IsList p its.toArray):∃(fp:b? c_),(∀b∈fp,b<s.heap.objs.size+1)/\Walks X.prog X.w A s.heap.objs.size fp [s.heap.objs.size] its.toArray.size (λi v=>its.toArray[i]?=some v) (λi h=>h.IsListIter s.heap.objs.size p i/\h.IsList p its.toArray)/\((s.heap.push {cls:=.type "list_iterator",data:=.fields #[.ref p,.int 0 0]}).IsListIter s.heap.objs.size p 0/\(s.heap.push {cls:=.type "list_iterator",data:=.fields #[.ref p,.int 0 0]}).IsList p its.toArray):=by
 have aA:p<s.heap.objs.size:=by obtain⟨_,e,_⟩:=hl;exact u? e
 refine⟨[s.heap.objs.size,p],λb hb=>?_,Walks.list (A:=A) hh _ p (N? aA) its.toArray,⟨_,x? _ a_,a_,a_⟩,hl.push _⟩;rcases B_.mp hb with e|e
 .rw[e];exact Ė _
 .rw[m?.mp e];exact aaM aA
theorem Vv {s:d_}{h':k_}{o:J_}(hk:∀b x,b∉[s.heap.objs.size]->(s.heap.push o).get? b=some x->h'.get? b=some x):∀b x,s.heap.get? b=some x->h'.get? b=some x:=λb x e=>hk b x (λhm=>by rw[m?.mp hm]at e;exact ý _ (u? e)) (g_ _ e)
theorem Am:∀{bs:b? s?}{us:b? b_},Vals (bs.map V.bl) us->us=bs.map À
 |[],us,h=>by rw[ī]at h;cases h;rfl
 |b::bs,us,h=>by
  rw[y?]at h;cases h with
  |cons r1 r2=>cases r1;rw[Am r2,y?]
theorem Vw {A:B?}(bs:b? s?)(d:s?):∀(i:j?)(v:b_)(s':d_)(Q':s?->d_->Prop)(E':b_->d_->Prop),(bs.map À).toArray[i]?=some v->Q' ((bs[i]?).getD d) s'->l_ (m_ X.prog X.w) A (truthy v) Q' E' s':=λi v s' Q' E' hP hQ=>by
  have e:(bs.map À)[i]?=some v:=by simpa using hP
  rw[J']at e;cases q:bs[i]? with
  |none=>rw[q]at e;cases e
  |some b=>rw[q]at e hQ;have e':À b=v:=o_ e;subst e';exact S? hQ
theorem Mp (hc:X.calm=true):cD X (.builtin "all") (λxs H Q=>∃(p:c_)(bs:b? s?),xs=[.ref p]/\ah X.K H p (bs.map V.bl)/\Q (.bl (bs.all id)) H):=by
 intro pins s U H xs us Q I r h;obtain⟨p,bs,rfl,hq,q⟩:=h;obtain⟨u,rfl,rx⟩:=vals1 r;cases rx;obtain⟨its,r',pl,hz⟩:=I.list hq;have ei:=Am r';subst ei;obtain⟨fp,hfp,W,st⟩:=Vu (X:=X) (A:=X.A.in1) (s:=s) (I.ok.hd hc) pl.isList;refine call_all_walk (Ŕ pl.isList (xa6 _ fp _ _ _ _ (λi=>(bs[i]?).getD true) ⟨a_,W,st,Vw bs true,λh' tk hk=>?_⟩));have e:((U_ (bs.map À).toArray.size).all λi=>(bs[i]?).getD true)=bs.all id:=by rw[D',i?];exact LSm.range_all bs
 rw[e];exact(xa0 (.bl (bs.all id)) H ⟨I.kept (t':=tk) (Vv hk),a_,q⟩)
theorem An (hc:X.calm=true):cD X (.builtin "sum") (λxs H Q=>∃(p:c_)(ns:b? i_),xs=[.ref p]/\ah X.K H p (ns.map V.int)/\Q (.int ns.sum) H):=by
 intro pins s U H xs us Q I r h;obtain⟨p,ns,rfl,hq,q⟩:=h;obtain⟨u,rfl,rx⟩:=vals1 r;cases rx;obtain⟨its,r',pl,hz⟩:=I.list hq;have hi:=intsAre_of r';obtain⟨ms,hx⟩:=hi.allInts.items;have Ao:s.heap.IsList p (ab0 ms):=hx ▸ pl.isList;refine sum_intListG (I.ok.hd hc) Ao λh' tk t' hk=>?_;have e1:ns=ms.toList.map (·.1):=by rw[<-afL,<-hx];exact(show numsOf its.toArray.toList=ns from hi.numsOf).symm
 have e2:preSum (numAt ms) ms.size=ns.sum:=by rw[preSum_eq,acQ (by simp),e1]
 rw[e2];exact(xa0 (.int ns.sum) H ⟨I.kept (t':=tk) hk,⟨t',a_⟩,q⟩)
end
inductive Dt where
 |int (i:i_)|tup (ds:b? Dt)|lst (ds:b? Dt)
mutual
def aH (K:e?) (H:Hp):Dt->V->Prop
 | .int i,v=>v= .int i
 | .tup ds,v=>∃a xs,v= .ref a/\ax K H a xs/\gu K H ds xs
 | .lst ds,v=>∃a xs,v= .ref a/\ah K H a xs/\gu K H ds xs
def gu (K:e?) (H:Hp):b? Dt->b? V->Prop
 |[],xs=>xs=[]
 |d::ds,xs=>∃x r,xs=x::r/\aH K H d x/\gu K H ds r
end
mutual
def cE:Dt->Dt->s?
 | .int a,.int b=>a==b
 | .tup as,.tup bs=>cT as bs
 | .lst as,.lst bs=>cT as bs
 |_,_=>false
def cT:b? Dt->b? Dt->s?
 |[],[]=>true
 |a::as,b::bs=>cE a b&&cT as bs
 |_,_=>false
end
mutual
def cU:Dt->j?
 | .tup ds=>gX ds+1
 | .lst ds=>gX ds+1
 |_=>0
def gX:b? Dt->j?
 |[]=>0
 |d::ds=>max (cU d) (gX ds)
end
noncomputable def kW (ds es:b? Dt)(j:j?):s?:=match ds[j]?,es[j]? with
 |some a,some b=>cE a b
 |_,_=>true
theorem uU:∀(ds es:b? Dt),((U_ (min ds.length es.length)).all (kW ds es)&&(ds.length==es.length))=cT ds es
 |[],[]=>by simp[cT]
 |[],e::es=>by simp[cT]
 |d::ds,[]=>by simp[cT]
 |d::ds,e::es=>by
  have ih:=uU ds es;have e1:min (d::ds).length (e::es).length=min ds.length es.length+1:=by simp only[E?];lia
  have e2:((d::ds).length==(e::es).length)=(ds.length==es.length):=by simp
  have e3:(kW (d::ds) (e::es)∘Ä)=kW ds es:=by funext j;simp[kW,Function.comp]
  have e4:kW (d::ds) (e::es) 0=cE d e:=by simp[kW]
  rw[e1,e2,b?.range_succ_eq_map,acU,b?.all_map,e3,e4,s?.and_assoc,ih,cT]
theorem gu.length {K:e?}{H:Hp}:∀{ds:b? Dt}{xs:b? V},gu K H ds xs->ds.length=xs.length
 |[],xs,h=>by rw[gu]at h;rw[h];rfl
 |d::ds,xs,h=>by rw[gu]at h;obtain⟨x,r,rfl,_,h2⟩:=h;rw[E?,E?,gu.length h2]
theorem gu.get {K:e?}{H:Hp}:∀{ds:b? Dt}{xs:b? V}{j:j?}{x:V},gu K H ds xs->xs[j]?=some x->∃d,ds[j]?=some d/\aH K H d x
 |[],xs,j,x,h,e=>by rw[gu]at h;subst h;simp at e
 | d::ds,xs,j,x,h,e=>by
  rw[gu]at h;obtain⟨y,r,rfl,h1,h2⟩:=h;cases j with
  |zero=>
   have e':y=x:=by simpa using e
   subst e';exact⟨d,by simp,h1⟩
  |succ j=>obtain⟨d',q1,q2⟩:=gu.get (j:=j) h2 (by simpa using e);exact⟨d',by simpa using q1,q2⟩
theorem Mq:∀{ds:b? Dt}{j:j?}{d:Dt},ds[j]?=some d->cU d<=gX ds
 |[],j,d,e=>by simp at e
 | c::ds,j,d,e=>by
  rw[gX];cases j with
  |zero=>
   have e':c=d:=by simpa using e
   subst e';exact j?.le_max_left _ _
  |succ j=>exact K? (Mq (j:=j) (by simpa using e)) (j?.le_max_right _ _)
section
variable {X:Cx}{pins:b? (c_×J_)}{U:St}{H:Hp}{s:d_}
theorem Mr (I:Inv X pins U H s){a:c_}{xs ys:b? V}(h:ah X.K H a xs)(h':ax X.K H a ys):v?:=by obtain⟨_,_,p,_⟩:=I.list h;obtain⟨_,_,q,_⟩:=I.tuple h';obtain⟨o,e,c,_⟩:=p.isList;obtain⟨o',e',c',_⟩:=q;rw[e]at e';cases e';rw[c]at c';exact v_ c' (by decide)
mutual
theorem Eg (I:Inv X pins U H s):∀(d e:Dt)(x:V),aH X.K H d x->aH X.K H e x->cE d e=true
 | .int b,e,x,h,k=>by rw[aH]at h;subst h;cases e<;>rw[aH]at k<;>first|(obtain⟨_,_,z,_⟩:=k;cases z)|(cases k;simp[cE];done)|cases k
 | .tup ds,e,x,h,k=>by
  rw[aH]at h;obtain⟨a,xs,rfl,h1,h2⟩:=h;cases e with
  |tup es=>rw[aH]at k;obtain⟨b,ys,z,k1,k2⟩:=k;cases z;have e:=I.rM k1 h1;subst e;rw[cE];exact Eh I ds es _ h2 k2
  |lst es=>rw[aH]at k;obtain⟨b,ys,z,k1,k2⟩:=k;cases z;exact(Mr I k1 h1).elim
  |int b=>rw[aH]at k;cases k
 | .lst ds,e,x,h,k=>by
  rw[aH]at h;obtain⟨a,xs,rfl,h1,h2⟩:=h;cases e with
  |lst es=>rw[aH]at k;obtain⟨b,ys,z,k1,k2⟩:=k;cases z;have e:=I.KN k1 h1;subst e;rw[cE];exact Eh I ds es _ h2 k2
  |tup es=>rw[aH]at k;obtain⟨b,ys,z,k1,k2⟩:=k;cases z;exact(Mr I h1 k1).elim
  |int b=>rw[aH]at k;cases k
theorem Eh (I:Inv X pins U H s):∀(ds es:b? Dt)(xs:b? V),gu X.K H ds xs->gu X.K H es xs->cT ds es=true
 |[],es,xs,h,k=>by
  rw[gu]at h;subst h;cases es with
  |nil=>rw[cT]
  |cons e es=>rw[gu]at k;obtain⟨_,_,z,_⟩:=k;cases z
 |d::ds,es,xs,h,k=>by
  rw[gu]at h;obtain⟨x,r,rfl,h1,h2⟩:=h;cases es with
  |nil=>rw[gu]at k;cases k
  |cons e es=>rw[gu]at k;obtain⟨y,r',z,k1,k2⟩:=k;cases z;rw[cT,Eg I d e _ h1 k1,Eh I ds es _ h2 k2];rfl
end
theorem items_eqAt {A:B?}{ds es:b? Dt}{xs ys:b? V}{is js:b? b_}(hd:gu X.K H ds xs)(he:gu X.K H es ys)(vi:Vals xs is)(vj:Vals ys js)(rec:∀d e x y u v,d∈ds->cU d<=gX ds->aH X.K H d x->aH X.K H e y->RelV x u->RelV y v->z_ A s u v (cE d e)):∀j (h1:j<is.toArray.size)(h2:j<js.toArray.size),z_ A s is.toArray[j] js.toArray[j] (kW ds es j):=λj h1 h2=>by
 have gY:j<is.length:=by simpa using h1
 have gZ:j<js.length:=by simpa using h2
 have lx:j<xs.length:=by rw[vi.length];exact gY
 have ly:j<ys.length:=by rw[vj.length];exact gZ
 obtain⟨u,eu,ru⟩:=vi.get (i:=j) (x:=xs[j]) (by simp[lx]);obtain⟨v,ev,rv⟩:=vj.get (i:=j) (x:=ys[j]) (by simp[ly]);obtain⟨d,ed,kd⟩:=hd.get (j:=j) (x:=xs[j]) (by simp[lx]);obtain⟨e,ee,ke⟩:=he.get (j:=j) (x:=ys[j]) (by simp[ly]);have e1:is.toArray[j]=u:=by rw[n? gY]at eu;simpa using eu
 have e2:js.toArray[j]=v:=by rw[n? gZ]at ev;simpa using ev
 have e3:kW ds es j=cE d e:=by simp[kW,ed,ee]
 rw[e1,e2,e3];exact rec d e _ _ u v (r? ed) (Mq ed) kd ke ru rv
theorem Ap {ds es:b? Dt}{xs ys:b? V}{is js:b? b_}(hd:gu X.K H ds xs)(he:gu X.K H es ys)(vi:Vals xs is)(vj:Vals ys js):ds.length=is.toArray.size/\es.length=js.toArray.size:=by rw[hd.length,he.length,vi.length,vj.length];simp
theorem Ms {ds es:b? Dt}(h:ds.length=es.length):(U_ ds.length).all (kW ds es)=cT ds es:=by have q:=uU ds es;rw[<-h,j?.min_self,ú,afH]at q;exact q
theorem Mt {ds es:b? Dt}(h:ds.length≠es.length):cT ds es=false:=by have q:=uU ds es;rw[show(ds.length==es.length)=false from by simpa using h,Ť]at q;exact q.symm
theorem Aq (I:Inv X pins U H s):∀(n:j?)(d e:Dt)(x y:V)(u v:b_)(A:B?),cU d<=n->A.units+n<P?->aH X.K H d x->aH X.K H e y->RelV x u->RelV y v->z_ A s u v (cE d e):=by
 intro n;induction n with
 | zero=>
  intro d e x y u v A hn hu hd he ru rv;have dq:A.units<P?:=by lia
  cases d with
  |tup ds=>rw[cU]at hn;lia
  |lst ds=>rw[cU]at hn;lia
  |int a=>
   rw[aH]at hd;subst hd;obtain⟨t0,rfl⟩:=ru;cases e<;>rw[aH]at he;case int b=>subst he;obtain⟨t,rfl⟩:=rv;exact z_.int_int a t0 b t
   case tup es=>obtain⟨b,ys,rfl,k1,k2⟩:=he;cases rv;obtain⟨js,vj,pj,_⟩:=I.tuple k1;exact z_.int_tuple a t0 pj dq
   case lst es=>obtain⟨b,ys,rfl,k1,k2⟩:=he;cases rv;obtain⟨js,vj,pj,_⟩:=I.list k1;exact z_.int_list a t0 pj.isList dq
 | succ n ih=>
  intro d e x y u v A hn hu hd he ru rv;have dq:A.units<P?:=by lia
  have sy:A.in1.units+n<P?:=by rw[aeK];lia
  cases d with
  | tup ds=>
   rw[cU]at hn;have sA:=hd;rw[aH]at hd;obtain⟨a,xs,rfl,k1,k2⟩:=hd;cases ru;obtain⟨is,vi,pi,_⟩:=I.tuple k1;cases e with
   |tup es=>
    have Ei:=he;rw[aH]at he;obtain⟨b,ys,rfl,l1,l2⟩:=he;cases rv;obtain⟨js,vj,pj,_⟩:=I.tuple l1;by_cases kX:a=b
    .subst kX;rw[Eg I _ _ _ sA Ei];exact z_.same _
    .have q:=afR (A:=A) pi pj dq (items_eqAt k2 l2 vi vj λd e x y u v _ eL=>ih d e x y u v A.in1 (by lia) sy);obtain⟨z1,z2⟩:=Ap k2 l2 vi vj;rw[<-z1,<-z2,uU]at q;rw[cE];exact z_.of_refs kX q
   |lst es=>rw[aH]at he;obtain⟨b,ys,rfl,l1,l2⟩:=he;cases rv;obtain⟨js,vj,pj,_⟩:=I.list l1;exact z_.tuple_list pi pj.isList dq
   |int b=>rw[aH]at he;subst he;obtain⟨t,rfl⟩:=rv;exact z_.tuple_int b t pi dq
  | lst ds=>
   rw[cU]at hn;have sA:=hd;rw[aH]at hd;obtain⟨a,xs,rfl,k1,k2⟩:=hd;cases ru;obtain⟨is,vi,pi,_⟩:=I.list k1;cases e with
   | lst es=>
    have Ei:=he;rw[aH]at he;obtain⟨b,ys,rfl,l1,l2⟩:=he;cases rv;obtain⟨js,vj,pj,_⟩:=I.list l1;obtain⟨z1,z2⟩:=Ap k2 l2 vi vj;by_cases kX:a=b
    .subst kX;rw[Eg I _ _ _ sA Ei];exact z_.same _
    .rw[cE];by_cases hsz:ds.length=es.length
     .have q:=abN (A:=A) pi.isList pj.isList (by lia) dq (items_eqAt k2 l2 vi vj λd e x y u v _ eL=>ih d e x y u v A.in1 (by lia) sy);rw[<-z1,Ms hsz]at q;exact z_.of_refs kX q
     .rw[Mt hsz];exact z_.of_refs kX (aaI pi.isList pj.isList (by rw[<-z1,<-z2];simpa using hsz) dq)
   |tup es=>rw[aH]at he;obtain⟨b,ys,rfl,l1,l2⟩:=he;cases rv;obtain⟨js,vj,pj,_⟩:=I.tuple l1;exact z_.list_tuple pi.isList pj dq
   |int b=>rw[aH]at he;subst he;obtain⟨t,rfl⟩:=rv;exact z_.list_int b t pi.isList dq
  |int b=>exact ih _ _ _ _ _ _ _ (W_ n) (by lia) hd he ru rv
theorem Vx (I:Inv X pins U H s){n:j?}{d e:Dt}{x y:V}{u v:b_}{A:B?}(hn:cU d<=n)(hu:A.units+n<P?)(hd:aH X.K H d x)(he:aH X.K H e y)(ru:RelV x u)(rv:RelV y v):R_ A s u v (!(cE d e)):=by
 have dq:A.units<P?:=by lia
 cases d with
 |int a=>
  rw[aH]at hd;subst hd;obtain⟨t0,rfl⟩:=ru;cases e<;>rw[aH]at he;case int b=>subst he;obtain⟨t,rfl⟩:=rv;exact R_.int_int a t0 b t
  case tup es=>obtain⟨b,ys,rfl,k1,k2⟩:=he;cases rv;obtain⟨js,vj,pj,_⟩:=I.tuple k1;exact R_.int_tuple a t0 pj dq
  case lst es=>obtain⟨b,ys,rfl,k1,k2⟩:=he;cases rv;obtain⟨js,vj,pj,_⟩:=I.list k1;exact R_.int_list a t0 pj.isList dq
 |tup ds=>
  rw[cU]at hn;have sy:A.in1.units+(n-1)<P?:=by rw[aeK];lia
  rw[aH]at hd;obtain⟨a,xs,rfl,k1,k2⟩:=hd;cases ru;obtain⟨is,vi,pi,_⟩:=I.tuple k1;cases e with
  |tup es=>rw[aH]at he;obtain⟨b,ys,rfl,l1,l2⟩:=he;cases rv;obtain⟨js,vj,pj,_⟩:=I.tuple l1;have q:=R_.tuples (A:=A) pi pj dq (items_eqAt k2 l2 vi vj λd e x y u v _ eL=>Aq I (n-1) d e x y u v A.in1 (by lia) sy);obtain⟨z1,z2⟩:=Ap k2 l2 vi vj;rw[<-z1,<-z2,uU]at q;rw[cE];exact q
  |lst es=>rw[aH]at he;obtain⟨b,ys,rfl,l1,l2⟩:=he;cases rv;obtain⟨js,vj,pj,_⟩:=I.list l1;exact R_.tuple_list pi pj.isList dq
  |int b=>rw[aH]at he;subst he;obtain⟨t,rfl⟩:=rv;exact R_.tuple_int b t pi dq
 | lst ds=>
  rw[cU]at hn;have sy:A.in1.units+(n-1)<P?:=by rw[aeK];lia
  rw[aH]at hd;obtain⟨a,xs,rfl,k1,k2⟩:=hd;cases ru;obtain⟨is,vi,pi,_⟩:=I.list k1;cases e with
  |lst es=>
   rw[aH]at he;obtain⟨b,ys,rfl,l1,l2⟩:=he;cases rv;obtain⟨js,vj,pj,_⟩:=I.list l1;obtain⟨z1,z2⟩:=Ap k2 l2 vi vj;rw[cE];by_cases hsz:ds.length=es.length
   .have q:=R_.lists (A:=A) pi.isList pj.isList (by lia) dq (items_eqAt k2 l2 vi vj λd e x y u v _ eL=>Aq I (n-1) d e x y u v A.in1 (by lia) sy);rw[<-z1,Ms hsz]at q;exact q
   .rw[Mt hsz];exact R_.lists_lengths pi.isList pj.isList (by rw[<-z1,<-z2];simpa using hsz) dq
  |tup es=>rw[aH]at he;obtain⟨b,ys,rfl,l1,l2⟩:=he;cases rv;obtain⟨js,vj,pj,_⟩:=I.tuple l1;exact R_.list_tuple pi.isList pj dq
  |int b=>rw[aH]at he;subst he;obtain⟨t,rfl⟩:=rv;exact R_.list_int b t pi.isList dq
end
noncomputable def Vy (K:e?):R2:=λx y H Q=>∃d e,aH K H d x/\aH K H e y/\cU d<=60/\Q (.bl (!cE d e)) H
section
variable {X:Cx}
theorem Ar (hu:X.A.units+64<P?):bD X (M? .NotEq) (Vy X.K):=by intro pins s U H x y v u Q I rx ry h;obtain⟨d,e,hd,he,hn,q⟩:=h;exact Vx I hn (by lia) hd he rx ry _ _ _ _ (xa0 (.bl _) H ⟨I,a_,q⟩)
end
theorem Ej (K:e?)(H:Hp):∀ns:b? i_,gu K H (ns.map Dt.int) (ns.map V.int)
 |[]=>by rw[ī,ī,gu]
 |n::ns=>by rw[y?,y?,gu];exact(xa0 _ _ ⟨a_,by rw[aH],Ej K H ns⟩)
theorem Mu {K:e?}{H:Hp}{a:c_}{ns:b? i_}(h:ah K H a (ns.map V.int)):aH K H (.lst (ns.map Dt.int)) (.ref a):=by rw[aH];exact(xa0 a _ ⟨a_,h,Ej K H ns⟩)
theorem As {K:e?}{H:Hp}{a:c_}{ns:b? i_}(h:ax K H a (ns.map V.int)):aH K H (.tup (ns.map Dt.int)) (.ref a):=by rw[aH];exact(xa0 a _ ⟨a_,h,Ej K H ns⟩)
theorem uV:∀ns:b? i_,gX (ns.map Dt.int)=0
 |[]=>by rw[ī,gX]
 |n::ns=>by show max (cU (Dt.int n)) (gX (ns.map Dt.int))=0;rw[uV ns];rfl
theorem Ek:∀ms ns:b? i_,cT (ms.map Dt.int) (ns.map Dt.int)=p_ (ms=ns)
 |[],[]=>by simp[cT]
 |[],n::ns=>by simp[cT]
 |m::ms,[]=>by simp[cT]
 |m::ms,n::ns=>by
  rw[y?,y?,cT,Ek ms ns,cE];by_cases h:m=n
  .subst h;simp
  .simp[h]
theorem Vz (ms ns:b? i_):cE (.lst (ms.map Dt.int)) (.lst (ns.map Dt.int))=p_ (ms=ns):=by rw[cE,Ek]
theorem El (ms ns:b? i_):cE (.tup (ms.map Dt.int)) (.tup (ns.map Dt.int))=p_ (ms=ns):=by rw[cE,Ek]
theorem VA (ns:b? i_):cU (.lst (ns.map Dt.int))<=60:=by rw[cU,uV];decide
theorem VB (ns:b? i_):cU (.tup (ns.map Dt.int))<=60:=by rw[cU,uV];decide
section
variable {X:Cx}
noncomputable def VC (K:e?):R2:=λx y H Q=>∃p xs i v,x= .ref p/\y= .int i/\ah K H p xs/\0<=i/\xs[i.toNat]?=some v/\Q v H
theorem Em:KS X (VC X.K):=by intro pins s U H o i ov iv Q I ro ri h;obtain⟨p,xs,k,z,rfl,rfl,hq,h0,he,q⟩:=h;cases ro;obtain⟨t,rfl⟩:=ri;obtain⟨its,r,pl,hz⟩:=I.list hq;obtain⟨w,ew,cI⟩:=r.get he;have hl:=r.length;have hn:=pK;have hk:k.toNat<its.length:=(xv.mp ew).1;exact wpAny_getItem_list pl.isList h0 (by lia) (by simpa using ew) (xa0 z H ⟨I,cI,q⟩)
end
noncomputable def iP {α:Type}:b? α->b? α->b? α
 |[u0],[w0]=>[u0,w0]
 |_,_=>[]
theorem VD {vs:b? V}{us:b? b_}{zs:b? V}{ws:b? b_}(r1:Vals vs us)(r2:Vals zs ws):Vals (iP vs zs) (iP us ws):=by
 cases r1 with
 |nil=>exact .nil
 | cons a ra=>
  cases ra with
  | nil=>
   cases r2 with
   |nil=>exact .nil
   |cons b rb=>
    cases rb with
    |nil=>exact .cons a (.cons b .nil)
    |cons _ _=>exact .nil
  |cons _ _=>exact .nil
theorem VE {K:e?}{fd:l?}{p k:y_}{kd:c_}{v:b_}(e:afr K kd k=some (some v))(hp:fd.params.posonlyargs=[])(ha:fd.params.args.map (·.arg)=[p])(hv:fd.params.vararg=none)(hk:fd.params.kwonlyargs.map (·.arg)=[k])(tY:fd.params.kwarg=none)(hd:fd.defaults= .none)(VF:fd.kwdefaults= .ref kd)(Mv:(k==p)=false):Binds K fd [p,k] [v]:=by
 intro s us KX hl;obtain⟨u,rfl⟩:∃u,us=[u]:=by match us,hl with
  |[u],_=>exact⟨u,a_⟩
  |_::_::_,hl=>simp at hl
 intro Mo A E Q hq;have L:=PySem.W.looks_nsIn (M:=Mo) KX e;unfold ady;have hz:seqItems? Ğ=Ø none:=a_;simp only[hp,ha,hv,hk,tY,hd,VF,hz,ī,abQ,E?,ź,aaN,aa2,pure_bind,f_.getD_none,abz];simp[à,Mv];refine d? (L A _ E s (λ_ _ h=>h) ?_);simp[à,Mv];exact h_ hq
theorem y0.there {P:n_}{w:z?}{H:Hp}{h:k_}{a:c_}{o:HO}(x:y0 P w H h a o):∃ob,h.get? a=some ob:=by
 cases o with
 |lst xs=>obtain⟨_,_,_,_,e⟩:=x;exact⟨_,e⟩
 |tup xs=>obtain⟨_,_,_,p⟩:=x;obtain⟨o,e,_⟩:=p;exact⟨_,e⟩
 |dK aa=>obtain⟨_,_,_,_,o,_,_,e,_⟩:=x;exact⟨_,e⟩
 |dT aa=>obtain⟨_,_,_,_,o,_,_,e,_⟩:=x;exact⟨_,e⟩
 |set S n=>obtain⟨o,_,_,_,e,_⟩:=x;exact⟨_,e⟩
 |ins C dx fs=>obtain⟨_,_,_,e,_⟩:=x;exact⟨_,e⟩
 |own y=>obtain⟨_,e⟩:=x;exact⟨_,e⟩
 |xd fs=>obtain⟨_,⟨_,_,_,e,_⟩,_⟩:=x;exact⟨_,e⟩
 |zA lo hi=>obtain⟨_,_,_,e⟩:=x;exact⟨_,e⟩
 |az ob u=>obtain⟨e,_⟩:=x;exact⟨_,e⟩
 |nj ps=>exact⟨_,(show h.get? a=some _ from x)⟩
 |met f y=>exact⟨_,(show h.get? a=some _ from x)⟩
 |ext φ=>obtain⟨_,⟨_,e⟩,_⟩:=x;exact⟨_,e⟩
structure sC (P:n_)(w:z?)(l:b? š)(H H':Hp)(s s':d_)(ea:c_)(cls:b_):Prop where
 os:s'.os=s.os
 bare:ŗ s'.gens
 un:Un (bu l) [] H H' s.heap s'.heap
 ag:bK P w H' s'.heap
 Mw:∃(Bq:k_)(t:c_),Ā Bq l ea cls (.ref t) s'.heap/\(∀b o o',s.heap.get? b=some o->s'.heap.get? b=some o'->b∉bu l->Bq.get? b=some o')/\(∀b u o',H' b=some u->s'.heap.get? b=some o'->Bq.get? b=some o')
 new:s.heap.get? ea=none
section
variable {X:Cx}{pins:b? (c_×J_)}{U:St}{H H':Hp}{s s':d_}{ea:c_}{cls:b_}
theorem Inv.kY (I:Inv X pins U H s){b:c_}{o:J_}(e:X.au.heap.get? b=some o)(hb:b∉X.fs):b∉bu X.stack:=λz=>by
 rcases B_.mp (I.oX b z)with q|q
 .have h1:@Ś j? _ b X.au.heap.objs.size:=u? e;have h2:@LE.le j? _ X.au.heap.objs.size X.env.locals:=I.ok.above;have h3:@Eq j? b X.env.locals:=q;lia
 .exact hb q
theorem Inv.VG (I:Inv X pins U H s){b:c_}(hb:b∈X.fs):b∈bu X.stack:=by
 rcases I.ok.dy with e|⟨e,hf⟩
 .rw[e];exact hb
 .rw[e];unfold bu;rw[ě,hf];exact u_ _ hb
theorem VH (I:Inv X pins U H s)(hex:X.ex=[])(F:sC X.prog X.w X.stack H H' s s' ea cls){h':k_}{Bq:k_}{t:c_}(hf:Ā Bq X.outer ea cls (.ref t) h')(hu:s'.heap.UpToSlots h')(k1:∀b o o',s.heap.get? b=some o->s'.heap.get? b=some o'->b∉bu X.stack->Bq.get? b=some o')(k2:∀b u o',H' b=some u->s'.heap.get? b=some o'->Bq.get? b=some o'):
  sC X.prog X.w X.outer X.bC H' X.au {s' with heap:=h'} ea cls:=by
 have base:=I.base;rw[hex]at base;have cF:∀b:c_,b∉([]:b? c_):=λb=>by simp
 have lift:∀b o,X.au.heap.get? b=some o->b∉X.fs->∃o1 o2,s.heap.get? b=some o1/\s'.heap.get? b=some o2/\h'.get? b=some o2:=λb o e hb=>by obtain⟨o1,e1⟩:=base.there b o e (cF b);obtain⟨o2,e2⟩:=F.un.there b o1 e1 (cF b);exact(xa0 o1 o2 ⟨e1,e2,hf.1 _ _ (k1 b o1 o2 e1 e2 (I.kY e hb))⟩)
 have slots:∀b o,X.au.heap.get? b=some o->X.bC b=none->b∈X.fs->∃sl,h'.get? b=some {o with slots:=sl}:=λb o e n hb=>by obtain⟨sl,e1⟩:=base.slot b o e n hb (cF b);obtain⟨nK,e2⟩:=F.un.slot b _ e1 (base.free b o e n (cF b)) (I.VG hb) (cF b);obtain⟨_,o3,e3,nf⟩:=I.ok.fP.mem hb;rw[e]at e3;cases e3;obtain⟨uW,e4⟩:=hu b _ e2 nf;exact⟨uW,e4⟩
 refine⟨F.os.trans I.os,F.bare,⟨λb o e n hb _=>?_,λb o e n hb _=>slots b o e n hb,λb o e n _=>?_,λb o e _=>?_,λb xs q=>F.un.cj b xs (base.cj b xs q),λb o xs q=>F.un.dU b o xs (base.dU b o xs q),λb ps q=>?_⟩,λb u e=>?_,(xa0 Bq t ⟨hf,λb o o' e e' hb=>?_,λb u o' q e'=>?_⟩),?_⟩
 .have e1:=base.keep b o e n hb (cF b);have e2:=F.un.keep b o e1 (base.free b o e n (cF b)) (I.kY e hb) (cF b);exact hf.1 _ _ (k1 b o o e1 e2 (I.kY e hb))
 .obtain⟨o1,e1⟩:=base.there b o e (cF b);exact F.un.free b o1 e1 (base.free b o e n (cF b)) (cF b)
 .by_cases hb:b∈X.fs
  .obtain⟨sl,q⟩:=slots b o e (I.ok.i5 b hb) hb;exact⟨_,q⟩
  .obtain⟨_,o2,_,_,q⟩:=lift b o e hb;exact⟨o2,q⟩
 .obtain⟨m1,e1⟩:=base.eU b ps q;obtain⟨m2,e2⟩:=F.un.eU b _ e1;exact⟨m1++m2,by rw[e2,ad3]⟩
 .refine(F.ag b u e).dh (λc v hc q=>?_) (λ_ q=>q) λ_ _ q=>q;rcases hc with z|z
  .subst z;exact hf.1 _ _ (k2 _ _ _ e q)
  .exact hf.1 _ _ (k2 _ _ _ z q)
 .by_cases En:b∈X.fs
  .exact v_ En hb
  .obtain⟨o1,o2,e1,e2,q⟩:=lift b o e En;have q':h'.get? b=some o':=e';rw[q]at q';cases q';exact k1 b o1 _ e1 e2 (I.kY e En)
 .obtain⟨o2,e2⟩:=(F.ag b u q).there;have z:=k2 b u o2 q e2;have q':h'.get? b=some o':=e';rw[hf.1 _ _ z]at q';cases q';exact z
 .cases q:X.au.heap.get? ea with
  |none=>rfl
  |some o=>obtain⟨o1,e1⟩:=base.there ea o q (cF ea);rw[F.new]at e1;cases e1
end
noncomputable def uX:b? b_:=[.type "ValueError",.type "Exception",.type "BaseException",.type "object"]
noncomputable def Au (K:e?)(C:c_):Prop:=aa7 K C uX "ValueError.__new__"=true
theorem VI {K:e?}{h:k_}{C:c_}{pZ:b? b_}{newId:í}(X:K.In h)(q:aa7 K C pZ newId=true):∃bm N nm qn bs hdct sn sub ab col dd k0 k1 k2 k3 k5 mN,h.get? C=some (Ď nm qn C N bs bm hdct sn sub ab col dd k0 k1 k2 k3 k5 newId)/\h.Ns N mN/\mN "__init__"=none/\aax h pZ bm:=by
 unfold aa7 at q;split at q
 .rename_i dd cd sl ho;split at q
  .rename_i C' bm k0 k1 k2 k3 n k5 hm hs;simp only[M_,Á,ad1]at q;obtain⟨⟨⟨⟨⟨rfl,rfl⟩,jJ⟩,ht⟩,ag⟩,Av⟩:=q;obtain⟨nm,bs,mro,ns,qn,hd,sn,sub,ab,col,del⟩:=cd;dsimp only at hm jJ ag Av;subst hm jJ;have qA:sl=#[k0,k1,k2,k3,some (.builtin n),k5]:=by
    obtain⟨l⟩:=sl;simp only at hs;rw[hs]
   subst qA;exact(xa7 bm ns nm qn bs hd sn sub ab col dd k0 k1 k2 k3 k5 _ ⟨X _ _ ho,.of_isNs (PySem.W.isNs_of_in X ag),PySem.W.nsMap_none_of_in X ag Av,ab6 X ht⟩)
  .cases q
 .cases q
theorem VJ {K:e?}{M:aaJ}{h:k_}{ea C Pc:c_}{oe:J_}{b:s?}(X:K.In h)(he:h.get? ea=some oe)(hc:oe.cls= .ref C)(m:Ì K (.ref C) (.ref Pc)=some b)(hb:æ K Pc (.type "BaseException")=some true):P_ M h (excMatches (.ref ea) (.ref Pc)) b:=by
 obtain⟨L1,L2,L3⟩:=PySem.W.kit_cls (M:=M) X m;have L4:=ŭ (M:=M) X hb;have L5:P_ M h (adQ (.ref ea)) (.ref C):=hc ▸ (P_.ld he).andThen .now;have f:=tc_notTuple;intro A Q E s k q;unfold excMatches Ň isExcClass;simp only[bind_assoc];refine d? (L1 A _ E s k ?_);rw[f];simp only[pure_bind,Ĝ,abU,Ż,abz,bind_assoc];refine d? (L2 A _ E s k ?_);simp only[acW];refine d? (L4 A _ E s k ?_);simp only[abh,Ĝ,abU,pure_bind];refine d? (L5 A _ E s k ?_);refine d? (L3 A _ E s k ?_);cases b
 .exact h_ q
 .exact h_ q
noncomputable def Mx (W:Hp->Prop)(t:TA):TS:=λ_ U H=>t U H λvs H1=>vs.length<=k?/\W H1
section
variable {X:Cx}
theorem VL {x:y_}{C:c_}{e:G?}{es:b? G?}{t:TA}{np ay pos:Ī}{W:Hp->Prop}(hc:X.calm=true)(hg:Gl X x)(hm:X.mg x=some (.ref C))(hC:Au X.K C)(ha:PA X (e::es) t)(Eo:∀{pins:b? (c_×J_)}{U:St}{H:Hp}{s:d_}{ea:c_}{vs:b? b_}{h1:k_},Inv X pins U H s->aaL s.heap h1 ea (.ref C) vs->W H->X.xe (.ref ea) {s with heap:=h1})(cP:e_ ((x==("__debug__":y_))=false) aP2)(he:e_ (x_ (e::es) X.env=(false,T? e X.env)::x_ es X.env) aP1)(cw:e_ ((Y? ay (x_ es X.env)).any (·.1)=false) aP1):
  PS X (.Raise (some (.Call (.Name x np) (e::es) [] ay)) none pos) (Mx W t):=by
 intro pins s U H D I h;obtain⟨bm,N,nm,qn,bs,hdct,sn,sub,ab,col,dd,k0,k1,k2,k3,k5,mN,hC,hN,Av,T⟩:=VI I.mod.eV hC;have FB:=ac5;refine wpAny_Raise_call_subT (C:=C) (nm:=nm) (q:=qn) (N:=N) (bs:=bs) (bm:=bm) (hdct:=hdct) (sn:=sn) (sub:=sub) (ab:=ab) (col:=col) (dd:=dd) (k0:=k0) (k1:=k1) (k2:=k2) (k3:=k3) (k5:=k5) FB (mN:=mN) (T.hasType FB.hasBase) (I.ok.hd hc) (by rw[he];show(false||(Y? ay (x_ es X.env)).any (·.1))=false;rw[cw];rfl) Av (nE I hg hm ⟨a_,?_⟩ cP);have hA:=ha ay pins s U H _ I h;rw[he]at hA⊢;exact ê (ai hA λus s2 ⟨vs,H2,I2,r2,hz,q2⟩=>⟨a_,by rw[<-r2.length];exact hz,I2.bk _ _ hC,hN.keeps I2.bk,T.keeps I2.bk,λh' e hm=>Eo I2 hm q2⟩)
end
noncomputable def sD (X:Cx)(ea:c_):Cx:={X with A:=X.A.mark (some (.ref ea)),calm:=false,xe:=λ_ _=>v?}
noncomputable def nX (ea:c_)(cls:b_):HO:=.ext λh=>∃o vs,h.get? ea=some o/\o.cls=cls/\o.data= .fields vs
section
variable {X:Cx}{pins pn:b? (c_×J_)}{U:St}{H H':Hp}{s s':d_}
theorem Inv.kZ {X Yq:Cx}(I:Inv X pins U H s)(ok:Yq.Ok)(hs:Yq.au=X.au)(hH:Yq.bC=X.bC)(he:Yq.env=X.env)(ho:Yq.outer=X.outer)(hx:Yq.ex=X.ex)(hN:Yq.N=X.N)(hp:Yq.prog=X.prog)(hw:Yq.w=X.w){bM:b? (c_×J_)}(Ep:∀p∈Yq.pn++bM,p∈X.pn++pins):Inv Yq bM U H s:=by
 obtain⟨prog,w,K,mg,base,A,N,au,bC,env,outer,stack,ex,fn,calm,VM,xe⟩:=X;obtain⟨uY,w',K',VN,uZ,A',N',vA,vB,Er,qB,qC,KA,VO,vC,VP,VQ⟩:=Yq;dsimp only at hs hH he ho hx hN hp hw;subst hs hH he ho hx hN hp hw;exact⟨ok,I.os,I.bare,I.base,I.loc,I.cell,I.free,I.dW,λp hp=>I.pin p (Ep p hp),I.ag,I.len⟩
theorem Cx.Ok.kZ {X Yq:Cx}(ok:X.Ok)(hm:Yq.K=X.K/\Yq.mg=X.mg/\Yq.base=X.base)(he:Yq.env=X.env)(hs:Yq.au=X.au)(hH:Yq.bC=X.bC)(ho:Yq.outer=X.outer)(kM:Yq.stack=X.stack)(hx:Yq.ex=X.ex)(hf:Yq.fn=X.fn)(hd:Yq.calm=true->Yq.A.handled=none)(gJ:Yq.A.frames=some Yq.stack):Yq.Ok:=by
 obtain⟨prog,w,K,mg,base,A,N,au,bC,env,outer,stack,ex,fn,calm,VM,xe⟩:=X;obtain⟨uY,w',K',VN,uZ,A',N',vA,vB,Er,qB,qC,KA,VO,vC,VP,VQ⟩:=Yq;obtain⟨Aw,My,Ax⟩:=hm;dsimp only at Aw My Ax he hs hH ho kM hx hf;subst Aw My Ax he hs hH ho kM hx hf;exact⟨ok.mod,ok.kind,ok.glob,ok.blt,ok.above,ok.inj,ok.has,ok.oV,hd,gJ,ok.dy,ok.zB,ok.bs,ok.kG,ok.oW,ok.rJ,ok.fP,ok.i5⟩
theorem Inv.Mz {bM:b? (c_×J_)}(I:Inv {X with pn:=pn} bM U H s)(h:∀p∈X.pn++pins,p∈pn):Inv X pins U H s:=I.kZ (Yq:=X) (I.ok.kZ (Yq:=X) ⟨a_,a_,a_⟩ a_ a_ a_ a_ a_ a_ a_ I.ok.hd I.ok.frames) a_ a_ a_ a_ a_ a_ a_ a_ λp hp=>X_ _ (h p hp)
theorem Inv.VR {ea:c_}(I:Inv X pins U H s):Inv (sD X ea) pins U H s:=I.kZ (Yq:=sD X ea) (I.ok.kZ (Yq:=sD X ea) ⟨a_,a_,a_⟩ a_ a_ a_ a_ a_ a_ a_ (λz=>by have z':false=true:=z;cases z') I.ok.frames) a_ a_ a_ a_ a_ a_ a_ a_ λ_ hp=>hp
theorem Inv.Ay {ea:c_}(ok:X.Ok)(I:Inv (sD X ea) pins U H s):Inv X pins U H s:=I.kZ (Yq:=X) ok a_ a_ a_ a_ a_ a_ a_ a_ λ_ hp=>hp
theorem VS {CX:eY}{k:j?}{f:c_}{fd:l?}{ps:b? y_}{sp:Sp}{bH:b? V}{ds:b? b_}{E:XK}{Q:VK}{us:b? b_}{vs:b? V}(F:zu X.prog X.w X.K X.mg X.base CX k f fd ps sp)(hr:aY k X.A)(hb:Binds X.K fd ps ds)(hd:Vals bH ds)(I:Inv X pins U H s)(hx:∀e s',CX X.stack H s E e s'->X.xe e s')(r:Vals vs us)(h:sp (vs++bH) H Q E):l_ (m_ X.prog X.w) X.A (Ħ (.ref f) us) (EP X pins U Q) X.xe s:=by
 have r2:Vals (vs++bH) (us++ds):=r.append hd;have hl:(us++ds).length=ps.length:=by rw[<-r2.length];exact F.len _ _ _ _ h
 refine Ĥ (û (F.run X.A X.stack s H ⟨us,[]⟩ (us++ds) (vs++bH) Q E hr I.rR (hb s us I.aW hl) r2 h) λr s' hq=>?_);cases r with
 |error e=>exact hx e s' hq
 |ok fl=>
  cases fl with
  |ret u=>exact I.after hq
  |next=>exact H? hq
  |brk=>exact H? hq
  |cont=>exact H? hq
theorem MA {ea:c_}{cls:b_}(I:Inv X pins U H s)(F:sC X.prog X.w X.stack H H' s s' ea cls){h':k_}{Bq:k_}{t:c_}(hf:Ā Bq X.stack ea cls (.ref t) h')(hu:s'.heap.UpToSlots h')(k1:∀b o o',s.heap.get? b=some o->s'.heap.get? b=some o'->b∉bu X.stack->Bq.get? b=some o')(k2:∀b u o',H' b=some u->s'.heap.get? b=some o'->Bq.get? b=some o'):
  Inv X pins U H' {s' with heap:=h'}:=by
 have cF:∀b:c_,b∉([]:b? c_):=λb=>by simp
 have slots:∀b o,s.heap.get? b=some o->H b=none->b∈bu X.stack->∃sl,h'.get? b=some {o with slots:=sl}:=λb o e n hb=>by obtain⟨nK,e2⟩:=F.un.slot b _ e n hb (cF b);obtain⟨_,o3,e3,nf⟩:=I.stack.mem hb;rw[e]at e3;cases e3;obtain⟨uW,e4⟩:=hu b _ e2 nf;exact⟨uW,e4⟩
 refine I.Dr (ch:=[]) F.os ⟨λb o e n hb _=>?_,λb o e n hb _=>slots b o e n hb,λb o e n _=>F.un.free b o e n (cF b),λb o e _=>?_,F.un.cj,F.un.dU,F.un.eU⟩ (λb u e=>?_) F.bare λb z=>v_ z (cF b)
 .have e2:=F.un.keep b o e n hb (cF b);exact hf.1 _ _ (k1 b o o e e2 hb)
 .by_cases hb:b∈bu X.stack
  .obtain⟨sl,q⟩:=slots b o e (I.zC b hb) hb;exact⟨_,q⟩
  .obtain⟨o2,e2⟩:=F.un.there b o e (cF b);exact⟨o2,hf.1 _ _ (k1 b o o2 e e2 hb)⟩
 .refine(F.ag b u e).dh (λc v hc q=>?_) (λ_ q=>q) λ_ _ q=>q;rcases hc with z|z
  .subst z;exact hf.1 _ _ (k2 _ _ _ e q)
  .exact hf.1 _ _ (k2 _ _ _ z q)
theorem Inv.Es {a:c_}{o:HO}(I:Inv X pins U H s)(hex:X.ex=[])(hn:H a=none)(h0:X.au.heap.get? a=none)(hL:a≠X.env.locals)(hc:∀x c,X.env.cells.lookup x=some c->c≠a)(hp:∀p∈X.pn++pins,p.1≠a)(new:y0 X.prog X.w (upd H a o) s.heap a o):Inv X pins U (upd H a o) s:=by
 have iC:∀b ob,X.au.heap.get? b=some ob->b≠a:=λb ob e z=>by rw[z,h0]at e;cases e
 refine⟨I.ok,I.os,I.bare,⟨I.base.keep,I.base.slot,λb ob e n hx=>?_,I.base.there,λb xs q=>?_,λb ob u q=>?_,λb ps q=>?_⟩,I.loc,I.cell,?_,λx c e=>?_,λp MB=>?_,λb u e=>?_,I.len⟩
 .rw[jd (iC b ob e)];exact I.base.free b ob e n hx
 .rw[jd (jh (I.base.cj b xs q) hn)];exact I.base.cj b xs q
 .rw[jd (jh (I.base.dU b ob u q) hn)];exact I.base.dU b ob u q
 .obtain⟨more,z⟩:=I.base.eU b ps q;exact⟨more,by rw[jd (jh z hn)];exact z⟩
 .rw[jd (Í hL)];exact I.free
 .rw[jd (hc x c e)];exact I.dW x c e
 .obtain⟨q1,q2,q3⟩:=I.pin p MB;exact⟨q1,by rw[jd (hp p MB)];exact q2,q3⟩
 .by_cases hb:b=a
  .subst hb;rw[ja]at e;cases e;exact new
  .rw[jd hb]at e;exact(I.ag b u e).dh (λ_ _ _ q=>q) (λc q=>by rw[jd (jh q hn)];exact q) λc xs q=>by rw[jd (jh q hn)];exact q
theorem Inv.unset {i:j?}{n:y_}(I:Inv X pins U H s)(hN:X.N.Nodup)(hi:X.N[i]?=some n){m:y_->f_ b_}(hm:s.heap.Ns X.env.locals m)(hl:∀(i:j?)(x:y_)(v:V),X.N[i]?=some x->U[i]?=some (some v)->tQ X.env.scope x->∃u,RelV v u/\Look X.env s.heap m x u){h':k_}{u:f_ b_}(nB:h'.Ns X.env.locals (λx=>if x=n then u else m x))(hs:F_ X.env.locals s.heap h'):Inv X pins (U.set i none) H {s with heap:=h'}:=by
 obtain⟨oL,_,_,KI,_⟩:=id hm;have rK:i<U.length:=by rw[I.len];exact(xv.mp hi).1
 have i6:=I.i6;refine⟨I.ok,I.os,I.bare,⟨λb o e n hb hx=>?_,λb o e n hb hx=>?_,I.base.free,λb o e hx=>?_,I.base.cj,I.base.dU,I.base.eU⟩,⟨_,nB,λj y v' e1 e2 e3=>?_⟩,λy c e=>?_,I.free,I.dW,λp hp=>?_,λb ob e=>?_,by simpa using I.len⟩
 .exact(hs.2 b (N? (F? (u? e) I.ok.above))).trans (I.base.keep b o e n hb hx)
 .obtain⟨sl,e1⟩:=I.base.slot b o e n hb hx;exact⟨sl,(hs.2 b (N? (F? (u? e) I.ok.above))).trans e1⟩
 .obtain⟨o',e1⟩:=I.base.there b o e hx;exact⟨o',(hs.2 b (N? (F? (u? e) I.ok.above))).trans e1⟩
 .by_cases hj:j=i
  .subst hj;rw[Ç rK]at e2;cases e2
  .rw[ċ (Í hj)]at e2;obtain⟨u',r',q⟩:=hl j y v' e1 e2 e3;refine⟨u',r',?_⟩;rcases q with⟨k,e⟩|⟨k,c,e,z⟩
   .refine .inl ⟨k,?_⟩;have:y≠n:=λe=>hj (Dm hN e1 (e ▸ hi));simp[this,e]
   .exact .inr ⟨k,c,e,z.sameBut hs (i6 y c e)⟩
 .obtain⟨w',z⟩:=I.cell y c e;exact⟨w',z.sameBut hs (i6 y c e)⟩
 .obtain⟨e,n,ne,nf,d⟩:=I.pin p hp;exact⟨(hs.2 p.1 ne).trans e,n,ne,nf,d⟩
 .refine(I.ag b ob e).dh (λc w' hc q=>(hs.2 c ?_).trans q) (λ_ q=>q) λ_ _ q=>q;have fr:=I.free
  rintro rfl
  rcases hc with rfl|hc
  .rw[fr]at e;cases e
  .rw[fr]at hc;cases hc
end
structure iQ (K:e?)(C:c_):Prop where
 ga:G_ K (.ref C) "__getattribute__"=some (some (.builtin "BaseException.__getattribute__"))
 gn:G_ K (.ref C) "__getattr__"=some none
 cl:G_ K (.ref C) "__class__"=some (some (.builtin "object.__class__"))
 be:æ K C (.type "BaseException")=some true
 ob:æ K C (.type "object")=some true
 is:(aa8 K C).isSome=true
section
variable {prog:n_}{w:z?}{A:B?}{E:b_->d_->Prop}{K:e?}{h:k_}{g:C? aca}{d:Drawn}{t:j?}{os:OsState}{a C:c_}{o:J_}
theorem VT {M:aaJ}(hx:h.get? a=some o)(hc:o.cls= .ref C):P_ M h (adQ (.ref a)) (.ref C):=hc ▸ (P_.ld hx).andThen .now
theorem VU {R:ş->d_->Prop}{tp:b_}(X:K.In h)(I:iQ K C)(hx:h.get? a=some o)(hc:o.cls= .ref C)(hq:R (.ok (.ret (.ref C))) ⟨h,g,d,t,os⟩):Ð (m_ prog w) A (.call (.builtin "getset_descriptor.__get__") ⟨[.builtin "object.__class__",.ref a,tp],[]⟩) R ⟨h,g,d,t,os⟩:=by
 have L1:=ŭ (M:=m_ prog w) X I.ob;have Az:(⟨h,g,d,t,os⟩:d_).TypeIs (.builtin "object.__class__") "getset_descriptor":=Ŷ;refine ó acd.plain F.entry_gs_get (acd.check _ _ _ _ _ _ _ _ Az (F.args_gs_get _ _ _) ?_);have ow:=F.owner_object_class;repeat(any_goals (first|assumption|(with_reducible refine L? hx ?_;rw[hc])|(rw[ow];with_reducible refine L1.at ?_)|(with_reducible refine L1.at ?_)|wp_step))
 refine⟨Ĳ _ (by decide+kernel),Ž F.entry_object_class ?_⟩;repeat(any_goals (first|assumption|(with_reducible refine L? hx ?_;rw[hc])|wp_step))
theorem VV {tk:Tok}{Q:Fin->d_->Prop}(X:K.In h)(I:iQ K C)(hx:h.get? a=some o)(hc:o.cls= .ref C)(hq:Q (.done (.ret (.ref C))) ⟨h,g,d,t,os⟩):l_ (m_ prog w) A (Builtin.«object.__getattribute__» ⟨[.ref a,.str "__class__" tk],[]⟩) Q E ⟨h,g,d,t,os⟩:=by
 have Az:(⟨h,g,d,t,os⟩:d_).TypeIs (.builtin "object.__class__") "getset_descriptor":=Ŷ;have f5:=Ŷ;have f6:=acd.lookup;have f7:=F.slot_gs_set.lookup;have L1:=Y_ (M:=m_ prog w) X I.cl;repeat(any_goals (first|assumption|(with_reducible refine L? hx ?_;rw[hc])|(with_reducible refine L1.at ?_)|wp_step))
 refine VU X I hx hc ?_;repeat(any_goals (first|assumption|wp_step))
theorem VW {M:aaJ}{fq:b_}{Q:Unit->d_->Prop}(X:K.In h)(I:iQ K C)(hx:h.get? a=some o)(hc:o.cls= .ref C)(hq:Q () ⟨h,g,d,t,os⟩):l_ M A (Ū "BaseException.__getattribute__" ⟨[.ref a,fq],[]⟩) Q E ⟨h,g,d,t,os⟩:=by
 have hk:builtinKind "BaseException.__getattribute__"=some .slot:=by decide+kernel
 have qD:splitId "BaseException.__getattribute__"=some ("BaseException","__getattribute__"):=by decide+kernel
 have L1:=ŭ (M:=M) X I.be;have ha:=F.args_bexc_ga (.ref a) fq;simp only[Ū,hk,qD];refine d? ?_
 .unfold Ň;repeat(first|(with_reducible refine L? hx ?_;rw[hc])|(with_reducible refine L1.at ?_)|wp_step)
  exact hq
theorem VX {tk:Tok}{R:ş->d_->Prop}(X:K.In h)(I:iQ K C)(hx:h.get? a=some o)(hc:o.cls= .ref C)(hq:R (.ok (.ret (.ref C))) ⟨h,g,d,t,os⟩):Ð (m_ prog w) A (.call (.builtin "BaseException.__getattribute__") ⟨[.ref a,.str "__class__" tk],[]⟩) R ⟨h,g,d,t,os⟩:=
 ó adJ.ga.plain F.entry_bexc_ga (VW X I hx hc (VV X I hx hc hq))
theorem VY {tk:Tok}{Q:b_->d_->Prop}(X:K.In h)(I:iQ K C)(hx:h.get? a=some o)(hc:o.cls= .ref C)(hq:Q (.ref C) ⟨h,g,d,t,os⟩):l_ (m_ prog w) A (getAttrBy (.ref a) (.str "__class__" tk) false) Q E ⟨h,g,d,t,os⟩:=by
 have f3:=adJ.ga.bind (.ref a);have L1:=Y_ (M:=m_ prog w) X I.ga;have L2:=Y_ (M:=m_ prog w) X I.gn;have VZ:(aaw "BaseException.__getattribute__"==aaw "object.__getattribute__")=false:=by decide+kernel
 have vD:(onTheHeap (o? C)&&aaw "BaseException.__getattribute__"==aaw "object.__getattribute__")=false:=by rw[VZ];rfl
 repeat(any_goals (first|assumption|(with_reducible refine L? hx ?_;rw[hc])|(with_reducible refine L1.at ?_)|(with_reducible refine L2.at ?_)|wp_step))
 refine VX X I hx hc ?_;repeat(any_goals (first|assumption|wp_step))
theorem V0 {Q:f_ b_->d_->Prop}(X:K.In h)(I:iQ K C)(hx:h.get? a=some o)(hc:o.cls= .ref C)(hq:Q (some (.ref C)) ⟨h,g,d,t+1,os⟩):l_ (m_ prog w) A (getAttr? (.ref a) "__class__") Q E ⟨h,g,d,t,os⟩:=by unfold getAttr? getAttrBy?;repeat(any_goals (first|assumption|with_reducible apply VY X I hx hc|wp_step))
end
theorem V1 {K:e?}{ea C:c_}(I:iQ K C):PySem.W.KitX K (.ref ea) (.ref C) (λh=>∃o vs,h.get? ea=some o/\o.cls= .ref C/\o.data= .fields vs) where
 ty:=λ_ _ _ ⟨o,_,h1,h2,_⟩=>VT h1 h2
 it:=λ_ _ X _=>by
  have jA:=I.is;unfold aa8 at jA;split at jA
  .rename_i c' d' V2 oZ ho;intro A' Q' E' s' k q;unfold isType loadHead;exact d? (afi (k _ _ (X _ _ ho)) (h_ q))
  .cases jA
 ne:=λh tp dd its n sl X V3=>by
  refine ad2.mpr λq=>?_;have e:C=tp:=o?.inj (Á.mp q);subst e;have jA:=I.is;unfold aa8 at jA;split at jA
  .rename_i c' d' V2 oZ ho;have z:=(X _ _ ho).symm.trans V3;cases z
  .cases jA
 ca:=λ{_ _ _ _ _ s} X ⟨o,_,h1,h2,_⟩ k=>by obtain⟨hh,g,d,t,os⟩:=s;exact V0 X I h1 h2 k
section
variable {X:Cx}
theorem xk:cD X (.builtin "isinstance") (λxs H Q=>∃ea C y c b,xs=[.ref ea,y]/\H ea=some (nX ea (.ref C))/\iQ X.K C/\RelV y c/\K_ X.K (.ref C) c=some b/\Q (.bl b) H):=by
 intro pins s U H xs us Q I r h;obtain⟨ea,C,y,c,b,rfl,hH,hX,ry,hk,q⟩:=h;obtain⟨u,w,rfl,r1,r2⟩:=vals2 r;obtain rfl:u=o? ea:=r1;have hw:w=c:=by
  cases y with
  |ref z=>exact(show w=o? z from r2).trans (show c=o? z from ry).symm
  |ty z=>exact(show w=ĝ z from r2).trans (show c=ĝ z from ry).symm
  |ar=>exact(show w=Ğ from r2).trans (show c=Ğ from ry).symm
  |bl z=>exact(show w=À z from r2).trans (show c=À z from ry).symm
  |int z=>exfalso;obtain⟨_,rfl⟩:=ry;unfold K_ Ì at hk;simp at hk
  |str z=>exfalso;obtain⟨_,rfl⟩:=ry;unfold K_ Ì at hk;simp at hk
  |fZ z=>exfalso;obtain⟨_,rfl⟩:=ry;unfold K_ Ì at hk;simp at hk
  |ni z=>exfalso;obtain⟨_,rfl⟩:=ry;unfold K_ Ì at hk;simp at hk
 subst hw;obtain⟨p,_,_⟩:=(show y0 X.prog X.w H s.heap ea (nX ea (.ref C))from I.ag ea _ hH);exact O? (V1 hX) I.aW p hk (λz=>nomatch z) λtk=>(xa0 (.bl b) H ⟨I.tok tk,a_,q⟩)
end
theorem MC {A:B?}{s:d_}(k:s?)(bs:b? s?):∀y,y∈(bs.map À).toArray->z_ A s y (.bool k) (adC k y):=λy hy=>by
 have V4:y∈bs.map À:=by simpa using hy
 obtain⟨b,_,rfl⟩:=O_.mp V4;exact z_.bool_bool b k
theorem MD (k:s?):∀bs:b? s?,(bs.map À).countP (adC k)=bs.count k
 |[]=>a_
 |b::bs=>by rw[y?,b?.countP_cons,b?.count_cons,MD k bs];rfl
noncomputable def V5 (K:e?):V->b? V->Hp->VK->Prop:=λx vs H Q=>∃(l:c_)(bs:b? s?)(k:s?),x= .ref l/\vs=[.bl k]/\ah K H l (bs.map V.bl)/\Q (.int (bs.count k)) H
noncomputable def V6 (K:e?):V->b? V->Hp->VK->Prop:=λx vs H Q=>∃(l:c_)(bs:b? s?)(k:s?),x= .ref l/\vs=[.bl k]/\ah K H l (bs.map V.bl)/\k∈bs/\Q (.int (bs.idxOf k)) H
section
variable {X:Cx}
theorem V7:uD X "list.count" (V5 X.K):=by intro pins s U H x vs v us Q I rx rv h;obtain⟨l,bs,k,rfl,rfl,hH,q⟩:=h;cases rx;obtain⟨u,rfl,ru⟩:=rv.one;obtain rfl:u=À k:=ru;obtain⟨its,r,pl,hz⟩:=I.list hH;have e:=Am r;subst e;obtain⟨⟨cls,dd,data,sl⟩,ho,hc,n,hd⟩:=pl.isList;simp only at hc hd;subst hc hd;refine ã abk ⟨_,ho,a_⟩ PySem.F.entry_list_count (PySem.F.args_list_count_2 _ _) (SeqAt.list_countAt l _ n dd sl (.bool k) (adC k)) ⟨ho,λy hy=>MC k bs y hy,?_⟩;rw[show(bs.map À).toArray.toList=bs.map À from a_,MD k bs];exact(xa0 (.int (bs.count k)) H ⟨I.tok _,⟨_,a_⟩,q⟩)
theorem V8:uD X "list.index" (V6 X.K):=by
 intro pins s U H x vs v us Q I rx rv h;obtain⟨l,bs,k,rfl,rfl,hH,hk,q⟩:=h;cases rx;obtain⟨u,rfl,ru⟩:=rv.one;obtain rfl:u=À k:=ru;obtain⟨its,r,pl,hz⟩:=I.list hH;have e:=Am r;subst e;obtain⟨⟨cls,dd,data,sl⟩,ho,hc,n,hd⟩:=pl.isList;simp only at hc hd;subst hc hd;have hj:bs.idxOf k<bs.length:=acq.mpr hk;have nY:bs.length<=k?:=by rw[i?]at hz;exact hz
 have hs:(k?:i_)<2^63-1:=by decide
 refine ã abj ⟨_,ho,a_⟩ PySem.F.entry_list_index (PySem.F.args_list_index_2 _ _) (SeqAt.list_indexAt l _ n dd sl (.bool k) (adC k) (bs.idxOf k) (by simpa using hj) (by lia) ?_ ?_) ⟨ho,λy hy=>MC k bs y hy,?_⟩
 .have e:(bs.map À).toArray[bs.idxOf k]'(by simpa using hj)=À (bs[bs.idxOf k]):=by simp
  rw[e];show(bs[bs.idxOf k]==k)=true;simpa using List.getElem_idxOf hj
 .intro j cg aA;have hjl:j<bs.length:=by simpa using cg
  have e:(bs.map À).toArray[j]'cg=À (bs[j]):=by simp
  rw[e];show(bs[j]==k)=false;exact ad2.mpr λz=>by simpa[z]using acR (p:=(·==k)) (xs:=bs) (i:=j) aA
 .exact(xa0 (.int (bs.idxOf k)) H ⟨I.tok _,⟨_,a_⟩,q⟩)
end
end L2
namespace L2
open PySem
noncomputable def kinds (K:e?)(C:b_)(Ds:b? b_):b? (f_ s?):=Ds.map (K_ K C)
end L2
namespace L2
open PySem PySem.Spec PyProof.Rows
noncomputable def isStar:G?->s?
 | .Starred _ _=>true
 |_=>false
theorem V9 {e:G?}{es:b? G?}{env:š}(h:isStar e=false):x_ (e::es) env=(false,T? e env)::x_ es env:=by cases e<;>first|rfl|cases h
section
variable {X:Cx}{e:G?}{es:b? G?}{te:TE}{t:TA}
theorem jc (ha:PE X e te)(hr:PA X es t)(h:e_ (isStar e=false) aP1):PA X (e::es) (wc te t):=TX ha hr (V9 h)
end
noncomputable def nZ {α:Type}:b? α->b? α->b? α
 |[u0],[w0,w1]=>[u0,w0,w1]
 |_,_=>[]
theorem Wa {vs:b? V}{us:b? b_}{zs:b? V}{ws:b? b_}(r1:Vals vs us)(r2:Vals zs ws):Vals (nZ vs zs) (nZ us ws):=by rcases r1 with _|⟨a,_|⟨_,_⟩⟩<;>rcases r2 with _|⟨b,_|⟨c,_|⟨_,_⟩⟩⟩;all_goals first|exact .nil|exact .cons a (.cons b (.cons c .nil))
section
open PySem.SeqAt
open PySem.MeetsSeq PySem.MeetsSeq2 PySem.MeetsSeq3
theorem ME (k:i_)(t:Tok)(a:c_)(its:C? b_)(n:j?)(dd:f_ c_)(sl:C? (f_ b_)):aei (Builtin.«int.__rmul__» ⟨[.int k t,.ref a],[]⟩) (λ_ R s=>s.heap.get? a=some {cls:=.type "tuple",dict:=dd,data:=.seq its n,slots:=sl}/\R (.ok (.ret aaH)) s):=
 .of_wp λprog w A R s h=>by obtain⟨hp,g,d,tk,os⟩:=s;obtain⟨hl,h⟩:=h;have hT:d_.TypeIs ⟨hp,g,d,tk,os⟩ (.ref a) "tuple":=⟨_,hl,a_⟩;wp_walk using Ļ hT;exact⟨_,a_,h⟩
theorem Wb (a:c_)(its:C? b_)(n:j?)(dd:f_ c_)(sl:C? (f_ b_))(t:Tok):aei (Builtin.«tuple.__mul__» ⟨[.ref a,.int 1 t],[]⟩) (λ_ R s=>s.heap.get? a=some {cls:=.type "tuple",dict:=dd,data:=.seq its n,slots:=sl}/\R (.ok (.ret (.ref a))) s):=
 .of_wp λprog w A R s h=>by obtain⟨hp,g,d,tk,os⟩:=s;obtain⟨hl,h⟩:=h;have hT:d_.TypeIs ⟨hp,g,d,tk,os⟩ (.ref a) "tuple":=⟨_,hl,a_⟩;wp_walk using ĳ hl,Ļ hT;all_goals first|exact⟨_,a_,h⟩|exact h|skip
theorem Wc (a:c_)(its:C? b_)(n:j?)(dd:f_ c_)(sl:C? (f_ b_))(k:i_)(t:Tok)(h1:2<=k)(h2:k<2^63)(vE:its.isEmpty=false)(hz:its.size*k.toNat<=k?):aei (Builtin.«tuple.__mul__» ⟨[.ref a,.int k t],[]⟩) (λ_ R s=>s.heap.get? a=some {cls:=.type "tuple",dict:=dd,data:=.seq its n,slots:=sl}/\R (.ok (.ret (.ref s.heap.objs.size))) {s with heap:=s.heap.push {cls:=.type "tuple",data:=.seq ((l' k.toNat its).foldl (·++·) #[])}}):=
 .of_wp λprog w A R s h=>by
  obtain⟨hp,g,d,tk,os⟩:=s;obtain⟨hl,h⟩:=h;have hT:d_.TypeIs ⟨hp,g,d,tk,os⟩ (.ref a) "tuple":=⟨_,hl,a_⟩;have q1:(p_ (k< -(2^63))||decide (k>=2^63))=false:=by simp;lia
  have q2:(its.isEmpty||k==1)=false:=by rw[vE];simp;lia
  have q3:(p_ (k<=0)||its.isEmpty)=false:=by rw[vE];simp;lia
  have hs:((its.size:i_)*k)=((its.size*k.toNat:j?):i_):=by rw[i_.natCast_mul,ĸ (by lia)]
  have q4:¬((its.size:i_)*k>(2^63-1) / 8):=by
   have:(k?:j?)<=(2^63-1) / 8:=by decide
   rw[hs];lia
  have q5:Ő ((its.size:i_)*k)=false:=by rw[hs];unfold Ő;exact t_ (by lia)
  wp_walk using ĳ hl,Ļ hT;rw[f? (by rw[q1];exact p?)];wp_walk using ĳ hl;rw[f? (by rw[q2];exact p?)];show l_ _ _ (if(p_ (k<=0)||its.isEmpty)=true then _ else _) _ _ _;rw[f? (by rw[q3];exact p?)];show l_ _ _ (if(its.size:i_)*k>(2^63-1) / 8 then _ else _) _ _ _;rw[f? q4];show l_ _ _ (if Ő ((its.size:i_)*k)=true then _ else _) _ _ _;rw[f? (by rw[q5];exact p?)];show l_ _ _ (abJ _ >>= λv=>ret v) _ _ _;unfold abJ;have nY:((l' k.toNat its).foldl (·++·) #[]).size<=k?:=by
   have key:∀(m:j?)(acc:C? b_),((l' m its).foldl (·++·) acc).size=acc.size+m*its.size:=by
    intro m;induction m with
    |zero=>intro acc;simp
    |succ m ih=>intro acc;rw[X',ż,ih,C?.size_append,afA];lia
   rw[key,acP];simpa using hz
  exact d? (î (h_ ⟨_,a_,h⟩) nY)
theorem MF:fillsNumberSlot (.type "tuple") "mul"=Ø false:=PySem.fillsNumberSlot_seq (id:="tuple.__mul__") (r:=some (.builtin "tuple.__rmul__")) Š.lookup (by decide+kernel) adH.lookup (by decide+kernel)
theorem MG:seqRepeat? (.type "tuple")=Ø (some (.builtin "tuple.__mul__")):=by unfold seqRepeat?;rw[acZ (T:="tuple") (name:="__mul__") (id:="tuple.__mul__") Š.lookup (by decide+kernel),acZ (T:="tuple") (name:="__rmul__") (id:="tuple.__rmul__") adH.lookup (by decide+kernel)];rfl
end
section
variable {X:Cx}
noncomputable def We (K:e?):R2:=λx y H Q=>∃a k xs,x= .ref a/\y= .int k/\ax K H a xs/\xs≠[]/\1<=k/\k<2^63/\xs.length*k.toNat<=k?/\(k=1->Q (.ref a) H)/\(¬k=1->∀p,H p=none->Q (.ref p) (upd H p (.tup (l' k.toNat xs).flatten)))
theorem MH:bD X (ă .Mult) (We X.K):=by
 intro pins s U H x y v u Q I rx ry h;obtain⟨a,k,xs,rfl,rfl,hq,vE,h1,h2,hz,q1,q2⟩:=h;cases rx;obtain⟨t,rfl⟩:=ry;obtain⟨its,r,p,_⟩:=I.tuple hq;have hl:=r.length;obtain⟨⟨cls,dd,data,sl⟩,ho,hc,n,hd⟩:=id p;simp only at hc hd;subst hc hd;have Et:its.toArray.isEmpty=false:=by
  cases its with
  |nil=>exact v_ (b?.eq_nil_of_length_eq_zero hl) vE
  |cons _ _=>simp
 have hT:s.TypeIs (.ref a) "tuple":=⟨_,ho,a_⟩;by_cases k1:k=1
 .subst k1;refine ő (T:="tuple") (U:="int") (by decide) hT (λs'=>Ņ s' 1 t) MF abx ā MG aba.lookup (ã ā (Ņ s 1 t) abc (aaW _ _) (ME 1 t a its.toArray n dd sl) ⟨ho,a_,hT,ã Š hT adI (adA _ _) (Wb a its.toArray n dd sl t) ⟨ho,?_⟩⟩);exact(xa0 (.ref a) H ⟨I,a_,q1 a_⟩)
 .refine ő (T:="tuple") (U:="int") (by decide) hT (λs'=>Ņ s' k t) MF abx ā MG aba.lookup (ã ā (Ņ s k t) abc (aaW _ _) (ME k t a its.toArray n dd sl) ⟨ho,a_,hT,ã Š hT adI (adA _ _) (Wc a its.toArray n dd sl k t (by lia) h2 Et (by rw[D',<-hl];exact hz)) ⟨ho,?_⟩⟩);have jE:acT (λx1 x2=>x1++x2) #[] (l' k.toNat its.toArray)=(l' k.toNat its).flatten.toArray:=by
   have:=foldl_rep its k.toNat [];rw[abQ]at this;exact this
  rw[jE];refine(xa0 (.ref s.heap.objs.size) _ ⟨I.laid (t':=s.toks) (o:=.tup (l' k.toNat xs).flatten) (λb ob q=>g_ _ q) (s_ _) ?_,a_,q2 k1 _ I.fresh⟩);exact⟨by rw[len_rep,acP];exact hz,_,r.rep k.toNat,ē.new _ _⟩
end
section
variable {X:Cx}{pins:b? (c_×J_)}{U:St}{H:Hp}{s:d_}{a:c_}{o:J_}{u:HO}
theorem Inv.freeze (I:Inv X pins U H s)(hm:fO (some u))(ha:H a=some u)(ho:s.heap.get? a=some o):Inv X pins U (upd H a (.az o u)) s:=by
 have new:y0 X.prog X.w (upd H a (.az o u)) s.heap a (.az o u):=by
  refine⟨ho,(I.ag a u ha).dh (λ_ _ _ q=>q) (λc q=>?_) λc xs q=>?_⟩
  .have hc:c≠a:=λz=>by
    subst z;rw[ha]at q;cases q;exact hm
   rw[jd hc];exact q
  .have hc:c≠a:=λz=>by
    subst z;rw[ha]at q;cases q;exact hm
   rw[jd hc];exact q
 exact I.write (t':=s.toks) (x:=a) (e:=a) (o:=.az o u) (h':=s.heap) (by rw[ha];exact hm) (.inl a_) (λb v _ q=>q) ⟨o,ho⟩ new
theorem Inv.Eu (I:Inv X pins U H s)(ha:H a=some (.az o u))(h0:∀o' u',X.bC a≠some (.az o' u'))(hm:fO (some u)):Inv X pins U (upd H a u) s:=by
 have ne:∀{b:c_}{v:HO},H b=some v->(∀o' u',v≠.az o' u')->b≠a:=λ{b v} e h z=>by subst z;rw[ha]at e;exact h _ _ (o_ e).symm
 have AA:∀{b:c_},H b=none->b≠a:=λ{b} e z=>by subst z;rw[ha]at e;cases e
 refine⟨I.ok,I.os,I.bare,⟨I.base.keep,I.base.slot,λb ob e n hx=>?_,I.base.there,λb xs q=>?_,λb ob v q=>?_,λb ps q=>?_⟩,I.loc,I.cell,?_,λx c e=>?_,λp hp=>?_,λb v e=>?_,I.len⟩
 .have q:=I.base.free b ob e n hx;rw[jd (AA q)];exact q
 .have q':=I.base.cj b xs q;rw[jd (ne q' λ_ _ z=>nomatch z)];exact q'
 .have hb:b≠a:=λz=>by
   subst z;exact h0 _ _ q
  rw[jd hb];exact I.base.dU b ob v q
 .obtain⟨more,z⟩:=I.base.eU b ps q;exact⟨more,by rw[jd (ne z λ_ _ z=>nomatch z)];exact z⟩
 .rw[jd (AA I.free)];exact I.free
 .rw[jd (AA (I.dW x c e))];exact I.dW x c e
 .obtain⟨q1,q2,q3⟩:=I.pin p hp;exact⟨q1,by rw[jd (AA q2)];exact q2,q3⟩
 .have own:∀(c y:c_),H c=some (.own y)->upd H a u c=some (.own y):=λc y q=>by
   rw[jd (ne q λ_ _ z=>nomatch z)];exact q
  have tup:∀(c:c_)(xs:b? V),H c=some (.tup xs)->upd H a u c=some (.tup xs):=λc xs q=>by rw[jd (ne q λ_ _ z=>nomatch z)];exact q
  by_cases hb:b=a
  .subst hb;rw[ja]at e;cases e;obtain⟨_,q⟩:=I.ag _ _ ha;exact q.dh (λ_ _ _ q=>q) (λc q=>own c _ q) tup
  .rw[jd hb]at e;exact(I.ag b v e).dh (λ_ _ _ q=>q) (λc q=>own c _ q) tup
noncomputable def Wf (H0:Hp)(t:TS):TS:=λD U H=>
 let un:(Hp->Prop)->Hp->Prop:=λQ H'=>∃a o u,H' a=some (.az o u)/\(∀o' u',H0 a≠some (.az o' u'))/\fO (some u)/\Q (upd H' a u)
 t {nx:=λ U' H'=>un (D.nx U') H',rt:=λv H'=>un (D.rt v) H',bk:=D.bk,ct:=D.ct} U H
theorem Wg {st:I_}{t:TS}(h:PS X st t):PS X st (Wf X.bC t):=by
 intro pins s U H D I q;refine ai (h pins s U H _ I q) λf s1 q1=>?_;cases f with
 |next=>obtain⟨U1,H1,I1,a,o,u,ha,h0,hm,q⟩:=q1;exact(xa0 U1 _ ⟨I1.Eu ha h0 hm,q⟩)
 |ret v=>obtain⟨x,U1,H1,I1,r,a,o,u,ha,h0,hm,q⟩:=q1;exact(xa1 x U1 _ ⟨I1.Eu ha h0 hm,r,q⟩)
 |brk=>exact q1
 |cont=>exact q1
noncomputable def Wh (H0:Hp)(t:TE):TE:=λ U H Q=>t U H λv H'=>∃a o u,H' a=some (.az o u)/\(∀o' u',H0 a≠some (.az o' u'))/\fO (some u)/\Q v (upd H' a u)
theorem Ew {e:G?}{t:TE}(h:PE X e t):PE X e (Wh X.bC t):=by intro pins s U H Q I q;refine ai (h pins s U H _ I q) λv s1 zQ=>?_;obtain⟨x,H1,I1,r,a,o,u,ha,h0,hm,q⟩:=zQ;exact(xa0 x _ ⟨I1.Eu ha h0 hm,r,q⟩)
end
theorem Wi {k:Key}{v:b_}(h:oT k v=true):RelV (kV k) v:=by
 rcases ya h with⟨i,t,rfl,rfl⟩|⟨x,t,rfl,rfl⟩
 .exact⟨t,a_⟩
 .exact⟨t,a_⟩
noncomputable def vF (a:c_)(o:J_)(aa:b? (Key×V)):It where
 go:=λi H=>i<aa.length/\H a=some (.az o (.dK aa))
 eF:=λi H x H'=>H'=H/\∃kv,aa[i]?=some kv/\x=kV kv.1
 stop:=λi H=>aa.length<=i/\H a=some (.az o (.dK aa))
theorem MI {aa:b? (Key×V)}{vs:b? (Key×b_)}:∀{i:j?}{kv:Key×V},KV aa vs->aa[i]?=some kv->∃v,vs[i]?=some (kv.1,v)/\RelV kv.2 v:=by
 intro i kv r;unfold KV at r;induction r generalizing i with
 |nil=>intro e;simp at e
 |@cons p q ps qs h t ih=>
  intro e;cases i with
  |zero=>have e':=o_ e;subst e';exact⟨q.2,by rw[h.1];rfl,h.2⟩
  |succ i=>exact ih e
theorem Wj {P:n_}{w:z?}{K:e?}{tg:G?}(a it:c_)(o:J_)(aa:b? (Key×V))(es:C? ì)(ep:j?)(hd:o.data= .dict es ep):Turn P w K tg (vF a o aa) [it] it (λi h=>h.IsKeyIter it a i aa.length ep) where
 mem:=by simp
 obj:=λi h st b hb=>by
  have e:b=it:=by simpa using hb
  subst e;obtain⟨o,e,c,d⟩:=st;exact⟨o,e,λv z=>by rw[d]at z;cases z⟩
 keep:=λi h h' st k=>st.at λo e=>k it (by simp) o e
 item:=by
  intro X hP hw hK hc i pins s U H E I hf st hg;subst hP hw hK;obtain⟨hi,hq⟩:=hg;obtain⟨ho,hz,hs,vs,r,o',gB,dX,aQ,ft,aX,r1,r2,r3⟩:=I.ag a _ hq;have eo:o'=o:=o_ (aQ.symm.trans ho);subst eo;have ee:dX=ep:=by rw[hd]at aX;cases aX;rfl
  subst ee;have hlen:aa.length=vs.length:=q? r;have hm:s.heap.DictAt (qp X.prog X.w) a vs dX:=(xa0 o' gB ⟨ho,ft,aX,r1,r2,r3⟩);obtain⟨kv,n9⟩:∃kv,aa[i]?=some kv:=⟨aa[i],by simp[hi]⟩;obtain⟨v,ev,rv⟩:=MI r n9;obtain⟨f0,f1,f2,f3,f4,f5⟩:=hf it (by simp);rw[hlen]at st;refine wpAny_pyNext_dict_item st hm ev λkey h' hk bG sb=>?_;have I1:Inv X pins U H {s with heap:=h'}:=I.turned (t':=s.toks) (λb o hb e=>(sb.2 b hb).trans e) f0 f1 f3 f4 f5;rw[<-hlen]at bG;obtain⟨oi,ei,ci,di⟩:=id bG;exact⟨key,a_,pH (s:={s with heap:=h'}) ei ci di (by decide) (xa0 (kV kv.1) H ⟨I1,Wi hk,⟨a_,kv,n9,a_⟩,bG,λb hb=>(hf b hb).1⟩)⟩
 done:=by
  intro X hP hw hK hc i pins s U H E I hf st hg;subst hP hw hK;obtain⟨hi,hq⟩:=hg;obtain⟨ho,hz,hs,vs,r,o',gB,dX,aQ,ft,aX,r1,r2,r3⟩:=I.ag a _ hq;have eo:o'=o:=o_ (aQ.symm.trans ho);subst eo;have ee:dX=ep:=by rw[hd]at aX;cases aX;rfl
  subst ee;have hlen:aa.length=vs.length:=q? r;have hm:s.heap.DictAt (qp X.prog X.w) a vs dX:=(xa0 o' gB ⟨ho,ft,aX,r1,r2,r3⟩);obtain⟨f0,f1,f2,f3,f4,f5⟩:=hf it (by simp);rw[hlen]at st;exact wpAny_pyNext_dict_end (I.ok.hd hc) st hm (acg.mpr (by lia)) λh' eb=>⟨a_,I.turned (t':=s.toks) (λb o hb e=>eb b o hb e) f0 f1 f3 f4 f5⟩
 self:=λ_ _ _ _ _ st h=>aan st h
noncomputable def Wk (tl:TE):TI:=λ U H R=>tl U H λx H1=>∃a aa,x= .ref a/\H1 a=some (.dK aa)/\∀o,R (vF a o aa) (upd H1 a (.az o (.dK aa)))
theorem Wm {X:Cx}{tg l:G?}{tl:TE}(hl:PE X l tl):PI X tg l (Wk tl):=by
 intro pins s U H R I h;refine ai (hl pins s U H _ I h) λv s1 zQ=>?_;obtain⟨x,H1,I1,r1,q1⟩:=zQ;obtain⟨a,aa,e,hq,q⟩:=q1;subst e;cases r1;obtain⟨hz,hs,vs,r,o,es,ep,ho,hx,hd,r1,r2,r3⟩:=I1.ag a _ hq;have hlen:aa.length=vs.length:=q? r;have hm:s1.heap.DictAt (qp X.prog X.w) a vs ep:=(xa0 o es ⟨ho,hx,hd,r1,r2,r3⟩);refine wpAny_pyIter_dict hs hm ?_;have I2:=I1.freeze (show fO (some (HO.dK aa))from q_) hq ho;have hn:upd H1 a (.az o (.dK aa)) s1.heap.objs.size=none:=I2.ag.fresh (s_ _);refine(xa3 s1.heap.objs.size [s1.heap.objs.size] _ _ _ ⟨a_,I2.kept (t':=s1.toks) λb o e=>g_ _ e,Wj a _ o aa es ep hd,?_,λb hb=>?_,q o⟩)
 .rw[hlen];exact⟨_,x? _ a_,a_,a_⟩
 .have e:b=s1.heap.objs.size:=by simpa using hb
  subst e;exact I2.pG (s_ _) hn
noncomputable def lj (v d:c_):HO:=.ext λh=>h.IsValuesView v d
noncomputable def Ex (a:c_)(o:J_)(aa:b? (Key×V)):It where
 go:=λi H=>i<aa.length/\H a=some (.az o (.dK aa))
 eF:=λi H x H'=>H'=H/\∃kv,aa[i]?=some kv/\x=kv.2
 stop:=λi H=>aa.length<=i/\H a=some (.az o (.dK aa))
section
variable {X:Cx}
theorem Wn:uD X "dict.values" (λx xs H Q=>∃d aa,x= .ref d/\xs=[]/\H d=some (.dK aa)/\∀p,H p=none->Q (.ref p) (upd H p (lj p d))):=by intro pins s U H x xs v us Q I rx rs h;obtain⟨d,aa,rfl,rfl,hq,q⟩:=h;cases rx;cases rs;obtain⟨hz,hs,vs,r,hd⟩:=I.ag d _ hq;refine ļ abb hd.typeIs PySem.F.entry_dict_values (PySem.F.args_dict_values_1 _) (meets_dict_values (qp X.prog X.w) d hs) ⟨⟨vs,hd⟩,?_⟩;refine(xa0 (.ref s.heap.objs.size) _ ⟨I.laid (t':=s.toks) (o:=lj s.heap.objs.size d) (λb ob q=>g_ _ q) (s_ _) ?_,a_,q _ I.fresh⟩);refine⟨⟨_,x? _ a_,a_,a_⟩,⟨_,x? _ a_⟩,λh1 h2 p k=>?_⟩;obtain⟨o,e,c,d⟩:=p;exact⟨o,k o e,c,d⟩
end
theorem Wo {P:n_}{w:z?}{K:e?}{tg:G?}(a it:c_)(o:J_)(aa:b? (Key×V))(es:C? ì)(ep:j?)(hd:o.data= .dict es ep):Turn P w K tg (Ex a o aa) [it] it (λi h=>h.IsValIter it a i aa.length ep) where
 mem:=by simp
 obj:=λi h st b hb=>by
  have e:b=it:=by simpa using hb
  subst e;obtain⟨o,e,c,d⟩:=st;exact⟨o,e,λv z=>by rw[d]at z;cases z⟩
 keep:=λi h h' st k=>st.at λo e=>k it (by simp) o e
 item:=by
  intro X hP hw hK hc i pins s U H E I hf st hg;subst hP hw hK;obtain⟨hi,hq⟩:=hg;obtain⟨ho,hz,hs,vs,r,o',gB,dX,aQ,ft,aX,r1,r2,r3⟩:=I.ag a _ hq;have eo:o'=o:=o_ (aQ.symm.trans ho);subst eo;have ee:dX=ep:=by rw[hd]at aX;cases aX;rfl
  subst ee;have hlen:aa.length=vs.length:=q? r;have hm:s.heap.DictAt (qp X.prog X.w) a vs dX:=(xa0 o' gB ⟨ho,ft,aX,r1,r2,r3⟩);obtain⟨kv,n9⟩:∃kv,aa[i]?=some kv:=⟨aa[i],by simp[hi]⟩;obtain⟨v,ev,rv⟩:=MI r n9;obtain⟨f0,f1,f2,f3,f4,f5⟩:=hf it (by simp);rw[hlen]at st;refine wpAny_pyNext_values_item st hm ev λh' bG sb=>?_;have I1:Inv X pins U H {s with heap:=h'}:=I.turned (t':=s.toks) (λb o hb e=>(sb.2 b hb).trans e) f0 f1 f3 f4 f5;rw[<-hlen]at bG;obtain⟨oi,ei,ci,di⟩:=id bG;exact⟨v,a_,pH (s:={s with heap:=h'}) ei ci di (by decide) (xa0 kv.2 H ⟨I1,rv,⟨a_,kv,n9,a_⟩,bG,λb hb=>(hf b hb).1⟩)⟩
 done:=by
  intro X hP hw hK hc i pins s U H E I hf st hg;subst hP hw hK;obtain⟨hi,hq⟩:=hg;obtain⟨ho,hz,hs,vs,r,o',gB,dX,aQ,ft,aX,r1,r2,r3⟩:=I.ag a _ hq;have eo:o'=o:=o_ (aQ.symm.trans ho);subst eo;have ee:dX=ep:=by rw[hd]at aX;cases aX;rfl
  subst ee;have hlen:aa.length=vs.length:=q? r;have hm:s.heap.DictAt (qp X.prog X.w) a vs dX:=(xa0 o' gB ⟨ho,ft,aX,r1,r2,r3⟩);obtain⟨f0,f1,f2,f3,f4,f5⟩:=hf it (by simp);rw[hlen]at st;exact wpAny_pyNext_values_end (I.ok.hd hc) st hm (acg.mpr (by lia)) λh' eb=>⟨a_,I.turned (t':=s.toks) (λb o hb e=>eb b o hb e) f0 f1 f3 f4 f5⟩
 self:=λ_ _ _ _ _ st h=>wpAny_pyIter_valiter st h
noncomputable def Wq (tl:TE):TI:=λ U H R=>tl U H λx H1=>∃v a aa,x= .ref v/\H1 v=some (lj v a)/\H1 a=some (.dK aa)/\∀o,R (Ex a o aa) (upd H1 a (.az o (.dK aa)))
theorem Wr {X:Cx}{tg l:G?}{tl:TE}(hl:PE X l tl):PI X tg l (Wq tl):=by
 intro pins s U H R I h;refine ai (hl pins s U H _ I h) λv s1 zQ=>?_;obtain⟨x,H1,I1,r1,q1⟩:=zQ;obtain⟨v,a,aa,e,hv,hq,q⟩:=q1;subst e;cases r1;obtain⟨hz,hs,vs,r,o,es,ep,ho,hx,hd,r1,r2,r3⟩:=I1.ag a _ hq;have hlen:aa.length=vs.length:=q? r;have hm:s1.heap.DictAt (qp X.prog X.w) a vs ep:=(xa0 o es ⟨ho,hx,hd,r1,r2,r3⟩);obtain⟨Ws,_,_⟩:=(show y0 X.prog X.w H1 s1.heap v (lj v a)from I1.ag v _ hv);refine wpAny_pyIter_values Ws hm ?_;have I2:=I1.freeze (show fO (some (HO.dK aa))from q_) hq ho;have hn:upd H1 a (.az o (.dK aa)) s1.heap.objs.size=none:=I2.ag.fresh (s_ _);refine(xa3 s1.heap.objs.size [s1.heap.objs.size] _ _ _ ⟨a_,I2.kept (t':=s1.toks) λb o e=>g_ _ e,Wo a _ o aa es ep hd,?_,λb hb=>?_,q o⟩)
 .rw[hlen];exact⟨_,x? _ a_,a_,a_⟩
 .have e:b=s1.heap.objs.size:=by simpa using hb
  subst e;exact I2.pG (s_ _) hn
end L2
namespace bO
open PySem PyProof.Rows PySem.W
noncomputable def Wp (f:j?->j?->s?)(n:j?){α:Type}:KasT α->(α->Prop)->Prop
 | .ret a,R=>R a
 | .ask i j k,R=>i<n/\j<n/\i≠j/\Wp f n (k (f i j)) R
theorem Wp.mono {f:j?->j?->s?}{n:j?}{α:Type}{R R':α->Prop}(h:∀a,R a->R' a):∀{t:KasT α},Wp f n t R->Wp f n t R'
 | .ret a,q=>h a q
 | .ask _ _ _,⟨a,b,c,q⟩=>⟨a,b,c,Wp.mono h q⟩
theorem Wp.bind {f:j?->j?->s?}{n:j?}{α β:Type}{g:α->KasT β}{R:β->Prop}:∀{t:KasT α},Wp f n t (λa=>Wp f n (g a) R)->Wp f n (t.bind g) R
 | .ret _,q=>q
 | .ask _ _ _,⟨a,b,c,q⟩=>⟨a,b,c,Wp.bind q⟩
structure iR (f:j?->j?->s?)(n:j?):Prop where
 aJ:∀i j,i<n->j<n->i≠j->f i j=false->f j i=true
 MJ:∀i j,i<n->j<n->f i j=true->f j i=false
 tr:∀i j k,i<n->j<n->k<n->f i j=true->f j k=true->f i k=true
noncomputable def P (n:j?)(p:C? j?):Prop:=p.toList.Perm (U_ n)
section
variable {n:j?}{p:C? j?}
theorem P.size (h:P n p):p.size=n:=by have:=h.length_eq;rw[Ź]at this;simpa using this
theorem getD_eq {k:j?}(h:k<p.size):p.getD k 0=p[k]:=by simp[C?.getD,h]
theorem P.lt (h:P n p){k:j?}(hk:k<n):p.getD k 0<n:=by have hs:=h.size;rw[getD_eq (by lia)];exact ħ.mp (h.mem_iff.mp (by simp))
theorem P.inj (h:P n p){a b:j?}(ha:a<n)(hb:b<n)(e:p.getD a 0=p.getD b 0):a=b:=by have hs:=h.size;rw[getD_eq (by lia),getD_eq (by lia)]at e;have nd:p.toList.Nodup:=h.nodup_iff.mpr abG;exact(abH (h₀:=by simp;lia) (h₁:=by simp;lia) nd).mp (by simpa using e)
noncomputable def Up (f:j?->j?->s?)(p:C? j?)(m:j?):Prop:=∀a b,a<b->b<m->f (p.getD a 0) (p.getD b 0)=true
noncomputable def Down (f:j?->j?->s?)(p:C? j?)(m:j?):Prop:=∀a b,a<b->b<m->f (p.getD b 0) (p.getD a 0)=true
variable {f:j?->j?->s?}
theorem Up.more (T:iR f n)(hp:P n p){m:j?}(h1:1<=m)(hm:m<n)(u:Up f p m)(h:f (p.getD (m-1) 0) (p.getD m 0)=true):Up f p (m+1):=by
 intro a b ab bm;by_cases e:b=m
 .subst e;by_cases e2:a=b-1
  .subst e2;exact h
  .exact T.tr _ _ _ (hp.lt (by lia)) (hp.lt (by lia)) (hp.lt hm) (u a (b-1) (by lia) (by lia)) h
 .exact u a b ab (by lia)
theorem Down.more (T:iR f n)(hp:P n p){m:j?}(h1:1<=m)(hm:m<n)(u:Down f p m)(h:f (p.getD m 0) (p.getD (m-1) 0)=true):Down f p (m+1):=by
 intro a b ab bm;by_cases e:b=m
 .subst e;by_cases e2:a=b-1
  .subst e2;exact h
  .exact T.tr _ _ _ (hp.lt hm) (hp.lt (by lia)) (hp.lt (by lia)) h (u a (b-1) (by lia) (by lia))
 .exact u a b ab (by lia)
theorem asc (T:iR f n)(hp:P n p):∀(c m:j?),1<=m->m+c<=n->Up f p m->Wp f n (kas_asc p c m) λr=>m<=r/\r<=m+c/\Up f p r/\(r<m+c->f (p.getD r 0) (p.getD (r-1) 0)=true)
 |0,m,_,_,u=>⟨s_ _,s_ _,u,λh=>v_ h (by lia)⟩
 |c+1,m,h1,hm,u=>by
  refine⟨hp.lt (by lia),hp.lt (by lia),λe=>?_,?_⟩
  .have:=hp.inj (by lia) (by lia) e;lia
  cases h:f (p.getD m 0) (p.getD (m-1) 0)with
  |true=>exact⟨s_ _,by lia,u,λ_=>h⟩
  |false=>have u':=u.more T hp h1 (by lia) (T.aJ _ _ (hp.lt (by lia)) (hp.lt (by lia)) (λe=>by have:=hp.inj (by lia) (by lia) e;lia) h);show Wp f n (kas_asc p c (m+1)) _;refine(asc T hp c (m+1) (by lia) (by lia) u').mono λr q=>?_;exact⟨by lia,by lia,q.2.2.1,λz=>q.2.2.2 (by lia)⟩
theorem desc (T:iR f n)(hp:P n p):∀(c m:j?),2<=m->m+c<=n->Down f p m->Wp f n (kas_desc c p m 0) λr=>r.1=p/\r.2.2=0/\m<=r.2.1/\r.2.1<=m+c/\Down f p r.2.1
 |0,m,_,_,u=>⟨a_,a_,s_ _,s_ _,u⟩
 | c+1,m,h1,hm,u=>by
  refine⟨hp.lt (by lia),hp.lt (by lia),λe=>?_,?_⟩
  .have:=hp.inj (by lia) (by lia) e;lia
  cases h:f (p.getD m 0) (p.getD (m-1) 0)with
  |true=>show Wp f n (kas_desc c p (m+1) 0) _;refine(desc T hp c (m+1) (by lia) (by lia) (u.more T hp (by lia) (by lia) h)).mono λr q=>?_;exact⟨q.1,q.2.1,by lia,by lia,q.2.2.2.2⟩
  |false=>
   have h':=T.aJ _ _ (hp.lt (by lia)) (hp.lt (by lia)) (λe=>by have:=hp.inj (by lia) (by lia) e;lia) h;refine⟨hp.lt (by lia),hp.lt (by lia),λe=>?_,?_⟩
   .have:=hp.inj (by lia) (by lia) e;lia
   rw[h'];exact⟨a_,a_,s_ _,j?.le_add_right _ _,u⟩
theorem vG {q:C? j?}{a b:j?}(e:q[a]?=p[b]?):q.getD a 0=p.getD b 0:=by rw[abT,abT,e]
theorem MK (hp:P n p){m:j?}(hm:m<=n)(k:j?):(kas_rev p 0 m).getD k 0=if k<m then p.getD (m-1-k) 0 else p.getD k 0:=by
 have h:=getElem?_mirror_all (xs:=p) (i:=0) (j:=m) (by rw[hp.size];exact hm) k;by_cases hk:k<m
 .rw[j_ hk];rw[j_ ⟨W_ _,hk⟩]at h;refine vG (h.trans ?_);congr 1;lia
 .rw[f? hk];rw[f? (by lia)]at h;exact vG h
theorem ML (hp:P n p)(m:j?):P n (kas_rev p 0 m):=(ack.mp (mirror_perm p 0 m _)).trans hp
theorem Wt (hp:P n p){m:j?}(hm:m<=n)(d:Down f p m):Up f (kas_rev p 0 m) m:=by intro a b ab bm;rw[MK hp hm,MK hp hm,j_ (by lia),j_ bm];exact d _ _ (by lia) (by lia)
theorem tail3 (T:iR f n)(hp:P n p){m:j?}(h1:1<=m)(hm:m<=n)(d:Down f p m):Wp f n (kas_tail3 m n p) λr=>1<=r.1/\r.1<=n/\P n r.2/\Up f r.2 r.1:=by refine Wp.bind ((asc T (ML hp m) (n-m) m h1 (by lia) (Wt hp hm d)).mono λr q=>?_);exact⟨by lia,by lia,ML hp m,q.2.2.1⟩
theorem count (T:iR f n)(hp:P n p)(h1:1<=n):Wp f n (kas_count n p) λr=>1<=r.1/\r.1<=n/\P n r.2/\Up f r.2 r.1:=by
 refine Wp.bind ((asc T hp (n-1) 1 (s_ _) (by lia) (λa b ab hb=>v_ hb (by lia))).mono λm q=>?_);obtain⟨q1,q2,q3,q4⟩:=q;by_cases e:m=n
 .rw[j_ (by simp[e])];exact⟨q1,by lia,hp,q3⟩
 .rw[f? (by simp[e])];by_cases e2:m>1
  .rw[j_ e2];refine⟨hp.lt (by lia),hp.lt (by lia),λz=>?_,?_⟩
   .have:=hp.inj (by lia) (by lia) z;lia
   rw[q3 0 (m-1) (by lia) (by lia)];exact⟨q1,by lia,hp,q3⟩
  .rw[f? e2];have e3:m=1:=by lia
   subst e3;have h:=q4 (by lia);have d2:Down f p 2:=λa b ab hb=>by
    have ea:a=0:=by lia
    have eb:b=1:=by lia
    subst ea eb;exact h
   refine Wp.bind ((desc T hp (n-2) 2 (s_ _) (by lia) d2).mono λr q=>?_);obtain⟨r1,r2,r3,r4,r5⟩:=q;rw[f? (by lia),r1];exact tail3 T hp (by lia) (by lia) r5
theorem place (T:iR f n)(hp:P n p){k:j?}(hk:k<n)(u:Up f p k):∀(c l r:j?),l<=r->r<=k->r-l<=c->(∀i,i<l->f (p.getD i 0) (p.getD k 0)=true)->(∀i,r<=i->i<k->f (p.getD k 0) (p.getD i 0)=true)->Wp f n (aez p k c l r) λq=>q<=k/\(∀i,i<q->f (p.getD i 0) (p.getD k 0)=true)/\(∀i,q<=i->i<k->f (p.getD k 0) (p.getD i 0)=true)
 |0,l,r,h1,h2,h3,h4,h5=>⟨by lia,h4,λi a b=>h5 i (by lia) b⟩
 | c+1,l,r,h1,h2,h3,h4,h5=>by
  show Wp f n (if l>=r then .ret l else _) _;by_cases e:l>=r
  .rw[j_ e];exact⟨by lia,h4,λi a b=>h5 i (by lia) b⟩
  .rw[f? e];refine⟨hp.lt hk,hp.lt (by lia),λz=>?_,?_⟩
   .have:=hp.inj hk (by lia) z;lia
   cases h:f (p.getD k 0) (p.getD ((l+r) / 2) 0)with
   |true=>
    show Wp f n (aez p k c l ((l+r) / 2)) _;refine place T hp hk u c l _ (by lia) (by lia) (by lia) h4 λi a b=>?_;by_cases ei:i=(l+r) / 2
    .rw[ei];exact h
    .exact T.tr _ _ _ (hp.lt hk) (hp.lt (by lia)) (hp.lt (by lia)) h (u _ _ (by lia) b)
   |false=>
    have h':=T.aJ _ _ (hp.lt hk) (hp.lt (by lia)) (λz=>by have:=hp.inj hk (by lia) z;lia) h;show Wp f n (aez p k c ((l+r) / 2+1) r) _;refine place T hp hk u c _ r (by lia) h2 (by lia) (λi a=>?_) h5;by_cases ei:i=(l+r) / 2
    .rw[ei];exact h'
    .exact T.tr _ _ _ (hp.lt (by lia)) (hp.lt (by lia)) (hp.lt hk) (u _ _ (by lia) (by lia)) h'
theorem MM (hp:P n p){k l:j?}(hk:k<n)(hl:l<=k)(i:j?):(bubble p k (k-l)).getD i 0=if i=l then p.getD k 0 else if l<i/\i<=k then p.getD (i-1) 0 else p.getD i 0:=by
 have h:=getElem?_bubble (xs:=p) (src:=k) (by rw[hp.size];exact hk) (k-l) (by lia) i;rw[show k-(k-l)=l by lia]at h;by_cases e:i=l
 .rw[j_ e]at h⊢;exact vG h
 .rw[f? e]at h⊢;by_cases e2:l<i/\i<=k
  .rw[j_ e2]at h⊢;exact vG h
  .rw[f? e2]at h⊢;exact vG h
theorem Wu (hp:P n p){k l:j?}(hk:k<n)(hl:l<=k)(u:Up f p k)(h1:∀i,i<l->f (p.getD i 0) (p.getD k 0)=true)(h2:∀i,l<=i->i<k->f (p.getD k 0) (p.getD i 0)=true):Up f (bubble p k (k-l)) (k+1):=by
 intro a b ab bm;rw[MM hp hk hl,MM hp hk hl];by_cases ea:a=l
 .rw[j_ ea,f? (by lia),j_ ⟨by lia,by lia⟩];exact h2 _ (by lia) (by lia)
 .rw[f? ea];by_cases eb:b=l
  .rw[f? (by lia),j_ eb];exact h1 _ (by lia)
  .rw[f? eb];by_cases e1:l<a/\a<=k
   .rw[j_ e1,j_ ⟨by lia,by lia⟩];exact u _ _ (by lia) (by lia)
   .rw[f? e1];by_cases e2:l<b/\b<=k
    .rw[j_ e2];exact u _ _ (by lia) (by lia)
    .rw[f? e2];exact u _ _ ab (by lia)
theorem Wv (hp:P n p)(k d:j?):P n (bubble p k d):=(ack.mp (bubble_perm p k d)).trans hp
end
theorem bin {f:j?->j?->s?}{n:j?}(T:iR f n):∀(c:j?)(p:C? j?)(k:j?),P n p->k+c<=n->Up f p k->Wp f n (kas_bin c p k) λr=>P n r/\Up f r (k+c)
 |0,p,k,hp,_,u=>⟨hp,u⟩
 |c+1,p,k,hp,hk,u=>by refine Wp.bind ((place T hp (k:=k) (by lia) u k 0 k (W_ _) (s_ _) (by lia) (λi h=>v_ h (by lia)) (λi a b=>v_ b (by lia))).mono λl q=>?_);refine(bin T c _ (k+1) (Wv hp k _) (by lia) (Wu hp (by lia) q.1 u q.2.1 q.2.2)).mono λr q=>?_;rw[show k+1+c=k+(c+1)by lia]at q;exact q
theorem Ww (n:j?):P n (ado (U_ n)):=by unfold P;rw[aaO]
theorem sort {f:j?->j?->s?}{n:j?}(T:iR f n)(h1:1<=n):Wp f n (aft n) λr=>P n r/\Up f r n:=by
 refine Wp.bind ((count T (Ww n) h1).mono λr q=>?_);obtain⟨q1,q2,q3,q4⟩:=q;by_cases e:r.1<n
 .rw[j_ e];refine(bin T _ _ _ q3 (by lia) (by rw[show max r.1 1=r.1 by lia];exact q4)).mono λz q=>?_;rw[show max r.1 1+(n-max r.1 1)=n by lia]at q;exact q
 .rw[f? e];exact⟨q3,by rw[show n=r.1 by lia];exact q4⟩
end bO
namespace L2
open PySem PySem.Spec PyProof.Rows PySem.W
section
variable {prog:n_}{w:z?}{A:B?}{E:b_->d_->Prop}{s:d_}
theorem MN {Q:s?->d_->Prop}:∀{vs us:b? b_}{ns ms:b? i_}(i:j?),U? vs ns->U? us ms->Q (HT.lexLt ns ms) s->KatLex prog w A true (p_ (ns.length<ms.length)) Q (vs.zip us) i s
 |[],[],[],[],_,_,_,q=>aef (by simpa[HT.lexLt]using q)
 |[],_::_,[],_::_,_,_,_,q=>aef (by simpa[HT.lexLt]using q)
 |_::_,[],_::_,[],_,_,_,q=>aef (by simpa[HT.lexLt]using q)
 | _::vs,_::us,n::ns,m::ms,i,.cons _ t hv,.cons _ t' hu,q=>by
  rw[HT.uB]at q;refine afs (aev (kat_go (λe=>?_) λe=>?_))
  .have e':n=m:=by simpa using e
   rw[j_ e']at q;refine kat_yes ?_;show KatLex prog w A true _ Q (vs.zip us) (i+1) s;have h:=MN (i+1) hv hu q;rw[show p_ ((n::ns).length<(m::ms).length)=p_ (ns.length<ms.length)by simp];exact h
  .have e':¬n=m:=by simpa using e
   rw[f? e']at q;refine kat_no ?_;cases i with
   |zero=>exact oneLt_int q
   |succ i=>exact kat_one _ _ (aaF q)
theorem Wx {a:c_}{vs:b? b_}{n:j?}{R:PySem.Fin->d_->Prop}{Good:C? j?->Prop}(ho:s.heap.get? a=some (ö "list" vs.toArray n))(oa:vs.length<64)(ask:2<=vs.length->∀s':d_,(∀b o,b≠a->s.heap.get? b=some o->s'.heap.get? b=some o)->l_ (m_ prog w) A (keyKind' vs.toArray) (λ B s1=>s1=s'/\(aft vs.length).kasWp (kas_ask prog w A B vs) (λp s2=>s2=s'/\Good p) s') (λ_ _=>v?) s')(one:vs.length<2->R (.done (.ret .none)) {s with heap:=adX s.heap a vs vs.toArray})(more:∀p:C? j?,p.size=vs.length->Good p->R (.done (.ret .none)) {s with heap:=adX s.heap a vs (ado (p.toList.map λi=>vs.getD i Ğ))}):
  l_ (m_ prog w) A (Builtin.«list.sort» ⟨[.ref a],[]⟩) R E s:=by
 have big:(64:j?)<=k?:=by decide
 obtain⟨e1,iS⟩:∃e1,(s.heap.update a (Å λ_=>#[])).get? a=some (ö "list" #[] e1):=⟨_,get?_update_seq ho (λ_=>#[])⟩;have la:a<(s.heap.update a (Å λ_=>(#[]:C? b_))).objs.size:=u? iS;have AB:=g_ (ö "list" #[] 0) (g_ (ö "tuple" vs.toArray 0) iS);have old:∀b o,b≠a->s.heap.get? b=some o->(((s.heap.update a (Å λ_=>#[])).push (ö "tuple" vs.toArray 0)).push (ö "list" #[] 0)).get? b=some o:=λb o hb e=>g_ _ (g_ _ ((ŉ _ _ _ _ hb).trans e));rw[list_sort_plain];refine d? (listItems_at ho a_ (d? (acx ho a_ (d? (adB iS a_ (d? (wpAny_newTuple (d? (acr (L_ ?_) (W_ _))) (by show vs.length<=_;lia))))) (by show vs.toArray.size<=_;simp;lia) (W_ _))));by_cases h2:vs.length<2
 .have gZ:vs.toArray.size<2:=by simpa using h2
  have e:((vs.toArray.zip vs.toArray).map λx:b_×b_=>x.2)=vs.toArray:=by apply aeP.mp;simp;exact b?.map_snd_zip (s_ _)
  dsimp only;rw[j_ gZ,j_ gZ];refine d? (h_ ?_);rw[StateT.run_pure];refine d? (h_ (d? (adB AB a_ (d? (acx AB a_ ?_ (W_ _) ?_)))))
  .simp only[ad5,Ĝ,abU];have q:=one h2;rw[<-e]at q;exact h_ q
  .show((vs.toArray.zip vs.toArray).map λx:b_×b_=>x.2).size<=_;rw[e];simp;lia
 .have gZ:¬vs.toArray.size<2:=by simpa using h2
  dsimp only;rw[f? gZ,f? gZ];refine d? (F' (ask (by lia) _ old) (λ B s1 hk=>?_) λ_ _ z=>z.elim);obtain⟨rfl,hk⟩:=hk;refine d? (F' (kat_run (ks:=vs) (vs:=vs) (Q:=λbG s2=>∃p:C? j?,p.size=vs.length/\arrOf bG=p.map (kas_item (vs.toArray.zip vs.toArray))/\failedOf bG=none/\s2=_/\Good p) a_ (by lia) oa (λp bG s2 a1 a2 a3 a4=>⟨p,a1,a2,a3,a4⟩) hk) ?_ λ_ _ z=>z)
  rintro⟨⟨⟩,st⟩ s2 ⟨p,hp,Wy,hf,rfl,good⟩
  have e:=kat_snds (ks:=vs) (vs:=vs) a_ Wy;dsimp only;rw[e];refine d? (adB AB a_ (d? (acx AB a_ ?_ (W_ _) ?_)))
  .rw[hf];simp only[ad5,Ĝ,abU];exact h_ (more p hp good)
  .rw[D',i?,Ú,hp];lia
theorem Wz {l:c_}{vs:b? b_}{Q:b_->d_->Prop}{Good:C? j?->Prop}(hl:s.heap.IsList l vs.toArray)(oa:vs.length<64)(ask:2<=vs.length->∀s':d_,(∀b o,s.heap.get? b=some o->s'.heap.get? b=some o)->l_ (m_ prog w) A.in1.in1 (keyKind' vs.toArray) (λ B s1=>s1=s'/\(aft vs.length).kasWp (kas_ask prog w A.in1.in1 B vs) (λp s2=>s2=s'/\Good p) s') (λ_ _=>v?) s')(one:vs.length<2->Q (.ref (s.heap.objs.size+1)) {s with heap:=aeL s.heap vs vs.toArray})(more:∀p:C? j?,p.size=vs.length->Good p->Q (.ref (s.heap.objs.size+1)) {s with heap:=aeL s.heap vs (ado (p.toList.map λi=>vs.getD i Ğ))}):
  l_ (m_ prog w) A (Ħ (.builtin "sorted") [.ref l]) Q E s:=by
 have big:(64:j?)<=k?:=by decide
 have sz:((s.heap.push (ö "list" #[] 0)).update s.heap.objs.size (Å (·++vs.toArray))).objs.size=s.heap.objs.size+1:=(k_.size_update ..).trans (size_push' ..);have sE:(((s.heap.push (ö "list" #[] 0)).update s.heap.objs.size (Å (·++vs.toArray))).push (ö "list" vs.toArray 0)).get? (s.heap.objs.size+1)=some (ö "list" vs.toArray 0):=sz ▸ x? _ a_;have old:∀b o,s.heap.get? b=some o->(((s.heap.push (ö "list" #[] 0)).update s.heap.objs.size (Å (·++vs.toArray))).push (ö "list" vs.toArray 0)).get? b=some o:=λb o e=>g_ _ ((ŉ _ _ _ _ (N? (u? e))).trans (g_ _ e));have body:=Wx (prog:=prog) (w:=w) (A:=A.in1.in1) (E:=E) (a:=s.heap.objs.size+1) (Good:=Good) (R:=λf s'=>f= .done (.ret .none)/\Q (.ref (s.heap.objs.size+1)) s') (s:={s with heap:=((s.heap.push (ö "list" #[] 0)).update s.heap.objs.size (Å (·++vs.toArray))).push (ö "list" vs.toArray 0)}) sE oa (λh2 s' k=>ask h2 s' λb o e=>k b o (N? (aaM (u? e))) (old b o e)) (λh=>⟨a_,one h⟩) (λp hp g=>⟨a_,more p hp g⟩);refine abn kind_sorted plain_sorted entry_sorted (args_sorted1 _) ?_;show l_ (m_ prog w) A.in1 (do ab4 "sorted" 1 1 _;_) _ _ s;refine d? (m:=ab4 "sorted" 1 1 _) (h_ (d? (collect_list hl (d? (acr ?_ (by lia))) (by lia))));show l_ (m_ prog w) A.in1 _ _ E {s with heap:=((s.heap.push (ö "list" #[] 0)).update s.heap.objs.size (Å (·++vs.toArray))).push (ö "list" vs.toArray 0)};rw[sz];exact d? (L_ (W' afx ⟨_,sE,a_⟩ afd (F' body (λf s' z=>⟨_,z.1,h_ ⟨_,a_,z.2⟩⟩) λ_ _ z=>z) (afy _)))
end
theorem sF:∀{a b:b? i_},HT.lexLt a b=true->HT.lexLt b a=false
 |[],[],h=>by cases h
 |[],_::_,_=>a_
 |_::_,[],h=>by cases h
 |x::a,y::b,h=>by
  rw[HT.uB]at h⊢;by_cases e:x=y
  .rw[j_ e]at h;rw[j_ e.symm];exact sF h
  .rw[f? e]at h;rw[f? (λz=>e z.symm)];have:=w? h;exact t_ (by lia)
theorem AD:∀{a b:b? i_},a≠b->HT.lexLt a b=false->HT.lexLt b a=true
 |[],[],h,_=>v_ a_ h
 |[],_::_,_,h=>by cases h
 |_::_,[],_,_=>a_
 |x::a,y::b,h,h'=>by
  rw[HT.uB]at h'⊢;by_cases e:x=y
  .subst e;rw[j_ a_]at h'⊢;exact AD (λz=>h (by rw[z])) h'
  .rw[f? e]at h';rw[f? (λz=>e z.symm)];have:=of_decide_eq_false h';exact j' (by lia)
theorem AE:∀{a b c:b? i_},HT.lexLt a b=true->HT.lexLt b c=true->HT.lexLt a c=true
 |[],[],_,h,_=>by cases h
 |[],_::_,[],_,h=>by cases h
 |[],_::_,_::_,_,_=>a_
 |_::_,[],_,h,_=>by cases h
 |_::_,_::_,[],_,h=>by cases h
 | x::a,y::b,z::c,h,h'=>by
  rw[HT.uB]at h h'⊢;by_cases e:x=y
  .subst e;rw[j_ a_]at h;by_cases e2:x=z
   .rw[j_ e2]at h'⊢;exact AE h h'
   .rw[f? e2]at h'⊢;exact h'
  .rw[f? e]at h;have h1:=w? h;by_cases e2:y=z
   .subst e2;rw[f? e];exact h
   .rw[f? e2]at h';have h2:=w? h';rw[f? (by lia)];exact j' (by lia)
theorem wp_ask {f:j?->j?->s?}{n:j?}{s:d_}{cmp:j?->j?->(s?->d_->Prop)->d_->Prop}{α:Type}{R:α->Prop}(hc:∀i j C,i<n->j<n->C (f i j) s->cmp i j C s):∀{t:KasT α},bO.Wp f n t R->t.kasWp cmp (λp s2=>s2=s/\R p) s
 | .ret _,h=>⟨a_,h⟩
 | .ask i j _,⟨a,b,_,h⟩=>hc i j _ a b (wp_ask hc h)
theorem range_getD {α:Type}(d:α)(l:b? α):(U_ l.length).map (λi=>l.getD i d)=l:=by
 apply b?.ext_getElem
 .simp
 .intro i h1 h2;simp[h2]
section
variable {X:Cx}{pins:b? (c_×J_)}{U:St}{H:Hp}{s:d_}
theorem AF {α β:Type}{F:α->β->Prop}{d:α}{e:β}:∀{xs:b? α}{ys:b? β}{i:j?},g? F xs ys->i<xs.length->F (xs.getD i d) (ys.getD i e)
 |_,_,_,.nil,h=>v_ h (abE _)
 |_,_,0,.cons h _,_=>h
 |_,_,i+1,.cons _ r,h=>AF (i:=i) r (by simpa using h)
theorem Ey {α β:Type}{F:α->β->Prop}{d:α}{e:β}{xs:b? α}{ys:b? β}(h:g? F xs ys):∀{l:b? j?},(∀i∈l,i<xs.length)->g? F (l.map λi=>xs.getD i d) (l.map λi=>ys.getD i e)
 |[],_=>.nil
 |i::l,q=>.cons (AF h (q i (by simp))) (Ey h λj hj=>q j (by simp[hj]))
noncomputable def Ez (K:e?)(H:Hp)(vs:b? V)(ts:b? (b? i_)):Prop:=g? (λv t=>∃a,v= .ref a/\ax K H a (t.map V.int)) vs ts
theorem WB:∀{h:k_}{its:b? b_}{ts:b? (b? i_)},g? (λu t=>∃a xs,u=o? a/\ē h a xs/\U? xs.toList t) its ts->(∀t∈ts,t≠[])->∃fs,Ů h its fs/\fs.length=its.length/\∀v∈fs,∃i k,v=ù i k:=λ{h its ts} q ne=>by
 induction q with
 |nil=>exact⟨[],Ů.nil,a_,λ_ z=>by cases z⟩
 | @cons _ t _ ts a r ih=>
  obtain⟨a,xs,e,⟨o,ho,hc,n,hd⟩,hi⟩:=a;subst e;obtain⟨fs,k,l,q⟩:=ih λz hz=>ne z (by simp[hz]);obtain⟨x,hx⟩:∃x r,xs.toList=x::r:=by
   cases vH:xs.toList with
   |nil=>rw[vH]at hi;cases hi;exact v_ a_ (ne [] (by simp))
   |cons x r=>exact(xa0 x r a_)
  obtain⟨rr,hx⟩:=hx;have h0:xs[0]?=some x:=by rw[<-ĺ,hx];rfl
  rw[hx]at hi;refine⟨x::fs,Ů.cons ho hc hd h0 k,by simp[l],λv hv=>?_⟩;rcases B_.mp hv with rfl|hv
  .cases hi with|cons i k _=>exact(xa0 i k a_)
  .exact q v hv
theorem WC {α β γ:Type}{F:α->β->Prop}{G:α->γ->Prop}{L:β->γ->Prop}(h:∀v u t,F v u->G v t->L u t):∀{vs:b? α}{us:b? β}{ts:b? γ},g? F vs us->g? G vs ts->g? L us ts:=λ{vs us ts} p q=>by
 induction p generalizing ts with
 |nil=>cases q;exact .nil
 |cons a r ih=>
  cases q with
  |cons b s=>exact .cons (h _ _ _ a b) (ih s)
theorem WD {ts:b? (b? i_)}(nd:ts.Nodup):bO.iR (λi j=>HT.lexLt (ts.getD i []) (ts.getD j [])) ts.length where
 aJ:=λi j hi hj ne h=>AD (λe=>ne (by rw[J?,J?,n? hi,n? hj]at e;exact(abH nd).mp e)) h
 MJ:=λ_ _ _ _ h=>sF h
 tr:=λ_ _ _ _ _ _ h1 h2=>AE h1 h2
theorem EA:∀{vs:b? b_}{ns:b? i_},U? vs ns->vs.length=ns.length
 |_,_,.nil=>a_
 |_,_,.cons _ _ r=>by rw[E?,E?,EA r]
theorem MO {τ:Type}(d:τ){lt:τ->τ->s?}{G:Hp->V->τ->Prop}{L:k_->b_->τ->Prop}(ok:b? τ->Prop)(T:b_)(raw:∀{pins s U H},Inv X pins U H s->∀v u t,RelV v u->G H v t->L s.heap u t)(up:∀{h h':k_},(∀b o,h.get? b=some o->h'.get? b=some o)->∀u t,L h u t->L h' u t)(aJ:∀{ts:b? τ},ts.Nodup->bO.iR (λi j=>lt (ts.getD i d) (ts.getD j d)) ts.length)(hT:(T==T)=true)(fst:∀{h its ts},g? (L h) its ts->ok ts->∃fs,Ů h its fs/\fs.length=its.length/\∀v∈fs,P_ (m_ X.prog X.w) h (adQ v) T)(ask:∀{s:d_}{u v t t'}{C:s?->d_->Prop}{E},L s.heap u t->L s.heap v t'->C (lt t t') s->l_ (m_ X.prog X.w) X.A.in1.in1 (keyLt' (tuples' (T != ĝ "tuple")) u v) C E s):
  cD X (.builtin "sorted") (λxs H Q=>∃(p:c_)(vs:b? V)(ts:b? τ),xs=[.ref p]/\ah X.K H p vs/\g? (G H) vs ts/\vs.length<64/\ts.Nodup/\ok ts/\∀(q:c_)(aV:b? V)(bE:b? τ)(ix:b? j?),H q=none->ix.Perm (U_ vs.length)->aV=ix.map (λi=>vs.getD i .ar)->bE=ix.map (λi=>ts.getD i d)->aV.Perm vs->bE.Perm ts->g? (G H) aV bE->bE.Pairwise (λa b=>lt a b=true)->Q (.ref q) (upd H q (.lst aV))):=by
 intro pins s U H xs us Q I r h;obtain⟨p,vs,ts,rfl,hq,ht,oa,nd,ne,q⟩:=h;obtain⟨u,rfl,rx⟩:=vals1 r;cases rx;obtain⟨its,r',pl,hz⟩:=I.list hq;have l1:vs.length=its.length:=r'.length;have l2:vs.length=ts.length:=q? ht;have hn:H (s.heap.objs.size+1)=none:=I.ag.fresh (ŷ _);have end_:∀(out:b? b_)(ix:b? j?),ix.Perm (U_ vs.length)->Vals (ix.map λi=>vs.getD i .ar) out->g? (G H) (ix.map λi=>vs.getD i .ar) (ix.map λi=>ts.getD i d)->(ix.map λi=>ts.getD i d).Pairwise (λa b=>lt a b=true)->EP X pins U Q (.ref (s.heap.objs.size+1)) {s with heap:=aeL s.heap its out.toArray}:=λout ix b1 a1 a4 a5=>by
  have a2:=b1.map λi=>vs.getD i .ar;have a3:=b1.map λi=>ts.getD i d;rw[range_getD]at a2;rw[l2,range_getD]at a3;obtain⟨e,he⟩:=sortedAll_at s.heap its out.toArray;refine(xa0 (.ref (s.heap.objs.size+1)) _ ⟨I.laid (a:=s.heap.objs.size+1) (o:=.lst _) (t':=s.toks) (λb o z=>afY z) (ŷ _) ⟨?_,xa0 out e ⟨a1,he⟩⟩,a_,q _ _ _ ix hn b1 a_ a_ a2 a3 a4 a5⟩);rw[a2.length_eq];exact hz
 have tt:g? (L s.heap) its ts:=WC (raw I) r' ht;refine Wz pl.isList (by lia) (Good:=λp=>bO.P its.length p/\bO.Up (λi j=>lt (ts.getD i d) (ts.getD j d)) p its.length) (λh2 s' k=>?_) (λh=>?_) (λp hp g=>?_)
 .have EB:g? (L s'.heap) its ts:=Paired.gi tt (up k);obtain⟨fs,kt,lf,hf⟩:=fst EB ne;refine kat_kind (T:=T) kt (by lia) hf hT ⟨a_,?_⟩;have hs:=bO.sort (aJ nd) (by lia);rw[<-l2,l1]at hs;refine wp_ask (λi j C hi hj c=>?_) hs;unfold kas_ask;exact ask (AF (d:=Ğ) (e:=d) EB hi) (AF (d:=Ğ) (e:=d) EB hj) c
 .have e1:(U_ vs.length).map (λi=>vs.getD i .ar)=vs:=range_getD ..;have e2:(U_ vs.length).map (λi=>ts.getD i d)=ts:=by rw[l2];exact range_getD ..
  refine end_ its (U_ vs.length) (adD _) (by rw[e1];exact r') (by rw[e1,e2];exact ht) ?_;rw[e2]
  match ts,l2 with
  |[],_=>exact .nil
  |[_],_=>exact Ų _ _
  |_::_::_,e=>exact v_ e (by simp;lia)
 .obtain⟨g1,g2⟩:=g;have hm:∀i∈p.toList,i<vs.length:=λi hi=>by
   rw[l1];exact ħ.mp (g1.mem_iff.mp hi)
  refine end_ _ p.toList (by rw[l1];exact g1) (Ey r' hm) (Ey ht hm) ?_;rw[adY,ace];intro i j hi hj ij;have WE:j<its.length:=by rw[Ú,hp]at hj;exact hj
  have:=g2 i j ij WE;rw[bO.getD_eq (by rw[hp];lia),bO.getD_eq (by rw[hp];lia)]at this;simpa using this
theorem WH:cD X (.builtin "sorted") (λxs H Q=>∃(p:c_)(vs:b? V)(ts:b? (b? i_)),xs=[.ref p]/\ah X.K H p vs/\Ez X.K H vs ts/\vs.length<64/\ts.Nodup/\(∀t∈ts,t≠[])/\∀(q:c_)(aV:b? V)(bE:b? (b? i_))(ix:b? j?),H q=none->ix.Perm (U_ vs.length)->aV=ix.map (λi=>vs.getD i .ar)->bE=ix.map (λi=>ts.getD i [])->aV.Perm vs->bE.Perm ts->Ez X.K H aV bE->bE.Pairwise (λa b=>HT.lexLt a b=true)->Q (.ref q) (upd H q (.lst aV))):=
 MO (L:=λh u t=>∃a xs,u=o? a/\ē h a xs/\U? xs.toList t) [] (λts=>∀t∈ts,t≠[]) (.type "int") (λI v u t hv hu=>by
  obtain⟨a,rfl,ha⟩:=hu;cases hv;obtain⟨ys,ry,hy,_⟩:=I.tuple ha;exact(xa0 a ys.toArray ⟨a_,hy,intsAre_of ry⟩)) (λk u t ⟨a,xs,e,⟨o,ho,hr⟩,hi⟩=>(xa0 a xs ⟨e,⟨o,k a o ho,hr⟩,hi⟩)) WD a_ (λh ne=>by
  obtain⟨fs,kt,lf,hf⟩:=WB h ne;refine⟨fs,kt,lf,λv hv=>?_⟩;obtain⟨i,t,rfl⟩:=hf v hv;exact .now) λ⟨a,xs,ea,⟨o,ho,hc,n,hd⟩,ia⟩ ⟨b,ys,eb,⟨o',aQ,il,n',aX⟩,ib⟩ c=>by
  rw[ea,eb];have q:=MN (prog:=X.prog) (w:=X.w) (A:=X.A.in1.in1) 0 ia ib c;rw[<-EA ia,<-EA ib]at q;refine kat_lt ho hd aQ aX ?_;rw[show(ĝ "int" != ĝ "tuple")=true from a_];simpa using q
end
end L2
namespace L2
open PySem PySem.Spec PyProof.Rows
noncomputable def lq (K:e?)(H:Hp)(x:V)(ns:b? i_):Prop:=∃a,x= .ref a/\ax K H a (ns.map V.int)
noncomputable def iD (K:e?)(H:Hp)(n:b? i_)(u:b_):s?:=@p_ (∃a,u= .ref a/\ax K H a (n.map V.int)) (Z? _)
theorem EC {ns ms:b? i_}(h:ns.map V.int=ms.map V.int):ns=ms:=by
 induction ns generalizing ms with
 |nil=>cases ms with
  |nil=>rfl
  |cons _ _=>cases h
 |cons n ns ih=>cases ms with
  |nil=>cases h
  |cons m ms=>rw[y?,y?]at h;injection h with h1 h2;injection h1 with h1;rw[h1,ih h2]
section
variable {X:Cx}{pins:b? (c_×J_)}{U:St}{H:Hp}{s:d_}
theorem ED (I:Inv X pins U H s){x:V}{u:b_}{ns n:b? i_}(h:lq X.K H x ns)(r:RelV x u):iD X.K H n u=p_ (ns=n):=by
 obtain⟨a,rfl,ha⟩:=h;cases r;unfold iD;by_cases e:ns=n
 .subst e;rw[j' a_];exact@j' _ (Z? _) ⟨a,a_,ha⟩
 .rw[t_ e];refine@t_ _ (Z? _) λzQ=>?_;obtain⟨b,z,hb⟩:=zQ;cases z;exact e (EC (I.rM ha hb))
theorem EE (I:Inv X pins U H s){A:B?}(hu:A.units+60<P?){x:V}{v:b_}{n:b? i_}(hx:lq X.K H x n)(rx:RelV x v):∀{xs:b? V}{us:b? b_}{bj:b? (b? i_)},Vals xs us->g? (lq X.K H) xs bj->∀u∈us,z_ A s u v (iD X.K H n u):=λ{xs us bj} p q=>by
 induction p generalizing bj with
 |nil=>exact λu hu=>by cases hu
 | @cons y w xs us r t ih=>
  cases q with
  |@cons _ m _ bj h hs=>
   intro u hm;rcases B_.mp hm with rfl|hm
   .rw[ED I h r];obtain⟨a,rfl,ha⟩:=h;obtain⟨b,rfl,hb⟩:=hx;have q:=Aq I 60 (.tup (m.map Dt.int)) (.tup (n.map Dt.int)) (.ref a) (.ref b) u v A (VB _) hu (As ha) (As hb) r rx;rw[El]at q;exact q
   .exact ih hs u hm
theorem MP (I:Inv X pins U H s){n:b? i_}:∀{xs:b? V}{us:b? b_}{bj:b? (b? i_)},Vals xs us->g? (lq X.K H) xs bj->us.any (iD X.K H n)=p_ (n∈bj):=λ{xs us bj} p q=>by
 induction p generalizing bj with
 |nil=>cases q;simp
 | @cons y w xs us r t ih=>
  cases q with
  |@cons _ m _ bj h hs=>
   rw[Ō,ED I h r,ih hs];by_cases e:m=n
   .subst e;simp
   .have e':¬n=m:=λz=>e z.symm;simp[e,e']
noncomputable def MQ (K:e?)(neg:s?):R2:=λx y H Q=>∃p xs n bj,y= .ref p/\ah K H p xs/\lq K H x n/\g? (lq K H) xs bj/\Q (.bl (if neg then !p_ (n∈bj)else p_ (n∈bj))) H
end
section
variable {X:Cx}
theorem WI (hu:X.A.units+64<P?):bD X (M? .In) (MQ X.K false):=by
 intro pins s U H x y v u Q I rx ry h;obtain⟨p,xs,n,bj,rfl,hq,hx,hs,q⟩:=h;cases ry;obtain⟨its,r,pl,hz⟩:=I.list hq;refine adi (iD X.K H n) pl.isList (λw hw=>EE I ?_ hx rx r hs w (by simpa using hw)) (xa0 (.bl _) H ⟨I,a_,?_⟩)
 .first|(have e:X.A.in1.units=X.A.units+1:=a_;lia)|(have e:X.A.in1.units=X.A.units:=rfl;lia)|(have e:=Around.units_in1 X.A;lia)
 .rw[show its.toArray.any (iD X.K H n)=its.any (iD X.K H n)by simp,MP I r hs];exact q
theorem WJ (hu:X.A.units+64<P?):bD X (M? .NotIn) (MQ X.K true):=by
 intro pins s U H x y v u Q I rx ry h;obtain⟨p,xs,n,bj,rfl,hq,hx,hs,q⟩:=h;cases ry;obtain⟨its,r,pl,hz⟩:=I.list hq;refine aai (iD X.K H n) pl.isList (λw hw=>EE I ?_ hx rx r hs w (by simpa using hw)) (xa0 (.bl _) H ⟨I,a_,?_⟩)
 .first|(have e:X.A.in1.units=X.A.units+1:=a_;lia)|(have e:X.A.in1.units=X.A.units:=rfl;lia)|(have e:=Around.units_in1 X.A;lia)
 .rw[show its.toArray.any (iD X.K H n)=its.any (iD X.K H n)by simp,MP I r hs];exact q
end
section
variable {X:Cx}{scope:Xg}{N':b? y_}{ix:b? (f_ j?)}{C:c_}{fp:b? c_}{ae:d_}{af:Hp}{pins:b? (c_×J_)}{U:St}
theorem WK (I:Inv X pins U af ae)(hf:∀b∈fp,eG X pins af b){ps:b? (c_×J_)}{U':St}{H':Hp}{s':d_}(I':Inv (bT X scope N' C fp ae af) ps U' H' s'):Inv X pins U H' s':=I.Dr (ch:=fp) I'.os I'.base I'.ag I'.bare λb hb=>by obtain⟨_,f1,_,f3,f4,f5⟩:=hf b hb;exact⟨f3,f1,f4,f5⟩
end
section
variable {X:Cx}{pins:b? (c_×J_)}{U:St}{H:Hp}{s:d_}{a:c_}{y v:V}{u r:b_}{A:B?}{E:b_->d_->Prop}
theorem WL {H':Hp}{Q:Unit->d_->Prop}(hu:A.units<P?)(I:Inv X pins U H s)(g:iO H a y v H')(ry:RelV y u)(rv:RelV v r)(h:∀s',Inv X pins U H' s'->Q () s'):l_ (m_ X.prog X.w) A (dictSet a u r) Q E s:=by
 rcases g with⟨aa,k,e,ey,l,eH⟩|⟨aa,k,b,e,ey,eb,l,eH⟩
 .subst ey eH;obtain⟨z,hd,vs,rel,dd⟩:=LR I.ag e;have hz:vs.length<=k?:=by rw[<-rel.length];exact z
  have hl:(putK aa k v).length<=k?:=by have:=uM aa k v;lia
  refine wpAny_dictSet_pairs (hsz:=hz) (pR ry) dd λh' gD hs=>h _ ?_;have he:∃q,h'.get? a=some q:=let⟨q,_,_,hq,_⟩:=gD;⟨q,hq⟩;exact pV I (by rw[e];exact q_) hs he (LS hl hd (rel.put k rv) gD)
 .subst ey eH;cases(show u=o? b from ry);obtain⟨z,hd,xs,rel,dd⟩:=D4 I.ag e;have hz:xs.length<=k?:=by rw[<-q? rel];exact z
  have hl:(putK aa k v).length<=k?:=by have:=uM aa k v;lia
  refine wpAny_dictSet_heap (hsz:=hz) (knd:=Ł (qp X.prog X.w)) hu (kS I.ag eb) dd λh' gD hs=>h _ ?_;obtain⟨q,es,ep,hq,h2,h3,h4,_,h5⟩:=gD;refine pV I (by rw[e];exact q_) hs ⟨q,hq⟩ ⟨hl,hd,_,(rel.put k eb rv).keeps λc ys ec=>?_,xa1 q es ep ⟨hq,h2,h3,h4,h5⟩⟩;rw[jd (gA ec e (λz=>nomatch z))];exact ec
end
section
variable {prog:n_}{w:z?}{A:B?}{R:ş->d_->Prop}{s:d_}
theorem WM {kx vx target iter:G?}{ifs:b? G?}{scope:Xg}{pos:Ī}{it:b_}{D:c_}{env:š}(I:j?->d_->Prop)(turn:∀n s,I n s->l_ (m_ prog w) A (Ŵ it) (λr aj=>match r with
   |none=>R (.ok .next) aj
   |some v=>l_ (m_ prog w) A (Ķ target it v) (λ_ aj=>l_ (m_ prog w) A (aap target env v) (λ_ ae=>l_ (m_ prog w) A (forIn ifs true λc r=>if r=true then do let ok<-abY c env (T? c env);Ø (đ ok)else Ø (đ r)) (λok aT=>if ok=true then l_ (m_ prog w) A (T? kx env) (λkv cQ=>l_ (m_ prog w) A (T? vx env) (λvv jH=>l_ (m_ prog w) A (dictSet D kv vv) (λ_ vI=>∃m,m<n/\I m vI) eK jH) eK cQ) eK aT
      else ∃m,m<n/\I m aT) eK ae) eK aj) eK aj) eK s)(n:j?)(h:I n s):Ð (m_ prog w) A (.compLoop (.DictComp kx vx [⟨target,iter,ifs,0⟩] scope pos) 0 it (.ref D) env) R s:=by
 refine ac2 a_ I (λn s hI=>?_) n h;have no:∀{α:Type}{t:Ģ α}{Q:α->d_->Prop}{E:b_->d_->Prop}{s:d_},l_ (m_ prog w) A t Q eK s->l_ (m_ prog w) A t Q E s:=λh=>F' h (λ_ _ q=>q) λ_ _ z=>z.elim;show l_ _ A ((compTurn (.DictComp kx vx [⟨target,iter,ifs,0⟩] scope pos) 0 it (.ref D) env).onRaise (λx=>do acF x env;aeR x)) _ _ s;rw[compTurn_dict];refine wpAny_noted (d? (Õ (d? (no (ai (turn n s hI) λr aj h₁=>?_)))));cases r with
 |none=>exact h_ h₁
 |some v=>
  refine d? (no (ai h₁ λ_ aj h₁=>d? (no (ai h₁ λ_ ae bQ=>d? (no (ai bQ λok aT gE=>?_))))));cases ok with
  |false=>exact h_ ⟨a_,gE⟩
  |true=>refine d? (d? (no (ai gE λkv cQ cR=>d? (L_ (no (ai cR λvv jH bp=>?_))))));exact d? (Õ (L_ (no (ai bp λ_ vI cV=>h_ ⟨a_,cV⟩))))
end
section
variable {X:Cx}{scope:Xg}{N':b? y_}{ix:b? (f_ j?)}{C:c_}{fp:b? c_}{ae:d_}{af:Hp}{pins:b? (c_×J_)}{U:St}
theorem WN (I:Inv X pins U af ae)(co:jG X.N X.env.scope scope N' ix){h₁:k_}{t':j?}(hC:@Eq j? C ae.heap.objs.size)(hf:∀b∈fp,eG X pins af b)(aA:∀b∈fp,b<ae.heap.objs.size)(old:∀b o,ae.heap.get? b=some o->h₁.get? b=some o){m:y_->f_ b_}(rY:h₁.Ns C m):
  Inv (bT X scope N' C fp ae af) [] (iA ix U) af {ae with heap:=h₁,toks:=t'} where
 ok:=Vg I co (by lia) hf aA
 os:=a_
 bare:=I.bare
 base:=Un.kept old
 loc :=by
  refine⟨m,rY,λi x v e1 e2 e3=>?_⟩;unfold iA at e2;rw[J']at e2;cases q:ix[i]? with
  |none=>rw[q]at e2;cases e2
  | some o=>
   rw[q]at e2;cases o with
   |none=>cases e2
   | some k=>
    have gW:(U[k]?).join=some v:=o_ e2;have pW:U[k]?=some (some v):=by
     cases z:U[k]? with
     |none=>rw[z]at gW;cases gW
     |some o=>rw[z]at gW;exact T_ some gW
    obtain⟨o1,o2,o3⟩:=co.out i x k e1 q;have hk:X.env.kindOf x=some .cell\/X.env.kindOf x=some .free:=co.frees _ o2 a_;obtain⟨m0,_,hl⟩:=I.loc;obtain⟨u,r,l⟩:=hl k x v o1 pW (.inr hk);refine⟨u,r,?_⟩;rcases l with⟨l,_⟩|⟨_,c,ec,dM⟩
    .rcases hk with z|z
     .rw[z]at l;cases l
     .rw[z]at l;cases l
    .refine .inr ⟨?_,c,D8 o2 ec,?_⟩
     .rcases e3 with z|z|z
      .obtain⟨k',hm,q⟩:=kh z;rcases q with q|⟨_,q⟩
       .have:=o3 _ hm a_;rw[show k'=D?.local from q]at this;cases this
       .cases q
      .exact .inl z
      .exact .inr z
     .obtain⟨o,ho,hd⟩:=dM;exact⟨o,old _ _ ho,hd⟩
 cell:=λx c e=>by obtain⟨v,o,ho,hd⟩:=I.cell x c (jF e);exact(xa0 v o ⟨old _ _ ho,hd⟩)
 free:=I.ag.fresh (by show@LE.le j? _ ae.heap.objs.size C;lia)
 dW:=λx c e=>I.dW x c (jF e)
 pin:=λp hp=>by
  have mr:p∈([]:b? (c_×J_)):=by simpa[bT]using hp
  cases mr
 ag:=I.ag.kept old
 len:=by unfold iA;rw[i?];exact co.len
end
noncomputable def EF (J:It)(g:TG)(ti:TT)(tk tv:TE)(D:c_)(QF:Hp->Prop)(W:j?->j?->St->Hp->Prop):Prop:=∀i m U H,W i m U H->(J.stop i H/\QF H)\/(J.go i H/\∃N:St->Hp->Prop,(∀U' H',N U' H'->∃m',m'<m/\W (i+1) m' U' H')/\∀x H',J.eF i H x H'->g x U H' λ U2 H2=>ti U2 H2 λb H3=>if b=true then tk U2 H3 λy H4=>tv U2 H4 λz H5=>∃H6,iO H5 D y z H6/\N U2 H6 else N U2 H3)
noncomputable def WO (new:HO)(ix:b? (f_ j?))(wi:TI)(g:TG)(ti:TT)(tk tv:TE):TE:=λ U H Q=>wi U H λJ H1=>∀D,H1 D=none->∃W:j?->j?->St->Hp->Prop,(∃m,W 0 m (iA ix U) (upd H1 D new))/\EF J g ti tk tv D (λH=>Q (.ref D) H) W
section
variable {X:Cx}
theorem WQ {scope:Xg}{N':b? y_}{ix:b? (f_ j?)}{pins:b? (c_×J_)}{U:St}{tg iter kx vx:G?}{ifs:b? G?}{pos:Ī}{g:TG}{ti:TT}{tk tv:TE}{E:b_->d_->Prop}{D:c_}(co:jG X.N X.env.scope scope N' ix)(hc:X.calm=true)(hu:X.A.units<P?)(hg:∀C fp ae af,PG (bT X scope N' C fp ae af) tg g)(hi:∀C fp ae af,mq (bT X scope N' C fp ae af) ifs ti)(hk:∀C fp ae af,PE (bT X scope N' C fp ae af) kx tk)(hv:∀C fp ae af,PE (bT X scope N' C fp ae af) vx tv){af:Hp}{ae:d_}{J:It}{fp:b? c_}{it:c_}{tn:j?->k_->Prop}{QF:Hp->Prop}{W:j?->j?->St->Hp->Prop}(I:Inv X pins U af ae)(T:Turn X.prog X.w X.K tg J fp it tn)(st:tn 0 ae.heap)(hf:∀b∈fp,eG X pins af b)(w0:∃m,W 0 m (iA ix U) af)(hW:EF J g ti tk tv D QF W){RR:c_->ş->d_->Prop}(uQ:∀C H' s',Inv X pins U H' s'->QF H'->si X pins H' s' C->RR C (.ok .next) s'):
  l_ (m_ X.prog X.w) X.A (ņ scope X.env.globals (cJ scope X.env) [] X.env.qual none .none (some X.env)) (λfh cQ=>Ð (m_ X.prog X.w) X.A (.compStart (.DictComp kx vx [⟨tg,iter,ifs,0⟩] scope pos) 0 (.ref it) (.ref D) {fh with scope:=aed scope X.env}) (RR fh.locals) cQ) E ae:=by
 have aA:∀b∈fp,@Ś j? _ b ae.heap.objs.size:=λb hb=>by obtain⟨o,e,_⟩:=T.obj _ _ st b hb;exact u? e
 refine wpAny_newFunctionEnv co.Mc (by intro y hy;simp at hy) (λh₁ bR jK=>?_) co.kind;have below:∀b:j?,b<ae.heap.objs.size->¬@Eq j? b ae.heap.objs.size:=λb hb=>by lia
 have old:∀b o,ae.heap.get? b=some o->h₁.get? b=some o:=λb o e=>jK.extBut b o (below b (u? e)) (g_ _ e);have fj:tn 0 h₁:=T.keep _ _ _ st λb _ o e=>old b o e;generalize Ec:ae.heap.objs.size=C at bR jK below⊢;have loop:∀aT:d_,aT={ae with heap:=h₁,toks:=ae.toks+([]:b? (y_×b_)).length}->Ð (m_ X.prog X.w) X.A (.compLoop (.DictComp kx vx [⟨tg,iter,ifs,0⟩] scope pos) 0 (.ref it) (.ref D) (adx scope (cJ scope X.env) C X.env)) (RR C) aT:=by
  rintro aT rfl
  obtain⟨m0,w0⟩:=w0;have I3:Inv (bT X scope N' C fp ae af) [] (iA ix U) af {ae with heap:=h₁,toks:=ae.toks+([]:b? (y_×b_)).length}:=WN I co Ec.symm hf aA old bR;refine WM (λk s'=>∃i U' H',Inv (bT X scope N' C fp ae af) [] U' H' s'/\tn i s'.heap/\(∀b∈fp,H' b=none)/\W i k U' H') ?_ m0 (xa1 0 _ _ ⟨I3,fj,λb hb=>(hf b hb).1,w0⟩)
  rintro k s' ⟨i,U',H',I',bG,pY,w'⟩
  have gF:∀{H':Hp},(∀b∈fp,H' b=none)->∀b∈fp,eG (bT X scope N' C fp ae af) [] H' b:=λ{H'} hn b hb=>by
   refine⟨hn b hb,below b (Ec ▸ aA b hb),λz=>?_,.inl hb,λx c e=>(hf b hb).2.2.2.2.1 x c (jF e),λp hp=>?_⟩
   .rcases B_.mp (I.oX b z)with e|e
    .exact(hf b hb).2.1 e
    .exact(hf b hb).2.2.1 e
   .have mr:p∈([]:b? (c_×J_)):=by simpa[bT]using hp
    cases mr
  rcases hW i k U' H' w' with⟨stop,q⟩|⟨go,N,hN,step⟩
  .refine ai (T.done (bT X scope N' C fp ae af) a_ a_ a_ hc i _ s' U' H' eK I' (gF pY) bG stop) λr s4 ⟨hr,I4⟩=>?_;subst hr;have cf:H' C=none:=I4.free;refine uQ C H' s4 (WK I hf I4) q ⟨?_,cf,?_,?_,λx c e=>?_,λp hp=>?_⟩
   .obtain⟨m,hn,_⟩:=I4.loc;exact⟨m,hn⟩
   .have z:@Ś j? _ X.env.locals ae.heap.objs.size:=I.lt;show¬@Eq j? C X.env.locals;lia
   .have z:@LE.le j? _ X.au.heap.objs.size ae.heap.objs.size:=I.sz;show@LE.le j? _ X.au.heap.objs.size C;lia
   .obtain⟨v,z⟩:=I.cell x c e;have z2:@Ś j? _ c ae.heap.objs.size:=z.lt;show¬@Eq j? c C;lia
   .have z2:@Ś j? _ p.1 ae.heap.objs.size:=u? (I.pin p hp).1;show¬@Eq j? p.1 C;lia
  .refine ai (T.item (bT X scope N' C fp ae af) a_ a_ a_ hc i _ s' U' H' eK I' (gF pY) bG go) λr s4 zQ=>?_;obtain⟨u,hr,h4⟩:=zQ;subst hr;refine ai h4 λ_ s5 zQ=>?_;obtain⟨x,H5,I5,r5,y5,iq,tU⟩:=zQ;have tV:=I5.pinned (gF tU) (T.obj _ _ iq);refine ai (hg C fp ae af _ s5 U' H5 x u _ tV r5 (step x H5 y5)) λ_ s6 zQ=>?_;obtain⟨U6,H6,I6,q6⟩:=zQ;refine ai (hi C fp ae af _ s6 U6 H6 _ I6 q6) λok s7 zQ=>?_;obtain⟨H7,I7,q7⟩:=zQ;have back:∀{U8:St}{H8:Hp}{s8:d_},Inv (bT X scope N' C fp ae af) ([]++lX fp s5.heap) U8 H8 s8->N U8 H8->∃m',m'<k/\∃i U' H',Inv (bT X scope N' C fp ae af) [] U' H' s8/\tn i s8.heap/\(∀b∈fp,H' b=none)/\W i m' U' H':=λ{U8 H8 s8} I8 n8=>by
    obtain⟨m',hm,w8⟩:=hN _ _ n8;have gG:∀b∈fp,∀o,s5.heap.get? b=some o->s8.heap.get? b=some o/\H8 b=none:=λb hb o e=>by have z:=I8.pin (b,o) (C_ _ (C_ _ (zO hb e)));exact⟨z.1,z.2.1⟩
    refine⟨m',hm,xa1 (i+1) U8 H8 ⟨I8.tT,T.keep _ _ _ iq λb hb o e=>(gG b hb o e).1,λb hb=>?_,w8⟩⟩;obtain⟨o,e,_⟩:=T.obj _ _ iq b hb;exact(gG b hb o e).2
   cases ok with
   |false=>have gH:=q7;rw[f? p?]at gH;exact back I7 gH
   |true=>have gH:=q7;rw[j_ a_]at gH;show l_ _ _ _ _ _ _;refine ai (hk C fp ae af _ s7 U6 H7 _ I7 gH) λkv s8 zQ=>?_;obtain⟨y,H8,I8,r8,q8⟩:=zQ;refine ai (hv C fp ae af _ s8 U6 H8 _ I8 q8) λvv s9 zQ=>?_;obtain⟨z,H9,I9,r9,ef,dp,q9⟩:=zQ;exact WL (X:=bT X scope N' C fp ae af) (A:=X.A) hu I9 dp r8 r9 λcW bN=>back bN q9
 exact codeAny_compStart_dict (loop _ a_) (T.self _ 0 _ _ _ fj (loop _ a_))
variable {scope:Xg}{N':b? y_}{ix:b? (f_ j?)}{tg iter kx vx:G?}{ifs:b? G?}{pos:Ī}{wi:TI}{g:TG}{ti:TT}{tk tv:TE}
theorem WR (new:HO)(jE:new= .dK []\/new= .dT [])(hu:X.A.units+1<P?)(co:jG X.N X.env.scope scope N' ix)(hc:X.calm=true)(hit:PI X tg iter wi)(hg:∀C fp ae af,PG (bT X scope N' C fp ae af) tg g)(hi:∀C fp ae af,mq (bT X scope N' C fp ae af) ifs ti)(hk:∀C fp ae af,PE (bT X scope N' C fp ae af) kx tk)(hv:∀C fp ae af,PE (bT X scope N' C fp ae af) vx tv)(hs:e_ (∀x,Ĕ iter X.env x=Ø x) aP3):
  PE X (.DictComp kx vx [⟨tg,iter,ifs,0⟩] scope pos) (WO new ix wi g ti tk tv):=by
 intro pins s U H Q I h;show l_ _ _ (afO (.DictComp kx vx [⟨tg,iter,ifs,0⟩] scope pos) scope X.env _ newDict false (T? iter X.env)) _ _ s;refine Ă (use:=none) a_ hs (Ee co I) co.kind co.names (ai (hit pins s U H _ I h) λxv aj h₁=>ai h₁ λrN ae bQ=>?_);obtain⟨it,fp,tn,J,af,e,dA,T,st,hf,hq⟩:=bQ;subst e;refine î ?_;have hn:af ae.heap.objs.size=none:=dA.ag.fresh (s_ _);have WS:y0 X.prog X.w (upd af ae.heap.objs.size new) (ae.heap.push {cls:=.type "dict",dict:=none,data:=.dict #[]}) ae.heap.objs.size new:=by
  rcases jE with z|z
  .rw[z];exact UX ae.heap dA.big
  .rw[z];exact LY ae.heap dA.big
 have EG:Inv X pins U (upd af ae.heap.objs.size new) {ae with heap:=ae.heap.push {cls:=.type "dict",dict:=none,data:=.dict #[]}}:=dA.laid (a:=ae.heap.objs.size) (o:=new) (t':=ae.toks) (λ_ _ q=>g_ _ q) (s_ _) WS;obtain⟨W,w0,hW⟩:=hq ae.heap.objs.size hn;have dQ:∀b∈fp,eG X pins (upd af ae.heap.objs.size new) b:=λb hb=>by obtain⟨f0,f⟩:=hf b hb;obtain⟨o,e,_⟩:=T.obj _ _ st b hb;exact⟨by rw[jd (N? (u? e))];exact f0,f⟩
 refine WQ co hc (j?.lt_of_succ_lt hu) hg hi hk hv EG T (T.keep _ _ _ st λb _ o e=>g_ _ e) dQ w0 hW (RR:=λC=>adw (m_ X.prog X.w) X.A X.xe none (EP X pins U Q) (.ref ae.heap.objs.size) C) λC H' s' I' q G=>?_;obtain⟨m,hn⟩:=G.ns;exact⟨m,hn,λh' iB=>(xa0 (.ref ae.heap.objs.size) _ ⟨G.go I' iB,a_,q⟩)⟩
end
theorem MR (bt:j?->j?->s?):∀k,aa6 bt k<=k
 |0=>s_ _
 |k+1=>by have:=MR bt k;unfold aa6;split<;>lia
section
variable {prog:n_}{w:z?}{A:B?}{s:d_}{l it S:c_}{vs:b? b_}{bt:j?->j?->s?}{R:ş->d_->Prop}
theorem WT {id:í}{args:Args}{b:V_}(hb:ab2 table id=some b):(m_ prog w).den (.builtin id args)=b args:=by show(match ab2 table id with|some b=>b args|none=>unsupported ((withoutEnding? id "#data").getD id))=_;rw[hb]
end
theorem EH:∀{vs:b? b_}{ns:b? i_},U? vs ns->Vals (ns.map V.int) vs
 |_,_,.nil=>.nil
 |_,_,.cons n t r=>.cons ⟨t,a_⟩ (EH r)
section
variable {X:Cx}
theorem WU:cD X (.builtin "sorted") (λxs H Q=>∃(p:c_)(ns:b? i_),xs=[.ref p]/\ah X.K H p (ns.map V.int)/\ns.length<64/\∀(q:c_)(gS:b? i_),H q=none->gS.Perm ns->gS.Pairwise (·<=·)->Q (.ref q) (upd H q (.lst (gS.map V.int)))):=by
 intro pins s U H xs us Q I r h;obtain⟨p,ns,rfl,hq,oa,q⟩:=h;obtain⟨u,rfl,rx⟩:=vals1 r;cases rx;obtain⟨its,r',pl,hz⟩:=I.list hq;have hlen:ns.length=its.length:=by have:=r'.length;rw[i?]at this;exact this
 refine sorted_ints pl.isList (intsAre_of r') (by lia) λout gS a1 a2 a3=>?_;obtain⟨e,he⟩:=sortedAll_at s.heap its out;have hn:H (s.heap.objs.size+1)=none:=I.ag.fresh (ŷ _);refine(xa0 (.ref (s.heap.objs.size+1)) _ ⟨I.laid (a:=s.heap.objs.size+1) (o:=.lst (gS.map V.int)) (t':=s.toks) (λb o z=>afY z) (ŷ _) ⟨?_,xa0 out.toList e ⟨EH a1,he⟩⟩,a_,q _ gS hn a2 a3⟩);rw[i?,a2.length_eq];exact K? (Ć oa) (by rw[Ĭ];lia)
end
section
variable {X:Cx}{K:e?}
theorem EI (hK:X.K=K):Ab X (LF K):=by subst hK;exact kR
end
end L2
namespace PySem
section
variable {prog:n_}{w:z?}{K:Type}[İ K]{knd:afw prog w K}{A:B?}{E:b_->d_->Prop}{s:d_}
theorem WV {h:k_}{d a:c_}{xs:b? (K×c_×b_)}{k:K}{v:b_}{o:J_}{es:C? ì}{ep:j?}(ho:h.get? d=some o)(hc:o.ExactDict)(hd:o.data= .dict es ep)(he:es.toList=xs.map (ab1 knd))(AG:∀x∈xs,knd.is h x.1 x.2.1)(hn:(xs.map (·.1)).Nodup)(cp:knd.is h k a)(EJ:k∉xs.map (·.1)):(h.update d (J_.mapDictKeys (·.push ⟨knd.hash k,.ref a,v⟩))).DictOfH knd d (xs++[(k,a,v)]):=by
 refine(xa1 _ _ (ep+1) ⟨R? _ ho (J_.isFreed_of_dict (ac3 hd _)),hc.mapDictKeys _,ac3 hd _,by simp[he,ab1],λx hx=>?_,?_⟩)
 .have old:knd.is h x.1 x.2.1:=(A_.mp hx).elim (AG x) λz=>by
   rw[m?.mp z];exact cp
  exact knd.keeps old ho hd (Ą ..)
 .have p:((xs++[(k,a,v)]).map (·.1)).Perm (k::xs.map (·.1)):=by
   rw[H_];exact b?.perm_append_comm
  exact p.nodup_iff.mpr (X?.mpr ⟨EJ,hn⟩)
theorem WW {d a:c_}{xs:b? (K×c_×b_)}{k:K}{dflt:b_}{Q:b_->d_->Prop}(hu:knd.room A)(cp:knd.is s.heap k a)(hm:s.heap.DictOfH knd d xs)(hsz:xs.length<=k?)(h1:∀p,ň xs k=some p->Q p.2 {s with toks:=s.toks+knd.draws k})(h2:ň xs k=none->∀h',h'.DictOfH knd d (xs++[(k,a,dflt)])->F_ d s.heap h'->Q dflt {s with heap:=h',toks:=s.toks+knd.draws k}):
  l_ (m_ prog w) A (ab3 d (.ref a) dflt) Q E s:=by
 obtain⟨o,es,ep,ho,hc,hd,he,AG,hn⟩:=hm;have sz:es.size=xs.length:=by have:=T_ ć he;simpa using this
 unfold ab3;refine L_ (d? (knd.pyHash hu cp (d? (wpAny_dictFind_heap (s:={s with toks:=s.toks+knd.draws k}) hu cp ho hd he AG hn (λqE=>?_) (λj p hj=>?_)))))
 .refine d? (aaU (d? (wpAny_updateDictKeys (hz:=by lia) (s:={s with toks:=s.toks+knd.draws k}) ho hd (h_ (h2 (atKey_none_of_get qE) _ (WV ho hc hd he AG hn cp (not_mem_keys_of_get qE)) (Ą ..))))))
 .refine d? (ŕ (s:={s with toks:=s.toks+knd.draws k}) ho hd ?_);rw[entry_at he j,hj];exact d? (aaU (h_ (h1 _ (atKey_of_get hn hj))))
theorem MS (knd:afw prog w K)(d a:c_)(hd:(d==V')=false)(dflt:b_):MeetsIn prog w (Builtin.«dict.setdefault» ⟨[.ref d,.ref a,dflt],[]⟩) (λA R s=>knd.room A.in1/\∃k xs,knd.is s.heap k a/\s.heap.DictOfH knd d xs/\xs.length<=k?/\(∀p,ň xs k=some p->R (.ok (.ret p.2)) {s with toks:=s.toks+knd.draws k})/\(ň xs k=none->∀h',h'.DictOfH knd d (xs++[(k,a,dflt)])->F_ d s.heap h'->R (.ok (.ret dflt)) {s with heap:=h',toks:=s.toks+knd.draws k})):=
 .of_wp λA R s ⟨hu,k,xs,cp,hm,hz,h1,h2⟩=>by have run:=WW (prog:=prog) (w:=w) (E:=λe s'=>R (.error e) s') (Q:=λv s'=>R (.ok (.ret v)) s') hu cp hm hz h1 h2;unfold Builtin.«dict.setdefault» V_.Dict.keyAndDefault;refine d? (d? (ade hm.typeIs ?_));show l_ _ _ (Ø (d,o? a,some dflt)) _ _ s;refine h_ ?_;show l_ _ _ (if(d==V')=true then _ else(ab3 d (.ref a) dflt >>= _)) _ _ s;rw[f? (by rw[hd];exact p?)];exact d? (F' run (λv s' q=>h_ ⟨v,a_,q⟩) λ_ _ z=>z)
end
section
variable {prog:n_}{w:z?}{A:B?}{E:b_->d_->Prop}{s:d_}
theorem MT {it d:c_}{i ep:j?}{es:C? ì}{od:J_}{Q:f_ b_->d_->Prop}(hit:s.heap.IsKeyIter it d i es.size ep)(mv:s.heap.get? d=some od)(eL:od.data= .dict es ep)(aA:i<es.size)(hQ:∀h',h'.IsKeyIter it d (i+1) es.size ep->F_ it s.heap h'->Q (some es[i].key) {s with heap:=h'}):l_ (m_ prog w) A (Ŵ (.ref it)) Q E s:=by
 obtain⟨o,ho,hc,hd⟩:=id hit;have hT:=hit.typeIs;unfold Ŵ;refine d? (acs ?_);refine Ŧ hT Æ ?_;refine W' Æ hT abm ?_ (abe _);unfold Builtin.«dict_keyiterator.__next__»;wp_walk using Ý hT,abW ho hd,ŕ mv eL,abI mv eL,aab hT;rw[f? (show¬(i:i_)<0 by lia),Ù,C?.getElem?_eq_getElem aA];have WX:V_.Dict_items.ownsTuple "dict_keyiterator"=false:=by decide
 have vJ:(s.heap.update it (ñ (·.setIfInBounds 1 (ś ((i:i_)+1))))).IsKeyIter it d (i+1) es.size ep:=⟨_,R? _ ho (ž (é hd _)),(aaZ ..).trans hc,by rw[é hd];simp[ś]⟩;refine d? ?_;wp_walk using Ý hT;rw[hd];show l_ _ _ (update it (ñ (·.setIfInBounds 1 (ś ((i:i_)+1))))) _ _ s;refine wpAny_update ho (d? (L_ ?_));wp_walk using aab (s:={s with heap:=s.heap.update it (ñ (·.setIfInBounds 1 (ś ((i:i_)+1))))}) vJ.typeIs;exact⟨_,a_,h_ (hQ _ vJ (Ą ..))⟩
theorem MU {it d:c_}{i ep:j?}{es:C? ì}{od:J_}{Q:f_ b_->d_->Prop}(hh:A.handled=none)(hit:s.heap.IsKeyIter it d i es.size ep)(mv:s.heap.get? d=some od)(eL:od.data= .dict es ep)(WY:es.size<=i)(hQ:∀h',k_.ExtBut it s.heap h'->Q none {s with heap:=h'}):l_ (m_ prog w) A (Ŵ (.ref it)) Q E s:=by
  obtain⟨o,ho,hc,hd⟩:=id hit;have hT:=hit.typeIs;unfold Ŵ;refine d? (acs ?_);refine Ŧ hT Æ ?_;refine W' Æ hT abm ?_ (abe _);unfold Builtin.«dict_keyiterator.__next__»;wp_walk using Ý hT,abW ho hd,ŕ mv eL,abI mv eL,aab hT;rw[f? (show¬(i:i_)<0 by lia),Ù,ada WY];wp_walk using Ý hT;rw[hd];show l_ _ _ (update it (ñ (·.setIfInBounds 0 .none))) _ _ s;refine wpAny_update ho ?_;unfold newExc raiseNew newTuple afp;wp_walk using î;all_goals first
    | (show l_ _ _ (isSubtype (.type "StopIteration") (.type "StopIteration")) _ _ _
       rw[afn];exact h_ (h_ (hQ _ (((Ą ..).extBut.push _).push _))))
    |(unfold e_;size_fits)
    |size_fits
theorem MV {d:c_}{es:C? ì}{ep:j?}{od:J_}{Q:b_->d_->Prop}(hd:(d==V')=false)(mv:s.heap.get? d=some od)(hx:od.ExactDict)(eL:od.data= .dict es ep)(hQ:Q (.ref s.heap.objs.size) {s with heap:=s.heap.push {cls:=.type "dict_keyiterator",data:=.fields #[.ref d,.int 0 0,.int es.size 0,.int ep 0]}}):l_ (m_ prog w) A (abX (.ref d)) Q E s:=by
 have hT:s.TypeIs (.ref d) "dict":=⟨od,mv,hx.1⟩;have run:l_ (m_ prog w) A.in1 (Builtin.«dict.__iter__» ⟨[.ref d],[]⟩) (λfin s'=>fin= .done (.ret (.ref s.heap.objs.size))/\s'={s with heap:=s.heap.push {cls:=.type "dict_keyiterator",data:=.fields #[.ref d,.int 0 0,.int es.size 0,.int ep 0]}}) E s:=by unfold Builtin.«dict.__iter__» V_.Dict.dictSlotNone V_.Dict.showsAll;wp_walk using ade hT,ŕ mv eL,abI mv eL;exact⟨a_,a_⟩
 refine aa3 hT adV (W' adV hT F.entry_dict_iter (F' run (λf s' z=>?_) λ_ _ z=>z) (F.args_dict_iter_1 _));obtain⟨rfl,rfl⟩:=z;exact⟨_,a_,xa0 ("dict_keyiterator") _ ⟨⟨_,x? _ a_,a_⟩,Æ.lookup,hQ⟩⟩
end
end PySem
namespace L2
open PySem PySem.Spec PyProof.Rows
noncomputable def EK (a:c_)(o:J_)(aa:b? (b? Key×V)):It where
 go:=λi H=>i<aa.length/\H a=some (.az o (.dT aa))
 eF:=λi H x H'=>H'=H/\∃kv b,aa[i]?=some kv/\x= .ref b/\H b=some (.tup (kv.1.map kV))
 stop:=λi H=>aa.length<=i/\H a=some (.az o (.dT aa))
theorem qa {α β:Type}{F:α->β->Prop}:∀{xs:b? α}{ys:b? β}{i:j?}{x:α},g? F xs ys->xs[i]?=some x->∃y,ys[i]?=some y/\F x y:=λ{xs ys i x} q e=>by
 induction q generalizing i with
 |nil=>simp at e
 |cons h _ ih=>
  cases i with
  |zero=>cases o_ e;exact⟨_,a_,h⟩
  |succ i=>exact ih (i:=i) e
theorem WZ {P:n_}{w:z?}{K:e?}{tg:G?}(a it:c_)(o:J_)(aa:b? (b? Key×V))(es:C? ì)(ep:j?)(hd:o.data= .dict es ep):Turn P w K tg (EK a o aa) [it] it (λi h=>h.IsKeyIter it a i aa.length ep) where
 mem:=by simp
 obj:=λi h st b hb=>by
  have e:b=it:=by simpa using hb
  subst e;obtain⟨o,e,c,d⟩:=st;exact⟨o,e,λv z=>by rw[d]at z;cases z⟩
 keep:=λi h h' st k=>st.at λo e=>k it (by simp) o e
 item:=by
  intro X hP hw hK hc i pins s U H E I hf st hg;subst hP hw hK;obtain⟨hi,hq⟩:=hg;obtain⟨ho,hz,hs,xs,r,o',gB,dX,aQ,ft,aX,he,nd⟩:=I.ag a _ hq;cases o_ (aQ.symm.trans ho);rw[hd]at aX;cases aX;have hsz:es.size=aa.length:=by have e1:=T_ ć he;rw[i?,<-q? r]at e1;simpa using e1
  obtain⟨kv,n9⟩:∃kv,aa[i]?=some kv:=⟨aa[i],by simp[hi]⟩;obtain⟨x,ex,e1,e2,e3⟩:=qa r n9;have aA:i<es.size:=by lia
  have cp:es[i].key= .ref x.2.1:=by
   have h1:es.toList[i]?=some es[i]:=by simp[aA]
   rw[he,J',ex]at h1;rw[<-o_ h1];rfl
  obtain⟨f0,f1,f2,f3,f4,f5⟩:=hf it (by simp);rw[<-hsz]at st;refine MT st ho hd aA λh' bG sb=>?_;have I1:Inv X pins U H {s with heap:=h'}:=I.turned (t':=s.toks) (λb o hb e=>(sb.2 b hb).trans e) f0 f1 f3 f4 f5;rw[hsz]at bG;rw[cp];obtain⟨oi,ei,ci,di⟩:=id bG;exact⟨_,a_,pH (s:={s with heap:=h'}) ei ci di (by decide) (xa0 (.ref x.2.1) H ⟨I1,a_,⟨a_,xa0 kv x.2.1 ⟨n9,a_,by rw[e1];rw[e1]at e2;exact e2⟩⟩,bG,λb hb=>(hf b hb).1⟩)⟩
 done:=by
  intro X hP hw hK hc i pins s U H E I hf st hg;subst hP hw hK;obtain⟨hi,hq⟩:=hg;obtain⟨ho,hz,hs,xs,r,o',gB,dX,aQ,ft,aX,he,nd⟩:=I.ag a _ hq;cases o_ (aQ.symm.trans ho);rw[hd]at aX;cases aX;have hsz:es.size=aa.length:=by have e1:=T_ ć he;rw[i?,<-q? r]at e1;simpa using e1
  obtain⟨f0,f1,f2,f3,f4,f5⟩:=hf it (by simp);rw[<-hsz]at st;exact MU (I.ok.hd hc) st ho hd (by lia) λh' eb=>⟨a_,I.turned (t':=s.toks) (λb o hb e=>eb b o hb e) f0 f1 f3 f4 f5⟩
 self:=λ_ _ _ _ _ st h=>aan st h
section
variable {X:Cx}
theorem W0:cD X (.builtin "isinstance") (λxs H Q=>∃x q,xs=[.ref x,.ref q]/\H q=some (.tup [.ty "list",.ty "tuple"])/\((∃ys,ah X.K H x ys)\/∃ys,ax X.K H x ys)/\Q (.bl true) H):=by
 intro pins s U H xs us Q I r h;obtain⟨x,q,rfl,hq,hx,k⟩:=h;obtain⟨u,w,rfl,r1,r2⟩:=vals2 r;cases r1;cases r2;obtain⟨ts,rt,ht,_⟩:=I.tuple (ax.of hq);obtain⟨a,b,rfl,ra,rb⟩:=vals2 rt;obtain rfl:a=ĝ "list":=ra;obtain rfl:b=ĝ "tuple":=rb;obtain⟨⟨c,dd,dt,sl⟩,ho,hc,n,hd⟩:=ht;simp only at hc hd;subst hc hd;have fin:∀tk,EP X pins U Q (.bool true) {s with toks:=tk}:=λtk=>(xa0 (.bl true) H ⟨I.tok tk,a_,k⟩);rcases hx with⟨ys,hy⟩|⟨ys,hy⟩
 .obtain⟨its,_,pl,_⟩:=I.list hy;obtain⟨o,fS,jC,_⟩:=pl.isList;exact acM (its:=[.type "list",.type "tuple"]) aaf I.aW ⟨o,fS,jC⟩ ho a_ (λz=>nomatch z) fin
 .obtain⟨its,_,⟨o,fS,jC,_⟩,_⟩:=I.tuple hy;exact acM (its:=[.type "list",.type "tuple"]) ab8 I.aW ⟨o,fS,jC⟩ ho a_ (λz=>nomatch z) fin
noncomputable def MW (a b:TI):TI:=λ U H R=>a U H R\/b U H R
theorem W2 {tg l:G?}{a b:TI}(h1:PI X tg l a)(h2:PI X tg l b):PI X tg l (MW a b):=by
 intro pins s U H R I h;rcases h with h|h
 .exact h1 pins s U H R I h
 .exact h2 pins s U H R I h
theorem W3 {tg l:G?}{tl:TE}(hl:PE X l tl):PI X tg l (MW (Dy X.K tl) (K0 X.K tl)):=W2 (kO hl) (K1 hl)
end
section
variable {X:Cx}{CX:eY}{k:j?}{C f:c_}{fd:l?}{ps ks:b? y_}{sp:Sp}{E:XK}{g:b? b_->b? b_->b? b_}{gV:b? V->b? V->b? V}{x:y_}{p pos:Ī}{e:G?}{es:b? G?}{fR:b? aa9}{t tk:TA}
theorem W4 {pins:b? (c_×J_)}{U:St}{H:Hp}{s:d_}{Q:VK}{us ws:b? b_}{vs zs:b? V}(M:Mk X.K C f)(F:zu X.prog X.w X.K X.mg X.base CX k f fd ps sp)(hr:aY (k+1) X.A)(hb:iy X.K fd ps ks g gV)(hx:Passes CX X E)(I:Inv X pins U H s)(r:Vals vs us)(rz:Vals zs ws)(h:∀x dx,H x=none->H dx=none->dx≠x->sp (gV (.ref x::vs) zs) (upd (upd H dx (.own x)) x (.ins C dx [])) (λv H2=>v= .ar/\Q (.ref x) H2) E):
  l_ (m_ X.prog X.w) X.A (Ħ (.ref C) us (ks.zip ws)) (EP X pins U Q) X.xe s:=by
 have hq:=h (s.heap.objs.size+1) s.heap.objs.size (I.ag.fresh (ŷ _)) (I.ag.fresh (s_ _)) (N? (Ė _));have I2:=Inv.made (C:=C) I;have r2:=hb.rel (g?.cons (show RelV (V.ref (s.heap.objs.size+1)) (o? (s.heap.objs.size+1))from a_) r) rz;have hl:(g (o? (s.heap.objs.size+1)::us) ws).length=ps.length:=by rw[<-q? r2];exact F.len _ _ _ _ hq
 refine Ĥ (Lh (f:=f) I.aW M.makes M.init (Á.mp M.fn) (û (F.run _ X.stack _ _ ⟨o? (s.heap.objs.size+1)::us,ks.zip ws⟩ _ _ _ E (hr.make C us (ks.zip ws)) (I2.rR.make C us (ks.zip ws)) (hb.to _ _ _ I2.aW hl) r2 hq) λr s' dY=>?_));cases r with
 |error e=>exact hx pins U _ _ e s' I2 dY
 |ok fl=>
  cases fl with
  |ret u=>obtain⟨v,H',I3,rv,ev,q3⟩:=I2.after dY;subst ev;exact⟨rv,(xa0 (V.ref (s.heap.objs.size+1)) H' ⟨I3,a_,q3⟩)⟩
  |next=>exact H? dY
  |brk=>exact H? dY
  |cont=>exact H? dY
noncomputable def W5 (C:c_)(sp:Sp)(gV:b? V->b? V->b? V)(E:XK)(t tk:TA):TE:=λ U H Q=>t U H λvs H1=>tk U H1 λzs H2=>∀x dx,H2 x=none->H2 dx=none->dx≠x->sp (gV (.ref x::vs) zs) (upd (upd H2 dx (.own x)) x (.ins C dx [])) (λv H3=>v= .ar/\Q (.ref x) H3) E
theorem W6 (M:Mk X.K C f)(F:zu X.prog X.w X.K X.mg X.base CX k f fd ps sp)(hr:aY (k+1) X.A)(hg:Gl X x)(hm:X.mg x=some (.ref C))(hb:iy X.K fd ps ks g gV)(hx:Passes CX X E)(ha:PA X (e::es) t)(tY:PK X fR tk)(jB:e_ ((Ñ pos (S_ fR X.env)).all (·.1.isSome)=true) aP1)(DL:e_ ((Ñ pos (S_ fR X.env)).filterMap (·.1)=ks) aP1)(cP:e_ ((x==("__debug__":y_))=false) aP2)(he:e_ (x_ (e::es) X.env=(false,T? e X.env)::x_ es X.env) aP1)(cw:e_ (((Y? pos (x_ (e::es) X.env)).any (·.1)||(Ñ pos (S_ fR X.env)).any (·.1.isNone))=false) aP1):
  PE X (.Call (.Name x p) (e::es) fR pos) (W5 C sp gV E t tk):=by
 intro pins s U H Q I h;refine á (nE I hg hm ?_ cP);refine abM (h₀:=X.base) I.ok.mod.eV M.kp jB (ai (ha pos pins s U H _ I h) λus s1 zQ=>?_) cw he;obtain⟨vs,H1,I1,r,q⟩:=zQ;refine ai (tY pos pins s1 U H1 _ I1 q) λws s2 ⟨zs,H2,I2,rz,q2⟩=>⟨I2.aW,?_⟩;rw[DL];exact W4 M F hr hb hx I2 r rz q2
end
section
variable {X:Cx}{K:e?}
theorem MX (hK:X.K=K):bD X (M? .NotIn) (DR K true):=by subst hK;exact Ae
theorem MY (hK:X.K=K):cD X (.builtin "len") (λxs H Q=>∃p ys,xs=[V.ref p]/\(ah K H p ys\/ax K H p ys)/\Q (V.int ys.length) H):=by subst hK;exact jt
end
noncomputable def DK {α:Type}:Ģ α->Prop
 | .pure _=>I?
 | .raise _=>I?
 | .unsupported _=>I?
 | .finish _=>I?
 | .rule _ k=>DK (k ())
 | .at _ k=>DK (k ())
 | .load _ _ k=>∀o,DK (k o)
 | .update _ _ f k=>(∀o:J_,(f o).dict=o.dict/\(o.isFreed=false->(f o).isFreed=false))/\DK (k ())
 | .loadIfAlive _ k=>∀o,DK (k o)
 | .point _ k=>DK (k ())
 | .register _ _=>I?
 | .alloc _ k=>∀a,DK (k a)
 | .fresh k=>∀t,DK (k t)
 | .ask k=>∀x,DK (k x)
 | .handled _ k=>∀x,DK (k x)
 | .stack k=>∀x,DK (k x)
 |_=>v?
theorem W7 {α β:Type}{f:α->Ģ β}(hf:∀a,DK (f a))(m:Ģ α)(h:DK m):DK (m.bind f):=by
 induction m with
 |pure a=>exact hf a
 |raise _=>exact q_
 |unsupported _=>exact q_
 |finish _=>exact q_
 |rule _ k ih=>exact ih () h
 |«at» _ k ih=>exact ih () h
 |load _ _ k ih=>exact λo=>ih o (h o)
 |update _ _ _ k ih=>exact⟨h.1,ih () h.2⟩
 |loadIfAlive _ k ih=>exact λo=>ih o (h o)
 |point _ k ih=>exact ih () h
 |register _ _ _=>exact q_
 |alloc _ k ih=>exact λa=>ih a (h a)
 |fresh k ih=>exact λa=>ih a (h a)
 |ask k ih=>exact λa=>ih a (h a)
 |handled _ k ih=>exact λa=>ih a (h a)
 |stack k ih=>exact λa=>ih a (h a)
 |choose _ _ _ _=>exact H? h
 |os _ _ _ _=>exact H? h
 |call _ _ _ _ _ _=>exact H? h
 |newGen _ _ _=>exact H? h
 |genState _ _ _=>exact H? h
 |resume _ _ _ _ _=>exact H? h
 |yield _ _ _ _ _=>exact H? h
 |fork _ _ _=>exact H? h
 |thread _ _=>exact H? h
 |await _ _ _ _ _ _=>exact H? h
theorem zx {α β:Type}{m:Ģ α}{f:α->Ģ β}(hm:DK m)(hf:∀a,DK (f a)):DK (m >>= f):=W7 hf m hm
theorem EL {a:c_}:DK (load a):=λ_=>q_
theorem W8 {o:J_}:DK (alloc o):=λ_=>q_
theorem EM:DK stack:=λ_=>q_
theorem MZ {a:c_}{f:J_->J_}(h:∀o:J_,(f o).dict=o.dict/\(o.isFreed=false->(f o).isFreed=false)):DK (update a f):=⟨h,q_⟩
noncomputable def KD (h h':k_):Prop:=∀b o,h.get? b=some o->∃o',h'.get? b=some o'/\o'.dict=o.dict
theorem KD.refl (h:k_):KD h h:=λ_ o e=>⟨o,e,a_⟩
theorem KD.trans {a b c:k_}(x:KD a b)(y:KD b c):KD a c:=λi o e=>by obtain⟨o1,e1,d1⟩:=x i o e;obtain⟨o2,e2,d2⟩:=y i o1 e1;exact⟨o2,e2,d2.trans d1⟩
theorem KD.push (h:k_)(o:J_):KD h (h.push o):=λ_ o' e=>⟨o',g_ o e,a_⟩
theorem KD.update {h:k_}{a:c_}{f:J_->J_}(hf:∀o:J_,(f o).dict=o.dict/\(o.isFreed=false->(f o).isFreed=false)):KD h (h.update a f):=λb o e=>by
 by_cases z:a=b
 .subst z;exact⟨f o,R? f e ((hf o).2 (adG.mp e).2),(hf o).1⟩
 .exact⟨o,by rw[ſ h f z];exact e,a_⟩
theorem W9 {α:Type}{M:aaJ}{Γ:PySem.Ctx}{Q:α->Ī->d_->Prop}{E:b_->Ī->d_->Prop}(t:Ģ α)(p:Ī)(s:d_)(d:DK t)(h:ĭ M Γ t Q E p s):ĭ M Γ t (λa p' s'=>Q a p' s'/\KD s.heap s'.heap) (λe p' s'=>E e p' s'/\KD s.heap s'.heap) p s:=by
 induction t generalizing p s with
 |pure a=>rw[ĭ]at h⊢;exact⟨h,KD.refl _⟩
 |raise _=>rw[ĭ]at h⊢;exact⟨h,KD.refl _⟩
 |unsupported _=>rw[ĭ]at h;exact h.elim
 |finish _=>rw[ĭ]at h;exact h.elim
 |rule _ k ih=>rw[ĭ]at h⊢;exact ih () p s d h
 |«at» p' k ih=>rw[ĭ]at h⊢;exact ih () p' s d h
 |load a x k ih=>rw[ĭ]at h⊢;obtain⟨o,e,h⟩:=h;exact⟨o,e,ih o p s (d o) h⟩
 |update a x f k ih=>rw[ĭ]at h⊢;obtain⟨e,h⟩:=h;exact⟨e,afU M Γ (k ()) (λ_ _ s' q=>⟨q.1,(KD.update d.1).trans q.2⟩) (λ_ _ s' q=>⟨q.1,(KD.update d.1).trans q.2⟩) p _ (ih () p _ d.2 h)⟩
 |loadIfAlive a k ih=>rw[ĭ]at h⊢;exact ih _ p s (d _) h
 |point _ k ih=>rw[ĭ]at h⊢;exact ih () p s d h
 |register _ _ _=>rw[ĭ]at h;exact h.elim
 |alloc o k ih=>rw[ĭ]at h⊢;exact afU M Γ (k s.heap.objs.size) (λ_ _ s' q=>⟨q.1,(KD.push _ o).trans q.2⟩) (λ_ _ s' q=>⟨q.1,(KD.push _ o).trans q.2⟩) p _ (ih _ p _ (d _) h)
 |fresh k ih=>rw[ĭ]at h⊢;exact ih _ p _ (d _) h
 |ask k ih=>rw[ĭ]at h⊢;exact ih _ p s (d _) h
 |handled own k ih=>rw[ĭ]at h⊢;exact ih _ p s (d _) h
 |stack k ih=>rw[ĭ]at h⊢;exact ih _ p s (d _) h
 |choose _ _ _ _=>exact H? d
 |os _ _ _ _=>exact H? d
 |call _ _ _ _ _ _=>exact H? d
 |newGen _ _ _=>exact H? d
 |genState _ _ _=>exact H? d
 |resume _ _ _ _ _=>exact H? d
 |yield _ _ _ _ _=>exact H? d
 |fork _ _ _=>exact H? d
 |thread _ _=>exact H? d
 |await _ _ _ _ _ _=>exact H? d
theorem vK {α:Type}{M:aaJ}{A:B?}{t:Ģ α}{Q:α->d_->Prop}{E:b_->d_->Prop}{s:d_}(d:DK t)(h:l_ M A t Q E s):l_ M A t (λa s'=>Q a s'/\KD s.heap s'.heap) (λe s'=>E e s'/\KD s.heap s'.heap) s:=λΓ p Xa=>W9 t p s d (h Γ p Xa)
theorem Xb {v:b_}:DK (fieldsOf v):=by
 unfold fieldsOf;split
 .refine zx EL λo=>?_;split<;>exact q_
 .exact q_
theorem AH {v:b_}{i:j?}:DK (field v i):=by unfold field;refine zx Xb λvs=>?_;split<;>exact q_
theorem Xc (f:C? b_->C? b_)(o:J_):(ñ f o).dict=o.dict/\(o.isFreed=false->(ñ f o).isFreed=false):=by obtain⟨c,d,dt,sl⟩:=o;cases dt<;>exact⟨a_,λh=>h⟩
theorem EN {v x:b_}{i:j?}:DK (afj v i x):=by
 unfold afj;split
 .unfold updateField;refine zx EL λo=>?_;split
  .split
   .exact MZ (Xc _)
   .exact q_
  .exact q_
 .exact q_
theorem EO {e:b_}{f:f_ c_}:DK (setFlight e f):=by
 unfold setFlight;refine zx AH λtb=>?_;split
 .exact EN
 .exact q_
theorem M0:∀l:b? š,DK (readyFrames l)
 |[]=>q_
 | env::outer=>by
  unfold readyFrames;split
  .refine zx EL λo=>?_;split
   .exact q_
   .refine zx ?_ λim=>zx ?_ λback=>zx (MZ λo=>⟨a_,λh=>?_⟩) λ_=>M0 outer
    .unfold behindIsImport;split
     .exact q_
     .split
      .exact q_
      .exact zx AH λ_=>q_
    .unfold keptBack;split
     .split
      .exact q_
      .refine zx ?_ λ_=>q_;unfold underTheClaimsCaller;exact zx EM λ_=>q_
     .exact q_
    .obtain⟨c,d,dt,sl⟩:=o;cases dt<;>exact h
  .exact q_
theorem Xd {env:š}:DK (abu env):=by
 unfold abu;refine zx (zx EM λ_=>q_) λes=>zx ?_ λr=>?_
 .cases es.dropWhile (·.frame != env.frame)with
  |nil=>exact q_
  |cons e r=>unfold frameObject;exact zx (M0 _) λ_=>q_
 .split<;>exact q_
theorem Xe {ty:í}{vs:b? b_}:DK (newFields ty vs):=by
 unfold newFields newObj;dsimp only;have rest:DK (newObjAsIs (ĝ ty) (Data.fields vs.toArray)):=by unfold newObjAsIs;exact zx W8 λ_=>q_
 split
 .exact zx q_ λ_=>rest
 .exact rest
theorem Xf {f:c_}{b:s?}:DK (ac1 f b):=by unfold ac1;refine zx EM λXg=>?_;split<;>exact q_
theorem M1 {e:b_}{env:š}:DK (acF e env):=by
 unfold acF;split
 .have rest:∀{head:b_}{f:c_},DK (do afj e 1 (<-EntryCells.newEntry head (<-abu env) .none (ś f) .none (<-ac1 f (head != .none)))):=λ{head f}=>zx Xd λa=>zx Xf λpl=>zx Xe λb=>EN;refine zx AH λhead=>?_;split
  .refine zx AH λx=>?_;split
   .exact q_
   .exact zx EN λ_=>rest
  .exact rest
 .exact q_
theorem M3 {env:š}{e:b_}:DK (aee env e):=zx M1 λ_=>EO
end L2
namespace PySem
section
variable {prog:n_}{w:z?}{A:B?}{E:b_->d_->Prop}{h:k_}{g:C? aca}{d:Drawn}{t:j?}{os:OsState}
variable {nm q:y_}{C N:c_}{bs bm pZ:b? b_}{hdct:s?}{sn:b? y_}{sub:b? b_}{ab:s?}{col:f_ s?}{dd:f_ c_}{k0 k1 k2 k3 k5:f_ b_}{Bq newId jL:í}
theorem Xh (F:ExcBaseFacts Bq newId jL pZ)(T:aax h pZ bm){rest:b? b_}{fI:c_}{oI:J_}{Q:Fin->d_->Prop}(hC:h.get? C=some (Ď nm q C N bs bm hdct sn sub ab col dd k0 k1 k2 k3 k5 newId))(L:P_ (m_ prog w) h (ń (.ref C) "__init__") (some (.ref fI)))(ER:h.get? fI=some oI)(ES:oI.cls= .type "function")(fb:rest.length<=k?)(hq:∀h' e,aaL h h' e (.ref C) rest->l_ (m_ prog w) A (Ħ (.ref fI) (.ref e::rest)) (λr s'=>r= .none/\Q (.done (.ret (.ref e))) s') E ⟨h',g,d,t,os⟩):
  l_ (m_ prog w) A (Builtin.«type.__call__» ⟨.ref C::rest,[]⟩) Q E ⟨h,g,d,t,os⟩:=by
 repeat(first|with_reducible refine L? hC ?_|with_reducible refine wpAny_madeBy_exc hC ?_|wp_step)
 refine codeAny_call_builtin_code (Ĳ _ F.quiet) (wpAny_check_new_subT F T hC (codeAny_exc_new_subT F T hC ?_ fb));show l_ _ _ _ _ _ _;have hk:∀b o,h.get? b=some o->((h.push {cls:=.type "tuple",data:=.seq rest.toArray}).push {cls:=.ref C,data:=.fields #[.ref h.objs.size,.none,.none,.none,.bool false,.none]}).get? b=some o:=λb o e=>g_ _ (g_ _ e);have vL:((h.push {cls:=.type "tuple",data:=.seq rest.toArray}).push {cls:=.ref C,data:=.fields #[.ref h.objs.size,.none,.none,.none,.bool false,.none]}).get? (h.objs.size+1)=some {cls:=.ref C,data:=.fields #[.ref h.objs.size,.none,.none,.none,.bool false,.none]}:=by heap_get
 have hm:aaL h ((h.push {cls:=.type "tuple",data:=.seq rest.toArray}).push {cls:=.ref C,data:=.fields #[.ref h.objs.size,.none,.none,.none,.bool false,.none]}) (h.objs.size+1) (.ref C) rest:=⟨hk,ķ (ŷ _),h.objs.size,vL,ķ (s_ _),g_ _ (adU a_ a_)⟩;have dY:=hq _ _ hm;have sH:=hk _ _ hC;have ET:=hk _ _ ER;have Xi:(o? C::bm).contains (.ref C)=true:=by simp
 unfold Ň;repeat(first|with_reducible refine L? vL ?_|(with_reducible refine aaD sH ?_;rw[Xi])|wp_step)
 show l_ _ _ (ń (.ref C) _) _ _ _;refine L _ _ _ _ hk (L_ (d? ?_));unfold bindSpecial;refine d? (Ļ (T:="function") ⟨_,ET,ES⟩ ?_);rw[j_ (by decide)];refine h_ (d? (F' dY (λr s' hr=>?_) λ_ _ x=>x));obtain⟨rfl,hQ⟩:=hr;wp_walk;exact hQ
theorem Xj (F:ExcBaseFacts Bq newId jL pZ)(T:aax h pZ bm){rest:b? b_}{fI:c_}{oI:J_}{Q:b_->d_->Prop}(hC:h.get? C=some (Ď nm q C N bs bm hdct sn sub ab col dd k0 k1 k2 k3 k5 newId))(L:P_ (m_ prog w) h (ń (.ref C) "__init__") (some (.ref fI)))(ER:h.get? fI=some oI)(ES:oI.cls= .type "function")(fb:rest.length<=k?)(hq:∀h' e,aaL h h' e (.ref C) rest->l_ (m_ prog w) (A.under (.builtin "type.__call__" ⟨.ref C::rest,[]⟩)) (Ħ (.ref fI) (.ref e::rest)) (λr s'=>r= .none/\Q (.ref e) s') E ⟨h',g,d,t,os⟩):
  l_ (m_ prog w) A (Ħ (.ref C) rest) Q E ⟨h,g,d,t,os⟩:=by
 have f1:=tc_lookup;have f2:=tc_bind (.ref C);have hT:(⟨h,g,d,t,os⟩:d_).TypeIs (.ref C) "type":=⟨_,hC,a_⟩;refine Ĥ (aeS ?_);show l_ _ _ (callAny (.ref C) _) _ _ _;repeat(any_goals (first|assumption|with_reducible refine L? hC ?_|wp_step))
 refine⟨a_,?_⟩;exact codeAny_call_builtin_at (Ĳ _ (by decide+kernel)) entry_typeCall (wpAny_check_type_call_sub hC (Xh F T hC L ER ES fb λh' e hm=>hq h' e hm))
theorem Xk {s:d_}{env:š}{x:Ģ b_}{Q:Flow->d_->Prop}(fc:bm.contains (.type "BaseException")=true)(hh:A.handled=none)(hx:l_ (m_ prog w) A x (λv s1=>∃e oe t,v= .ref e/\s1.heap.get? C=some (Ď nm q C N bs bm hdct sn sub ab col dd k0 k1 k2 k3 k5 newId)/\s1.heap.get? e=some oe/\oe.cls= .ref C/\oe.data= .fields #[.ref t,.none,.none,.none,.bool false,.none]/\E (.ref e) s1) E s):
  l_ (m_ prog w) A (raiseStmt env (some x) none) Q E s:=by
 have EU:(o? C::bm).contains (.type "BaseException")=true:=by rw[adK,fc,aaC]
 unfold raiseStmt;refine d? (F' hx (λv s1 q1=>?_) λ_ _ z=>z);obtain⟨e,oe,t,rfl,hC,he,hc,hd,hE⟩:=q1;obtain⟨hp,g,dr,tk,os⟩:=s1;obtain⟨c0,di,da,sl⟩:=oe;dsimp only at hc hd;subst hc hd;repeat(first|with_reducible refine L? he ?_|with_reducible refine L? hC ?_|(with_reducible refine aaD hC ?_;rw[EU])|wp_step)
 exact wpAny_raiseNew_none hh hE
end
end PySem
namespace PySem
open Builtin Builtin.ObjectAttr
noncomputable abbrev AI:b? b_:=[.type "ValueError",.type "Exception",.type "BaseException",.type "object"]
section
variable {prog:n_}{w:z?}{A:B?}{E:b_->d_->Prop}{h:k_}{g:C? aca}{d:Drawn}{t:j?}{os:OsState}
variable {nm q:y_}{C N x:c_}{bs bm:b? b_}{hdct:s?}{sn:b? y_}{sub:b? b_}{ab:s?}{col:f_ s?}{dd:f_ c_}{k0 k1 k2 k3 k5:f_ b_}{newId:í}{name:y_}{v:b_}{o:J_}
theorem M4 {M:aaJ}{α:Type}{p:Ģ α}{r:α}{Q:α->d_->Prop}(L:P_ M h p r)(hq:Q r ⟨h,g,d,t,os⟩):l_ M A p Q E ⟨h,g,d,t,os⟩:=L _ _ _ _ (λ_ _ e=>e) hq
theorem Xl {self:b_}(T:aax h AI bm):refuseLoop self "__setattr__" bm=Ø ():=by
 induction T with
 |base=>exact Z_.passes self
 |own _ _ _ _ ih=>rw[afk];exact ih
theorem Xm {tk:Tok}{Q:Fin->d_->Prop}(T:aax h AI bm)(hC:h.get? C=some (Ď nm q C N bs bm true sn sub ab col dd k0 k1 k2 k3 k5 newId))(Ln:P_ (m_ prog w) h (ń (.ref C) name) none)(hx:h.get? x=some o)(hc:o.cls= .ref C)(EV:∀c,o.data≠.cls c)(EW:o.dict=none)(hq:∀h' iT dx,h.get? dx=none->dx≠x->h'.get? x=some {o with dict:=some dx}->h'.Ns1 dx (λy=>if y=name then some v else none)->(∀b ob,b≠x->h.get? b=some ob->h'.get? b=some ob)->Q (.done (.ret .none)) ⟨h',g,d,iT,os⟩):
  l_ (m_ prog w) A (Builtin.«object.__setattr__» ⟨[.ref x,.str name tk,v],[]⟩) Q E ⟨h,g,d,t,os⟩:=by
 have vM:=Xl (self:=.ref x) T;unfold Builtin.«object.__setattr__»;repeat(first|rw[refuse_eq]|(rw[afk,vM])|(with_reducible refine L? hx ?_;rw[hc])|with_reducible refine wpAny_mroOf_exc hC ?_|with_reducible refine M4 Ln ?_|wp_step)
 rw[EW,f? (by simp[typeHasDict])];split
 .rename_i eW;cases eW
 split
 .rename_i c eW;exact v_ eW (EV c)
 have vD:(h.push {cls:=.type "dict",data:=.dict #[]}).get? x=some o:=g_ _ hx;have vH:x≠h.objs.size:=N? (u? hx);refine d? (wpAny_alloc' (d? (wpAny_update' vD (h_ ?_))));have Xn:((h.push {cls:=.type "dict",data:=.dict #[]}).update x λo=>{cls:=o.cls,dict:=some h.objs.size,data:=o.data,slots:=o.slots}).get? h.objs.size=some {cls:=.type "dict",data:=.dict #[]}:=(ŉ _ _ _ _ vH.symm).trans (adU a_ a_);show l_ _ _ (storeInDict h.objs.size (.str name tk) name v) _ _ _;unfold storeInDict newKeyGuard;refine d? (h_ (d? (wpAny_nsSet1 (k_.Ns1.of_empty (xa1 _ (#[]) _ ⟨Xn,a_,λe he=>v_ he (by simp),λ_=>a_⟩)) λh' nB hs=>?_)));obtain⟨oD,TF,TH,DG,DH,jA⟩:=nB.count (ĩ.cons name v ĩ.nil);refine d? (aet DG (by rw[DH];exact aew (K? jA (by rw[E?,ź,Ĭ];lia))) ?_);wp_walk;refine hq h' _ h.objs.size (ķ (s_ _)) vH.symm ?_ nB λb ob Xo hb=>(hs.2 b (N? (u? hb))).trans ((ŉ _ _ _ _ Xo).trans (g_ _ hb));refine(hs.2 x vH).trans (R? _ vD ?_);have gJ:=(adG.mp hx).2;obtain⟨oc,od,Xp,kQ⟩:=o;cases Xp<;>first|rfl|exact gJ
theorem Xq {M:aaJ}{fq:b_}{Q:Unit->d_->Prop}(T:aax h AI bm)(hC:h.get? C=some (Ď nm q C N bs bm hdct sn sub ab col dd k0 k1 k2 k3 k5 newId))(hx:h.get? x=some o)(hc:o.cls= .ref C)(hq:Q () ⟨h,g,d,t,os⟩):l_ M A (Ū "object.__setattr__" ⟨[.ref x,fq,v],[]⟩) Q E ⟨h,g,d,t,os⟩:=by
 have EU:(o? C::bm).contains (.type "object")=true:=by rw[adK,T.hasType Z_.hasOwner,aaC]
 have ha:=Z_.args (.ref x) fq v;simp only[Ū,Z_.kind,Z_.split];refine d? ?_;unfold Ň;repeat(first|(with_reducible refine L? hx ?_;rw[hc])|(with_reducible refine aaD hC ?_;rw[EU])|wp_step)
 exact hq
theorem Xr {Q:Unit->d_->Prop}(T:aax h AI bm)(hC:h.get? C=some (Ď nm q C N bs bm true sn sub ab col dd k0 k1 k2 k3 k5 newId))(Ls:P_ (m_ prog w) h (ń (.ref C) "__setattr__") (some (.builtin "object.__setattr__")))(Ln:P_ (m_ prog w) h (ń (.ref C) name) none)(hx:h.get? x=some o)(hc:o.cls= .ref C)(EV:∀c,o.data≠.cls c)(EW:o.dict=none)(hq:∀h' iT dx,h.get? dx=none->dx≠x->h'.get? x=some {o with dict:=some dx}->h'.Ns1 dx (λy=>if y=name then some v else none)->(∀b ob,b≠x->h.get? b=some ob->h'.get? b=some ob)->Q () ⟨h',g,d,iT,os⟩):
  l_ (m_ prog w) A (aec (.ref x) name v) Q E ⟨h,g,d,t,os⟩:=by
 have f3:=Z_.slot.bind (.ref x);unfold aec callSpecial? specialOf;repeat(any_goals (first|assumption|(with_reducible refine L? hx ?_;rw[hc])|with_reducible refine M4 Ls ?_|wp_step))
 refine ó Z_.slot.plain Z_.entry (Xq T hC hx hc (Xm T hC Ln hx hc EV EW λh' iT dx a1 a2 a3 a4 a5=>?_));repeat(any_goals (first|assumption|wp_step))
 exact hq h' iT dx a1 a2 a3 a4 a5
end
end PySem
namespace L2
open PySem PySem.Spec PyProof.Rows
noncomputable def AJ (K:e?)(C f:c_):s?:=(match K.lookup f with
 |some o=>o.cls== .type "function"
 |none=>false)&&match K.lookup C with
 |some ⟨.type "type",_,.cls cd,sl⟩=>(match cd.mro,sl.toList with
  | .ref C'::bm,[_,_,_,_,some (.builtin n),_]=>C'==C&&n=="ValueError.__new__"&&!cd.hasDel&&cd.hasDict&&PySem.W.tailIn K uX bm
  |_,_=>false)
 |_=>false
theorem EX {K:e?}{h:k_}{C f:c_}(X:K.In h)(q:AJ K C f=true):(∃oI,h.get? f=some oI/\oI.cls= .type "function")/\∃bm N nm qn bs sn sub ab col dd k0 k1 k2 k3 k5,h.get? C=some (Ď nm qn C N bs bm true sn sub ab col dd k0 k1 k2 k3 k5 "ValueError.__new__")/\aax h uX bm:=by
 unfold AJ at q;rw[M_]at q;obtain⟨q0,q⟩:=q;refine⟨?_,?_⟩
 .split at q0
  .rename_i o ho;exact⟨o,X _ _ ho,Á.mp q0⟩
  .cases q0
 split at q
 .rename_i dd cd sl ho;split at q
  .rename_i C' bm k0 k1 k2 k3 n k5 hm hs;simp only[M_,Á,ad1]at q;obtain⟨⟨⟨⟨rfl,rfl⟩,jJ⟩,M5⟩,ht⟩:=q;obtain⟨nm,bs,mro,ns,qn,hd,sn,sub,ab,col,del⟩:=cd;dsimp only at hm jJ M5;subst hm jJ M5;have qA:sl=#[k0,k1,k2,k3,some (.builtin "ValueError.__new__"),k5]:=by
    obtain⟨l⟩:=sl;simp only at hs;rw[hs]
   subst qA;exact(xa8 bm ns nm qn bs sn sub ab col dd k0 k1 k2 k3 k5 ⟨X _ _ ho,ab6 X ht⟩)
  .cases q
 .cases q
structure AK (K:e?)(C f:c_)(x:y_):Prop where
 cls:AJ K C f=true
 Xs:G_ K (.ref C) "__init__"=some (some (.ref f))
 sa:G_ K (.ref C) "__setattr__"=some (some (.builtin "object.__setattr__"))
 ga:G_ K (.ref C) "__getattribute__"=some (some (.builtin "BaseException.__getattribute__"))
 gn:G_ K (.ref C) "__getattr__"=some none
 no:G_ K (.ref C) x=some none
noncomputable def vN (ea C:c_):HO:=.ext λh=>∃t sl,h.get? ea=some ⟨.ref C,none,.fields #[.ref t,.none,.none,.none,.bool false,.none],sl⟩
noncomputable def qF (ea C d:c_):HO:=.ext λh=>∃t sl,h.get? ea=some ⟨.ref C,some d,.fields #[.ref t,.none,.none,.none,.bool false,.none],sl⟩
section
variable {X:Cx}{pins:b? (c_×J_)}{U:St}{H:Hp}{s:d_}
theorem Inv.vO (I:Inv X pins U H s)(hex:X.ex=[]){b:c_}(e:s.heap.get? b=none):X.au.heap.get? b=none:=by
 cases q:X.au.heap.get? b with
 |none=>rfl
 |some o=>have base:=I.base;rw[hex]at base;obtain⟨o1,e1⟩:=base.there b o q (by simp);rw[e]at e1;cases e1
noncomputable def Xt (C:c_)(ta tv:TE)(f:y_):TS:=λD U H=>tv U H λy H1=>ta U H1 λx H2=>∃a,x= .ref a/\H2 a=some (vN a C)/\∀d,H2 d=none->D.nx U (upd (upd H2 a (qF a C d)) d (.xd [(f,y)]))
theorem Xu {C fi:c_}{o value:G?}{f:y_}{pos pos':Ī}{ta tv:TE}(hI:AK X.K C fi f)(hex:X.ex=[])(ha:PE X o ta)(hv:PE X value tv)(hs:ŧ value (some (.Attribute o f pos')) pos.line X.env=Ø false):PS X (.Assign [.Attribute o f pos'] value pos) (Xt C ta tv f):=by
 intro pins s U H D I h;refine abi (ai (hv pins s U H _ I h) λu s1 ⟨y,H1,I1,ry,q⟩=>ai (ha pins s1 U H1 _ I1 q) λov s2 zQ=>?_) hs;obtain⟨x,H2,I2,rx,a,ex,ea,q2⟩:=zQ;subst ex;obtain rfl:ov=o? a:=rx;obtain⟨⟨t,sl,hx⟩,_,_⟩:=I2.ag a _ ea;obtain⟨_,bm,N,nm,qn,bs,sn,sub,ab,col,dd,k0,k1,k2,k3,k5,hC,T⟩:=EX I2.aW hI.cls;obtain⟨hp,g,dr,tk,os⟩:=s2;refine Xr T hC (Y_ I2.aW hI.sa) (Y_ I2.aW hI.no) hx a_ (λc z=>by cases z) a_ λh' iT d n1 n2 e1 e2 kp=>?_;have sA:H2 d=none:=by
  cases z:H2 d with
  |none=>rfl
  |some u=>obtain⟨o',e'⟩:=(I2.ag d u z).there;rw[show hp.get? d=none from n1]at e';cases e'
 have I3:Inv X pins U (upd H2 a (qF a C d)) ⟨h',g,dr,iT,os⟩:=by refine I2.write (x:=a) (e:=a) (h':=h') (t':=iT) (by rw[ea];exact q_) (.inl a_) (λb u hb e=>kp b u hb e) ⟨_,e1⟩ ⟨(xa0 t sl e1),⟨_,e1⟩,λh1 h2 p k=>?_⟩;obtain⟨t',oZ,e'⟩:=p;exact(xa0 t' oZ (k _ e'))
 have og:hp.get? d=none:=n1;have iC:∀b o,hp.get? b=some o->b≠d:=λb o e z=>by rw[z,og]at e;cases e
 have I4:Inv X pins U (upd (upd H2 a (qF a C d)) d (.xd [(f,y)])) ⟨h',g,dr,iT,os⟩:=by
  refine I3.Es hex (by rw[jd n2];exact sA) (I2.vO hex og) ?_ (λz c e=>?_) (λp mr=>?_) ⟨_,e2,λz=>?_⟩
  .obtain⟨m,⟨o',_,_,aQ,_⟩,_⟩:=I2.loc;exact(iC _ _ aQ).symm
  .obtain⟨v',o',aQ,_⟩:=I2.cell z c e;exact iC _ _ aQ
  .exact iC _ _ (I2.pin p mr).1
  .rw[à];by_cases hz:z=f
   .subst hz;simp only[ú,acW];exact ry
   .have:(z==f)=false:=by simpa using hz
    rw[this,f? hz];exact q_
 exact(xa0 U _ ⟨I4,q2 d sA⟩)
theorem Inv.drop {a:c_}{φ:k_->Prop}(I:Inv X pins U H s)(ha:H a=some (.ext φ)):Inv X pins U (λb=>if b=a then none else H b) s:=by
 have ne:∀{b:c_}{u:HO},H b=some u->(∀ψ,u≠.ext ψ)->b≠a:=λ{b u} e h z=>by subst z;rw[ha]at e;exact h _ (o_ e).symm
 have at_:∀{b:c_},b≠a->(λb=>if b=a then none else H b) b=H b:=λh=>f? h;have nn:∀{b:c_},H b=none->(λb=>if b=a then none else H b) b=none:=λ{b} h=>by
  by_cases z:b=a
  .exact j_ z
  .exact(f? z).trans h
 refine⟨I.ok,I.os,I.bare,⟨I.base.keep,I.base.slot,λb ob e n hx=>nn (I.base.free b ob e n hx),I.base.there,λb xs q=>?_,λb ob v q=>?_,λb ps q=>?_⟩,I.loc,I.cell,nn I.free,λx c e=>nn (I.dW x c e),λp hp=>?_,λb v e=>?_,I.len⟩
 .have q':=I.base.cj b xs q;exact(at_ (ne q' λ_ z=>nomatch z)).trans q'
 .have q':=I.base.dU b ob v q;exact(at_ (ne q' λ_ z=>nomatch z)).trans q'
 .obtain⟨more,z⟩:=I.base.eU b ps q;exact⟨more,(at_ (ne z λ_ z=>nomatch z)).trans z⟩
 .obtain⟨q1,q2,q3⟩:=I.pin p hp;exact⟨q1,nn q2,q3⟩
 .by_cases z:b=a
  .have e':(if b=a then none else H b)=some v:=e;rw[j_ z]at e';cases e'
  .have e':H b=some v:=(at_ z).symm.trans e;exact(I.ag b v e').dh (λ_ _ _ q=>q) (λc q=>(at_ (ne q λ_ z=>nomatch z)).trans q) λc xs q=>(at_ (ne q λ_ z=>nomatch z)).trans q
end
noncomputable def dD (P:n_)(w:z?):eY:=λl H s E e s'=>∃ea cls dd H',e= .ref ea/\sC P w l H H' s s' ea cls/\(∃oe,s'.heap.get? ea=some oe/\oe.dict=dd)/\E cls dd H'
section
variable {P:n_}{w:z?}{K:e?}{mg:y_->f_ b_}{base:k_}{N:b? y_}{qual:y_}{scope:Xg}{f:c_}{cd:b_}{A:B?}{outer:b? š}{s:d_}{H:Hp}{E:XK}
theorem Xv:Passes (dD P w) (dm (dD P w) P w K mg base N qual scope f cd A outer s H E) E:=by
 intro pins U H1 s1 e s' I h;obtain⟨ea,cls,dd,H',rfl,F,⟨oe,he,eL⟩,q⟩:=h;obtain⟨Bq,t,hf,k1,k2⟩:=F.Mw;show l_ (m_ P w) (A.deeper (Â qual scope s.heap.objs.size f cd)) (aee (Â qual scope s.heap.objs.size f cd) (.ref ea)) _ _ s';refine F' (vK M3 (wpAny_leaves_onW (E:=λ_ _=>v?) (Q:=λ_ bZ=>∃h',bZ={s' with heap:=h'}/\Ā Bq outer ea cls (.ref t) h'/\s'.heap.UpToSlots h') I.ok.frames (L:=s.heap.objs.size) a_ hf λh' dQ hu=>⟨h',a_,dQ,hu⟩)) (λ_ bZ zQ=>?_) (λ_ _ c=>c.1.elim);obtain⟨⟨h',e1,dQ,hu⟩,kd⟩:=zQ;subst e1;obtain⟨o2,e2,d2⟩:=kd ea oe he;exact(xa2 ea cls dd H' ⟨a_,VH I a_ F dQ hu k1 k2,⟨o2,e2,d2.trans eL⟩,q⟩)
theorem M6 {pins:b? (c_×J_)}{U:St}{H1:Hp}{s1:d_}{ea t:c_}{oe:J_}(I:Inv (dm (dD P w) P w K mg base N qual scope f cd A outer s H E) pins U H1 s1)(he:s1.heap.get? ea=some oe)(hd:oe.data= .fields #[.ref t,.none,.none,.none,.bool false,.none])(new:s.heap.get? ea=none)(hn:H1 ea=none)(q:E oe.cls oe.dict H1):(dm (dD P w) P w K mg base N qual scope f cd A outer s H E).xe (.ref ea) s1:=by
 have cF:∀b:c_,b∉([]:b? c_):=λb=>by simp
 have ib:Un (bu outer) [] H H1 s.heap s1.heap:=I.base;obtain⟨dy,mx⟩:∃dy,dy=Â qual scope s.heap.objs.size f cd::outer:=⟨_,a_⟩;have M7:∀env∈dy,∀b,env.frame=some b->b∈ea::bu dy:=λenv he b hb=>u_ _ (aaP.mpr ⟨env,he,hb⟩);have jM:∀b o,s1.heap.get? b=some o->b≠ea->b∉bu dy->(ð s1.heap (ea::bu dy)).get? b=some o:=λb o e h1 h2=>abL _ e λz=>(B_.mp z).elim h1 h2;have kY:∀b o,s.heap.get? b=some o->b∉bu outer->b∉bu dy:=λb o e hb=>by rw[mx];exact I.kY e hb
 have AL:∀b o,s.heap.get? b=some o->b≠ea:=λb o e z=>by rw[z,new]at e;cases e
 have nU:∀b u,H1 b=some u->b≠ea:=λb u e z=>by rw[z,hn]at e;cases e
 have lP:∀b u,H1 b=some u->b∉bu dy:=λb u e z=>by rw[mx]at z;have:=I.zC b z;rw[e]at this;cases this
 have IS:s1.heap.FunFrames (ð s1.heap (ea::bu dy)) (Â qual scope s.heap.objs.size f cd::outer):=by rw[mx];exact PySem.W.funFrames_hide I.stack (by rw[mx]at M7;exact M7)
 show l_ (m_ P w) (A.deeper (Â qual scope s.heap.objs.size f cd)) (aee (Â qual scope s.heap.objs.size f cd) (.ref ea)) _ _ s1;refine F' (vK M3 (wpAny_leaving_firstW (E:=λ_ _=>v?) (base:=ð s1.heap (ea::bu dy)) (a0:=.ref t) (Q:=λ_ bZ=>∃h',bZ={s1 with heap:=h'}/\k_.LeftW (ð s1.heap (ea::bu dy)) (Â qual scope s.heap.objs.size f cd::outer) ea oe.cls (.ref t) s1.heap h') I.ok.frames IS a_ he (λb o q=>ab7 _ q) (Ş _ (by simp)) hd a_ a_ λh' hL=>⟨h',a_,hL⟩)) (λ_ bZ ⟨⟨h',e1,hL⟩,kd⟩=>?_) (λ_ _ c=>c.1.elim);subst e1;obtain⟨o2,e2,d2⟩:=kd ea oe he;obtain⟨x1,⟨_,_,x2⟩,x3,x4⟩:=hL;have dh:∀b o,s1.heap.get? b=some o->b≠ea->b∉bu dy->h'.get? b=some o:=λb o e h1 h2=>x1 _ _ (jM b o e h1 h2);have slots:∀b o,s.heap.get? b=some o->H b=none->b∈bu outer->∃sl,h'.get? b=some {o with slots:=sl}:=λb o e n hb=>by
  obtain⟨sl,e1⟩:=ib.slot b o e n hb (cF b);obtain⟨_,o3,e3,nf⟩:=I.ok.fP.mem hb;have M8:s.heap.get? b=some o3:=e3;rw[e]at M8;cases M8;obtain⟨uW,e4⟩:=x4 b _ e1 nf;exact⟨uW,e4⟩
 refine(xa2 ea oe.cls oe.dict H1 ⟨a_,⟨I.os,I.bare,⟨λb o e n hb _=>?_,λb o e n hb _=>slots b o e n hb,λb o e n _=>ib.free b o e n (cF b),λb o e _=>?_,ib.cj,ib.dU,ib.eU⟩,λb u e=>?_,(xa0 (ð s1.heap (ea::bu dy)) t ⟨⟨x1,Ş _ (by simp),x2,x3⟩,λb o o' e e' hb=>?_,λb u o' q e'=>?_⟩),new⟩,⟨o2,e2,d2⟩,q⟩)
 .exact dh b o (ib.keep b o e n hb (cF b)) (AL b o e) (kY b o e hb)
 .by_cases hb:b∈bu outer
  .obtain⟨sl,q⟩:=slots b o e (I.ok.i5 b hb) hb;exact⟨_,q⟩
  .obtain⟨o1,e1⟩:=ib.there b o e (cF b);exact⟨o1,dh b o1 e1 (AL b o e) (kY b o e hb)⟩
 .refine(I.ag b u e).dh (λc v hc q=>?_) (λ_ q=>q) λ_ _ q=>q;rcases hc with z|z
  .subst z;exact dh _ _ q (nU _ _ e) (lP _ _ e)
  .exact dh _ _ q (nU _ _ z) (lP _ _ z)
 .obtain⟨o1,e1⟩:=ib.there b o e (cF b);have z:=dh b o1 e1 (AL b o e) (kY b o e hb);have e2:h'.get? b=some o':=e';rw[z]at e2;cases e2;exact jM b _ e1 (AL b o e) (kY b o e hb)
 .obtain⟨o1,e1⟩:=(I.ag b u q).there;have z:=dh b o1 e1 (nU _ _ q) (lP _ _ q);have e2:h'.get? b=some o':=e';rw[z]at e2;cases e2;exact jM b _ e1 (nU _ _ q) (lP _ _ q)
end
section
variable {P:n_}{w:z?}{K:e?}{mg:y_->f_ b_}{base:k_}
theorem av.M9 {x qual:y_}{st:I_}{f:c_}{fd:l?}{N ps:b? y_}{k:j?}{sp:Sp}(F:av K x qual st f fd)(S:ql N ps (jr st))(len:∀vs H Q E,sp vs H Q E->vs.length=ps.length)(bg:∀(aD:b_)(A:B?)(outer:b? š)(s:d_)(H:Hp)(vs:b? V)(Q:VK)(E:XK),aY k (A.deeper (Â qual (jr st) s.heap.objs.size f aD))->sp vs H Q E->∃t,dj (dm (dD P w) P w K mg base N qual (jr st) f aD A outer s H E) (iN st) t/\t {nx:=λ_ H'=>Q .ar H',rt:=Q} (start N vs) H):zu P w K mg base (dD P w) (k+1) f fd ps sp:=by
 obtain⟨oc,od,kV,doc,pm,an,aD,ct,kQ,rfl,lk,eW⟩:=F.ex;exact Lx lk eW S len λA outer s H vs Q E hr iM=>bg aD A outer s H vs Q E hr iM
theorem av.Xw {x qual:y_}{st:I_}{f:c_}{fd:l?}{N ps:b? y_}{k:j?}{sp:Sp}(F:av K x qual st f fd)(S:ql N ps (jr st))(bg:∀(aD:b_)(A:B?)(outer:b? š)(s:d_)(H:Hp)(vs:b? V)(Q:VK)(E:XK),aY k (A.deeper (Â qual (jr st) s.heap.objs.size f aD))->sp vs H Q E->∃t,dj (dm (dD P w) P w K mg base N qual (jr st) f aD A outer s H E) (iN st) t/\t {nx:=λ_ H'=>Q .ar H',rt:=Q} (start N vs) H)(len:e_ (∀vs H Q E,sp vs H Q E->vs.length=ps.length) aP6):zu P w K mg base (dD P w) (k+1) f fd ps sp:=F.M9 S len bg
theorem av.Xx {x qual:y_}{st:I_}{f:c_}{fd:l?}{N ps:b? y_}{k:j?}{sp:Sp}(F:av K x qual st f fd)(bg:∀(aD:b_)(A:B?)(outer:b? š)(s:d_)(H:Hp)(vs:b? V)(Q:VK)(E:XK),aY k (A.deeper (Â qual (jr st) s.heap.objs.size f aD))->sp vs H Q E->∃t,dj (dm (dD P w) P w K mg base N qual (jr st) f aD A outer s H E) (iN st) t/\t {nx:=λ_ H'=>Q .ar H',rt:=Q} (start N vs) H)(S:e_ (ql N ps (jr st)) aP8)(len:e_ (∀vs H Q E,sp vs H Q E->vs.length=ps.length) aP6):zu P w K mg base (dD P w) (k+1) f fd ps sp:=F.M9 S len bg
theorem Inv.Na {X:Cx}{pins:b? (c_×J_)}{U:St}{H:Hp}{s:d_}(I:Inv X pins U H s){a:c_}(e:s.heap.get? a=none):H a=none:=by
 cases z:H a with
 |none=>rfl
 |some u=>obtain⟨o,q⟩:=(I.ag a u z).there;rw[e]at q;cases q
theorem Nb {N:b? y_}{qual:y_}{scope:Xg}{f:c_}{cd:b_}{A:B?}{outer:b? š}{s:d_}{H:Hp}{E:XK}{x:y_}{C:c_}{e:G?}{es:b? G?}{t:TA}{np ay pos:Ī}(hg:Gl (dm (dD P w) P w K mg base N qual scope f cd A outer s H E) x)(hm:mg x=some (.ref C))(hC:Au K C)(ha:PA (dm (dD P w) P w K mg base N qual scope f cd A outer s H E) (e::es) t)(cP:e_ ((x==("__debug__":y_))=false) aP2)(he:e_ (x_ (e::es) (Â qual scope s.heap.objs.size f cd)=(false,T? e (Â qual scope s.heap.objs.size f cd))::x_ es (Â qual scope s.heap.objs.size f cd)) aP1)(cw:e_ ((Y? ay (x_ es (Â qual scope s.heap.objs.size f cd))).any (·.1)=false) aP1):
  PS (dm (dD P w) P w K mg base N qual scope f cd A outer s H E) (.Raise (some (.Call (.Name x np) (e::es) [] ay)) none pos) (Mx (E (.ref C) none) t):=
 VL a_ hg hm hC ha (λ{pins U H1 s1 ea vs h1} I hx q=>by obtain⟨t,h2,_,_⟩:=hx.there;exact M6 (I.kept (t':=s1.toks) hx.keeps) h2 a_ (I.vO a_ hx.new) (I.Na hx.new) q) cP he cw
end
noncomputable def Nc (C:c_)(sp:Sp)(W:f_ c_->Hp->Prop)(t:TA):TS:=λ_ U H=>t U H λvs H1=>vs.length<=k?/\∀ea,H1 ea=none->sp (.ref ea::vs) (upd H1 ea (vN ea C)) (λv H2=>v= .ar/\∃d,H2 ea=some (qF ea C d)/\W (some d) (λb=>if b=ea then none else H2 b)) E0
section
variable {X:Cx}
theorem Xy {k:j?}{fI C:c_}{fd:l?}{ps:b? y_}{sp:Sp}{fld x:y_}{e:G?}{es:b? G?}{t:TA}{np ay pos:Ī}{W:f_ c_->Hp->Prop}(hc:X.calm=true)(hex:X.ex=[])(hg:Gl X x)(hm:X.mg x=some (.ref C))(hI:AK X.K C fI fld)(Fn:zu X.prog X.w X.K X.mg X.base CX0 k fI fd ps sp)(hr:aY (k+1) X.A)(hb:Binds X.K fd ps [])(ha:PA X (e::es) t)(Eo:∀{pins:b? (c_×J_)}{U:St}{H:Hp}{s:d_}{ea t:c_}{oe:J_},Inv X pins U H s->s.heap.get? ea=some oe->oe.data= .fields #[.ref t,.none,.none,.none,.bool false,.none]->X.au.heap.get? ea=none->H ea=none->oe.cls= .ref C->W oe.dict H->X.xe (.ref ea) s)(cP:e_ ((x==("__debug__":y_))=false) aP2)(he:e_ (x_ (e::es) X.env=(false,T? e X.env)::x_ es X.env) aP1)(cw:e_ ((Y? ay (x_ es X.env)).any (·.1)=false) aP1):
  PS X (.Raise (some (.Call (.Name x np) (e::es) [] ay)) none pos) (Nc C sp W t):=by
 intro pins s U H D I h;have FB:=ac5;obtain⟨_,bm,N,nm,qn,bs,sn,sub,ab,col,dd,k0,k1,k2,k3,k5,Nd,T0⟩:=EX I.mod.eV hI.cls;have EY:((Y? ay (x_ (e::es) X.env)).any λx=>x.fst)=false:=by rw[he];show(false||(Y? ay (x_ es X.env)).any (·.1))=false;rw[cw];rfl
 rw[arm_exec_Raise];refine d? (Õ ?_);refine Xk (C:=C) (nm:=nm) (q:=qn) (N:=N) (bs:=bs) (bm:=bm) (hdct:=true) (sn:=sn) (sub:=sub) (ab:=ab) (col:=col) (dd:=dd) (k0:=k0) (k1:=k1) (k2:=k2) (k3:=k3) (k5:=k5) (newId:="ValueError.__new__") (T0.hasType FB.hasBase) (I.ok.hd hc) (d? (F' (wpAny_Call_ofName (nE I hg hm ?_ cP)) (λv s3 h3=>d? (Õ (h_ h3))) λ_ _ x=>x));have h1:l_ (m_ X.prog X.w) X.A (evalArgs (.ref C) true (Y? ay (x_ (e::es) X.env)) []) (λa s2=>∃us vs H2,a=⟨us,[]⟩/\Inv X pins U H2 s2/\Vals vs us/\vs.length<=k?/\∀ea,H2 ea=none->sp (.ref ea::vs) (upd H2 ea (vN ea C)) (λv H3=>v= .ar/\∃d,H3 ea=some (qF ea C d)/\W (some d) (λb=>if b=ea then none else H3 b)) E0) X.xe s:=by
  have hA:=ha ay pins s U H _ I h;rw[he]at hA⊢;exact ê (ai hA λus s2 ⟨vs,H2,I2,r2,hz,q2⟩=>(xa1 us vs H2 ⟨a_,I2,r2,hz,q2⟩))
 delta aao;refine d? (L_ (F' h1 (λa s2 h2=>d? (Õ ?_)) λ_ _ x=>x));obtain⟨us,vs,H2,rfl,I2,r2,hz,q2⟩:=h2;have hC:=I2.bk _ _ Nd;have T:=T0.keeps I2.bk;obtain⟨⟨oI,Xz,zF⟩,_⟩:=EX I2.aW hI.cls;obtain⟨hp,g,dr,tk,os⟩:=s2;simp only[EY];refine d? (wpAny_keeperOf_exc hC ?_);refine d? (Xj FB T hC (Y_ I2.aW hI.Xs) Xz zF (by show us.length<=k?;rw[<-r2.length];exact hz) λh' ea EZ=>?_);have AM:hp.get? ea=none:=EZ.new;have iC:∀b o,hp.get? b=some o->b≠ea:=λb o e z=>by rw[z,AM]at e;cases e
 obtain⟨t0,het,_,_⟩:=EZ.there;have I3:Inv X pins U H2 ⟨h',g,dr,tk,os⟩:=I2.kept (t':=tk) EZ.keeps;have sj:H2 ea=none:=I2.Na AM;have I4:Inv X pins U (upd H2 ea (vN ea C)) ⟨h',g,dr,tk,os⟩:=by
  refine I3.Es hex sj (I2.vO hex AM) ?_ (λz c e=>?_) (λp mr=>?_) ⟨(xa0 t0 _ het),⟨_,het⟩,λh1 h2 p k=>?_⟩
  .obtain⟨m,⟨o',_,_,aQ,_⟩,_⟩:=I2.loc;exact(iC _ _ aQ).symm
  .obtain⟨v',o',aQ,_⟩:=I2.cell z c e;exact iC _ _ aQ
  .exact iC _ _ (I2.pin p mr).1
  .obtain⟨t',oZ,e'⟩:=p;exact(xa0 t' oZ (k _ e'))
 have hq:=q2 ea sj;have r3:Vals (V.ref ea::vs) (o? ea::us):=.cons a_ r2;have hl:(o? ea::us++[]).length=ps.length:=by have e:=r3.length;rw[Fn.len _ _ _ _ hq]at e;rw[å];exact e.symm
 have Nf:=hb ⟨h',g,dr,tk,os⟩ (o? ea::us) I4.aW hl;rw[å]at Nf;refine Ĥ (û (Fn.run _ X.stack _ _ ⟨o? ea::us,[]⟩ (o? ea::us) _ _ E0 (hr.make C us []) (I4.rR.make C us []) Nf r3 hq) λr s' dY=>?_);cases r with
 |error e'=>exact H? dY
 |ok fl=>
  cases fl with
  |ret u=>obtain⟨v,H5,I5,rv,⟨ev,d,Ng,w5⟩⟩:=I4.after dY;subst ev;refine⟨rv,d? (L_ (wpAny_point (h_ ?_)))⟩;obtain⟨⟨t5,sl5,oh⟩,_,_⟩:=I5.ag ea _ Ng;exact(xa1 ea _ t5 ⟨a_,I5.bk _ _ Nd,oh,a_,a_,Eo (I5.drop Ng) oh a_ (I2.vO hex AM) (j_ a_) a_ w5⟩)
  |next=>exact H? dY
  |brk=>exact H? dY
  |cont=>exact H? dY
end
noncomputable def oj (ea:c_)(cls:b_)(dd:f_ c_):HO:=.ext λh=>∃o vs,h.get? ea=some o/\o.cls=cls/\o.data= .fields vs/\o.dict=dd
noncomputable def jN (X:Cx)(pn:b? (c_×J_))(W:St->b_->f_ c_->Hp->Prop):Cx:={X with pn:=pn,xe:=λe s'=>∃(pins:b? (c_×J_))(U:St)(H:Hp)(s0:d_)(ea:c_)(cls:b_)(dd:f_ c_)(H':Hp),e= .ref ea/\Inv {X with pn:=pn} pins U H s0/\sC X.prog X.w X.stack H H' s0 s' ea cls/\(∃oe,s'.heap.get? ea=some oe/\oe.dict=dd)/\W U cls dd H'}
section
variable {X:Cx}{pins pn:b? (c_×J_)}{U:St}{H H':Hp}{s s':d_}
theorem Inv.XA {W:St->b_->f_ c_->Hp->Prop}(I:Inv X pins U H s)(h:∀p∈pn,p∈X.pn++pins):Inv (jN X pn W) pins U H s:=I.kZ (Yq:=jN X pn W) (I.ok.kZ (Yq:=jN X pn W) ⟨a_,a_,a_⟩ a_ a_ a_ a_ a_ a_ a_ I.ok.hd I.ok.frames) a_ a_ a_ a_ a_ a_ a_ a_ λp hp=>(A_.mp hp).elim (h p) λz=>C_ _ z
theorem Inv.Nh {W:St->b_->f_ c_->Hp->Prop}(I:Inv (jN X pn W) pins U H s):Inv {X with pn:=pn} pins U H s:=I.kZ (Yq:={X with pn:=pn}) (I.ok.kZ (Yq:={X with pn:=pn}) ⟨a_,a_,a_⟩ a_ a_ a_ a_ a_ a_ a_ I.ok.hd I.ok.frames) a_ a_ a_ a_ a_ a_ a_ a_ λ_ hp=>hp
theorem XB {W:St->b_->f_ c_->Hp->Prop}(I:Inv (jN X pn W) pins U H s)(e:b_)(s':d_)(h:dD X.prog X.w X.stack H s (λcls dd H'=>W U cls dd H') e s'):(jN X pn W).xe e s':=by obtain⟨ea,cls,dd,H',rfl,F,hd,q⟩:=h;exact(xa9 pins U H s ea cls dd H' ⟨a_,I.Nh,F,hd,q⟩)
theorem Inv.less {a:c_}{φ ψ:k_->Prop}(I:Inv X pins U H s)(ha:H a=some (.ext φ))(h:∀h,φ h->ψ h)(st:∀h1 h2:k_,ψ h1->(∀o,h1.get? a=some o->h2.get? a=some o)->ψ h2):Inv X pins U (upd H a (.ext ψ)) s:=by obtain⟨p,⟨o,e⟩,_⟩:=I.ag a _ ha;exact I.write (t':=s.toks) (x:=a) (e:=a) (h':=s.heap) (by rw[ha];exact q_) (.inl a_) (λb u _ q=>q) ⟨o,e⟩ ⟨h _ p,⟨o,e⟩,st⟩
noncomputable def Ni (D:Ends)(i:j?)(ea:c_)(cls:b_)(dd:f_ c_):Ends:=
  { nx:=λ U2 H2=>H2 ea=some (oj ea cls dd)/\D.nx (U2.set i none) (upd H2 ea (nX ea cls))
    rt:=λv H2=>H2 ea=some (oj ea cls dd)/\D.rt v (upd H2 ea (nX ea cls))
    bk:=λ U2 H2=>H2 ea=some (oj ea cls dd)/\D.bk (U2.set i none) (upd H2 ea (nX ea cls))
    ct:=λ U2 H2=>H2 ea=some (oj ea cls dd)/\D.ct (U2.set i none) (upd H2 ea (nX ea cls))}
theorem XC {s0 s1:d_}{H1:Hp}{D:Ends}{x n:y_}{i:j?}{np vP:Ī}{vQ:I_}{oq:b? I_}{rest:b? ExceptHandler}{Pc C ea t:c_}{dd:f_ c_}{ts:TS}{bp Bq:k_}{U':St}(jO:X.stack=X.env::X.outer)(hex:X.ex=[])(hg:Gl X x)(hm:X.mg x=some (.ref Pc))(hB:æ X.K Pc (.type "BaseException")=some true)(hN:X.N.Nodup)(hi:X.N[i]?=some n)(hn:X.env.scope.names.lookup n=some .local)(hs:∀ea,dj (sD X ea) (vQ::oq) ts)(cP:(x==("__debug__":y_))=false)(IX:Inv X pins U' H1 s0)(F:sC X.prog X.w X.stack H1 H' s0 s1 ea (.ref C))(jP:Ā Bq X.stack ea (.ref C) (.ref t) bp)(hu:s1.heap.UpToSlots bp)(k1:∀b o o',s0.heap.get? b=some o->s1.heap.get? b=some o'->b∉bu X.stack->Bq.get? b=some o')(k2:∀b u o',H' b=some u->s1.heap.get? b=some o'->Bq.get? b=some o')(ot:H' ea=none)(eL:∃oe,bp.get? ea=some oe/\oe.dict=dd)(E1:Ì X.K (.ref C) (.ref Pc)=some true)(XD:ts (Ni D i ea (.ref C) dd) (U'.set i (some (.ref ea))) (upd H' ea (oj ea (.ref C) dd))):
  l_ (m_ X.prog X.w) X.A (handleBy (.ref ea) X.env (.ExceptHandler (some (.Name x np)) (some n) (vQ::oq) vP::rest)) (SP X pins D) X.xe {s1 with heap:=bp}:=by
 have cF:∀b:c_,b∉([]:b? c_):=λb=>by simp
 have I5:Inv X pins U' H' {s1 with heap:=bp}:=MA IX F jP hu k1 k2;obtain⟨oe,ve,E2,E3,XE,_⟩:=jP.first;refine wpAny_handleBy_cons (codeAny_handlers_test (Į I5.ok.kind hg (abC (by rw[I5.ok.glob];exact I5.mod.glob.keeps I5.bk) hm ?_) cP)) (by intro q;cases q);refine VJ (K:=X.K) (h:=bp) I5.aW E2 E3 E1 hB _ _ _ _ (λ_ _ q=>q) ?_;show Ð _ _ _ _ _;refine codeAny_handlers_suite_as ?_;refine F' (vK EO (lands_againW (E:=λ_ _=>v?) (Q:=λ_ bZ=>∃cV,bZ={s1 with heap:=cV}/\Ā Bq X.stack ea (.ref C) (.ref t) cV/\bp.UpToSlots cV) jP λcV eA gK=>⟨cV,a_,eA,gK⟩)) (λ_ bZ zQ=>?_) (λ_ _ z=>z.1.elim);obtain⟨⟨cV,e6,eA,gK⟩,kd⟩:=zQ;subst e6;have I6:Inv X pins U' H' {s1 with heap:=cV}:=MA IX F eA (hu.trans gK) k1 k2;obtain⟨E4,XF,qG,vR,vS,_⟩:=eA.first;have XG:E4.dict=dd:=by obtain⟨o5,e5,d5⟩:=eL;obtain⟨o6,e6,d6⟩:=kd ea o5 e5;have Nj:cV.get? ea=some o6:=e6;rw[qG]at Nj;cases Nj;exact d6.trans d5
 have E5:X.au.heap.get? ea=none:=IX.vO hex F.new;have iC:∀b o,s0.heap.get? b=some o->b≠ea:=λb o e z=>by rw[z,F.new]at e;cases e
 have I7:Inv X pins U' (upd H' ea (oj ea (.ref C) dd)) {s1 with heap:=cV}:=by
  refine I6.Es hex ot E5 ?_ (λy c e=>?_) (λp hp=>?_) ⟨(xa0 E4 XF ⟨qG,vR,vS,XG⟩),⟨E4,qG⟩,λh1 h2 p k=>?_⟩
  .obtain⟨m,⟨o,_,_,ho,_⟩,_⟩:=IX.loc;exact(iC _ _ ho).symm
  .obtain⟨v,o,ho,_⟩:=IX.cell y c e;exact iC _ _ ho
  .exact iC _ _ (IX.pin p hp).1
  .obtain⟨o,vs,e1,e2,e3,e4⟩:=p;exact(xa0 o vs ⟨k o e1,e2,e3,e4⟩)
 refine zG (v:=.ref ea) I7 hN hi (.inl hn) a_ (λs8 I8=>?_) (.inr hn);refine F' (hs ea pins s8 _ _ _ I8.VR XD) (λf s9 q=>?_) (λ_ _ z=>z.elim);have wk:∀{U9:St}{H9:Hp},Inv X pins U9 H9 s9->H9 ea=some (oj ea (.ref C) dd)->Inv X pins U9 (upd H9 ea (nX ea (.ref C))) s9:=λJ e=>J.less e (λh ⟨o,vs,a1,a2,a3,_⟩=>(xa0 o vs ⟨a1,a2,a3⟩)) λh1 h2 p k=>by obtain⟨o,vs,e1,e2,e3⟩:=p;exact(xa0 o vs ⟨k o e1,e2,e3⟩)
 have behind:∀{U9:St}{H9:Hp},Inv X pins U9 H9 s9->(∀cW,Inv X pins (U9.set i none) H9 cW->SP X pins D f cW)->l_ (m_ X.prog X.w) X.A (do bindName X.env n .none;adu X.env n vP) (λ_ aT=>SP X pins D f aT) X.xe s9:=λ{U9 H9} J k=>by
  refine d? (wpAny_bindName (zG (v:=.ar) J hN hi (.inl hn) a_ (λcW bN=>?_) (.inr hn)));obtain⟨m,vT,vU⟩:=id bN.loc;have rK:i<U9.length:=by rw[J.len];exact(xv.mp hi).1
  obtain⟨u,ru,lk⟩:=vU i n .ar hi (by rw[Ç rK]) (.inl hn);have XH:m n=some u:=by
   rcases lk with⟨_,q⟩|⟨q,_⟩
   .exact q
   .rcases q with q|q
    .have q':X.env.scope.names.lookup n=some .cell:=q;rw[hn]at q';cases q'
    .have q':X.env.scope.names.lookup n=some .free:=q;rw[hn]at q';cases q'
  unfold adu;refine wpAny_onRaise (wpAny_unbindName_local (env:=X.env) hn vT XH (by rw[J.ok.kind];rfl) λh' u' nB iB=>?_);have Nk:=bN.unset hN hi vT vU nB iB;rw[b?.set_set]at Nk;exact k _ Nk
 show l_ _ _ _ _ _ _;cases f with
 |next=>obtain⟨U9,H9,I9,e9,q⟩:=q;exact behind (wk (I9.Ay I8.ok) e9) λcW bN=>(xa0 _ _ ⟨bN,q⟩)
 |brk=>obtain⟨U9,H9,I9,e9,q⟩:=q;exact behind (wk (I9.Ay I8.ok) e9) λcW bN=>(xa0 _ _ ⟨bN,q⟩)
 |cont=>obtain⟨U9,H9,I9,e9,q⟩:=q;exact behind (wk (I9.Ay I8.ok) e9) λcW bN=>(xa0 _ _ ⟨bN,q⟩)
 |ret u=>obtain⟨v,U9,H9,I9,r,e9,q⟩:=q;exact behind (wk (I9.Ay I8.ok) e9) λcW bN=>(xa1 v _ _ ⟨bN,r,q⟩)
end
theorem XI {P:n_}{w:z?}{K:e?}{mg:y_->f_ b_}{base:k_}{N:b? y_}{qual:y_}{scope:Xg}{f:c_}{cd:b_}{A:B?}{outer:b? š}{s:d_}{H:Hp}{E:XK}{k:j?}{fI C:c_}{fd:l?}{ps:b? y_}{sp:Sp}{fld x:y_}{e:G?}{es:b? G?}{t:TA}{np ay pos:Ī}(hg:Gl (dm (dD P w) P w K mg base N qual scope f cd A outer s H E) x)(hm:mg x=some (.ref C))(hI:AK K C fI fld)(Fn:zu P w K mg base CX0 k fI fd ps sp)(hr:aY (k+1) (dm (dD P w) P w K mg base N qual scope f cd A outer s H E).A)(hb:Binds K fd ps [])(ha:PA (dm (dD P w) P w K mg base N qual scope f cd A outer s H E) (e::es) t)(cP:e_ ((x==("__debug__":y_))=false) aP2)(he:e_ (x_ (e::es) (Â qual scope s.heap.objs.size f cd)=(false,T? e (Â qual scope s.heap.objs.size f cd))::x_ es (Â qual scope s.heap.objs.size f cd)) aP1)(cw:e_ ((Y? ay (x_ es (Â qual scope s.heap.objs.size f cd))).any (·.1)=false) aP1):
  PS (dm (dD P w) P w K mg base N qual scope f cd A outer s H E) (.Raise (some (.Call (.Name x np) (e::es) [] ay)) none pos) (Nc C sp (E (.ref C)) t):=
 Xy a_ a_ hg hm hI Fn hr hb ha (λI he hd new hn hc q=>M6 I he hd new hn (by rw[hc];exact q)) cP he cw
section
variable {X:Cx}{pn:b? (c_×J_)}
noncomputable def XJ (C:c_)(m:y_)(sp:Sp)(bH:b? V)(W:St->b_->f_ c_->Hp->Prop)(ta:TE)(t:TA):TE:=λ U H Q=>ta U H λx H1=>∃a dx fs,x= .ref a/\H1 a=some (.ins C dx fs)/\fs.lookup m=none/\t U H1 λvs H2=>sp (x::(vs++bH)) H2 Q λcls dd H'=>W U cls dd H'
theorem Nl {W:St->b_->f_ c_->Hp->Prop}{k:j?}{f C:c_}{fd:l?}{ps:b? y_}{sp:Sp}{bH:b? V}{ds:b? b_}{m:y_}{apos pos:Ī}{o e:G?}{es:b? G?}{ta:TE}{t:TA}{pl:Ģ s?}(he:PE (jN X pn W) o ta)(c:eJ X.K C)(hm:Meth X.K C m f)(F:zu X.prog X.w X.K X.mg X.base (dD X.prog X.w) k f fd ps sp)(hr:aY k X.A)(hb:Binds X.K fd ps ds)(hd:Vals bH ds)(ha:PA (jN X pn W) (e::es) t)(kM:e_ (x_ (e::es) X.env=(false,T? e X.env)::x_ es X.env) aP1)(cw:e_ ((Y? pos (x_ es X.env)).any (·.1)=false) aP1)(ht:e_ (T? (.Call (.Attribute o m apos) (e::es) [] pos) X.env=(do
   let ov<-T? o X.env
   ų apos.atName
   let(f,first)<-Ĩ [ov] (ũ ov m pl)
   aao pos f first (Y? pos (x_ (e :: es) X.env)) (Ñ pos (S_ [] X.env)))) aP1) :
  PE (jN X pn W) (.Call (.Attribute o m apos) (e::es) [] pos) (XJ C m sp bH W ta t):=by
 intro pins s U H Q I h;refine Ü (pl:=pl) (ai (he pins s U H _ I h) λu s1 zQ=>?_) ht;obtain⟨x,H1,I1,rx,a,dx,fs,ex,ea,l,q⟩:=zQ;subst ex;obtain rfl:u=o? a:=rx;refine zX I1 ea c hm l ?_;refine õ (first:=[.ref a]) (h₀:=X.base) I.ok.mod.eV hm.kp (ai (ha pos pins s1 U H1 _ I1 q) λus s2 ⟨vs,H2,I2,r,q2⟩=>⟨I2.aW,?_⟩) kM cw;exact VS (us:=.ref a::us) (vs:=.ref a::vs) F hr hb hd I2 (XB I2) (.cons a_ r) q2
end
noncomputable def XM (K:e?)(P1:c_)(i:j?)(tb:(St->b_->f_ c_->Hp->Prop)->TS)(ts:TS):TS:=λD U H=>∃W:St->b_->f_ c_->Hp->Prop,tb W D U H/\∀U' cls dd H' ea,W U' cls dd H'->H' ea=none->∃C,cls= .ref C/\Ì K (.ref C) (.ref P1)=some true/\ts (Ni D i ea cls dd) (U'.set i (some (.ref ea))) (upd H' ea (oj ea cls dd))
section
variable {X:Cx}
theorem Nm {body:b? I_}{x1 n:y_}{i:j?}{XN E6 pos:Ī}{b1:I_}{Nn:b? I_}{P1:c_}{tb:(St->b_->f_ c_->Hp->Prop)->TS}{Np:TS}(jO:X.stack=X.env::X.outer)(gJ:X.env.frame=some X.env.locals)(hex:X.ex=[])(XO:Gl X x1)(Aw:X.mg x1=some (.ref P1))(XQ:æ X.K P1 (.type "BaseException")=some true)(hN:X.N.Nodup)(hi:X.N[i]?=some n)(hn:X.env.scope.names.lookup n=some .local)(hb:∀pn W,dj (jN X pn W) body (tb W))(AN:∀ea,dj (sD X ea) (b1::Nn) Np)(og:e_ ((x1==("__debug__":y_))=false) aP2):
  PS X (.Try body [.ExceptHandler (some (.Name x1 XN)) (some n) (b1::Nn) E6] [] [] pos) (XM X.K P1 i tb Np):=by
 intro pins s U H D I h;obtain⟨W,h1,h2⟩:=h;refine wpAny_Try_except ?_;have back:∀{bM:b? (c_×J_)}{U':St}{H':Hp}{s':d_},Inv (jN X (X.pn++pins) W) bM U' H' s'->Inv X pins U' H' s':=λJ=>J.Nh.Mz λ_ hp=>hp;refine F' (hb (X.pn++pins) W pins s U H D (I.XA λ_ hp=>hp) h1) (λf s1 q=>?_) (λe s1 q=>?_)
 .cases f with
  |next=>obtain⟨U1,H1,I1,q⟩:=q;exact ĵ (xa0 U1 H1 ⟨back I1,q⟩)
  |brk=>obtain⟨U1,H1,I1,q⟩:=q;exact(xa0 U1 H1 ⟨back I1,q⟩)
  |cont=>obtain⟨U1,H1,I1,q⟩:=q;exact(xa0 U1 H1 ⟨back I1,q⟩)
  |ret u=>obtain⟨v,U1,H1,I1,r,q⟩:=q;exact(xa1 v U1 H1 ⟨back I1,r,q⟩)
 .obtain⟨bM,U',H1,s0,ea,cls,dd,H',rfl,I0,F,⟨oe,E2,eL⟩,wW⟩:=q;have IX:Inv X pins U' H1 s0:=I0.Mz λ_ hp=>hp;obtain⟨Bq,t,hf,k1,k2⟩:=F.Mw;have ot:H' ea=none:=by
   cases q:H' ea with
   |none=>rfl
   |some u=>obtain⟨o,e⟩:=(F.ag ea u q).there;have z:=k2 ea u o q e;rw[hf.2.1]at z;cases z
  obtain⟨C,rfl,m1,q1⟩:=h2 U' cls dd H' ea wW ot;have frames:X.A.frames=some (X.env::X.outer):=by rw[IX.ok.frames,jO]
  have dQ:Ā Bq (X.env::X.outer) ea (.ref C) (.ref t) s1.heap:=by rw[<-jO];exact hf
  refine F' (vK M1 (wpAny_looks_onW (E:=λ_ _=>v?) (Q:=λ_ bZ=>∃cR,bZ={s1 with heap:=cR}/\k_.HeldW Bq (X.env::X.outer) ea (.ref C) (.ref t) X.env.locals cR/\s1.heap.UpToSlots cR) frames gJ dQ λcR a b=>⟨cR,a_,a,b⟩)) (λ_ bZ zQ=>?_) (λ_ _ z=>z.1.elim);obtain⟨⟨cR,e4,jQ,qH⟩,XR⟩:=zQ;subst e4;refine F' (vK EO (wpAny_landsW (E:=λ_ _=>v?) (Q:=λ_ bZ=>∃bp,bZ={s1 with heap:=bp}/\Ā Bq (X.env::X.outer) ea (.ref C) (.ref t) bp/\cR.UpToSlots bp) jQ λbp a b=>⟨bp,a_,a,b⟩)) (λ_ bZ zQ=>?_) (λ_ _ z=>z.1.elim);obtain⟨⟨bp,e5,qI,qJ⟩,XS⟩:=zQ;subst e5;have jP:Ā Bq X.stack ea (.ref C) (.ref t) bp:=by rw[jO];exact qI
  obtain⟨o4,e4,d4⟩:=XR ea oe E2;obtain⟨o5,e5,d5⟩:=XS ea o4 e4;exact XC jO hex XO Aw XQ hN hi hn AN og IX F jP (qH.trans qJ) k1 k2 ot ⟨o5,e5,(d5.trans d4).trans eL⟩ m1 q1
end
noncomputable def AO {α:Type}:b? α->b? α->b? α
 |[a,b],[c,d,e,f]=>[a,b,c,d,e,f]
 |_,_=>[]
theorem XT {vs:b? V}{us:b? b_}{zs:b? V}{ws:b? b_}(r1:Vals vs us)(r2:Vals zs ws):Vals (AO vs zs) (AO us ws):=by
 cases r1 with
 |nil=>exact .nil
 | cons a r1=>
  cases r1 with
  |nil=>exact .nil
  | cons b r1=>
   cases r1 with
   |cons _ _=>exact .nil
   | nil=>
    cases r2 with
    |nil=>exact .nil
    | cons c r2=>
     cases r2 with
     |nil=>exact .nil
     | cons d r2=>
      cases r2 with
      |nil=>exact .nil
      | cons e r2=>
       cases r2 with
       |nil=>exact .nil
       |cons f r2=>
        cases r2 with
        |nil=>exact .cons a (.cons b (.cons c (.cons d (.cons e (.cons f .nil)))))
        |cons _ _=>exact .nil
theorem XU {lo:i_}{n:j?}{D:c_}{g:TG}{ti:TT}{tk tv:TE}{U0:St}{H0:Hp}{QF:Hp->Prop}(Pv:j?->St->Hp->Prop)(h0:Pv 0 U0 H0)(hs:∀i U H,i<n->Pv i U H->g (.int (lo+i)) U H λ U2 H2=>ti U2 H2 λb H3=>if b=true then tk U2 H3 λy H4=>tv U2 H4 λz H5=>∃H6,iO H5 D y z H6/\Pv (i+1) U2 H6 else Pv (i+1) U2 H3)(hd:∀U H,Pv n U H->QF H):∃W:j?->j?->St->Hp->Prop,(∃m,W 0 m U0 H0)/\EF (kN lo n) g ti tk tv D QF W:=by
 refine⟨λi m U H=>m=n-i/\i<=n/\Pv i U H,⟨n,by simp,W_ _,h0⟩,?_⟩
 rintro i m U H ⟨rfl,hi,p⟩
 by_cases aA:i<n
 .refine .inr ⟨aA,Pv (i+1),λ U' H' p'=>⟨n-(i+1),by lia,a_,aA,p'⟩,λx H' y=>?_⟩;obtain⟨e,y⟩:=y;subst e y;exact hs i U _ aA p
 .have e:i=n:=by lia
  subst e;exact .inl ⟨s_ _,hd U H p⟩
theorem Nq (val:j?->i_):∀k i,i<=k->val i<=val (aa6 (λi j=>p_ (val i>val j)) k)
 |0,i,h=>by
  have:i=0:=by lia
  subst this;exact aaB _
 | k+1,i,h=>by
  have ih:=Nq val k;unfold aa6;by_cases z:val (k+1)>val (aa6 (λi j=>p_ (val i>val j)) k)
  .rw[j_ (j' z)];by_cases q:i=k+1
   .rw[q];exact aaB _
   .have:=ih i (by lia);lia
  .rw[f? (by simpa using z)];by_cases q:i=k+1
   .rw[q];lia
   .exact ih i (by lia)
theorem AQ {α β:Type}{R:α->β->Prop}:∀{xs:b? α}{ys:b? β}{i:j?}{y:β},g? R xs ys->ys[i]?=some y->∃x,xs[i]?=some x/\R x y:=λ{xs ys i y} q e=>by
 induction q generalizing i with
 |nil=>simp at e
 |cons h _ ih=>
  cases i with
  |zero=>cases o_ e;exact⟨_,a_,h⟩
  |succ i=>exact ih (i:=i) e
section
variable {X:Cx}
theorem XW (hc:X.calm=true):cD X (.builtin "max") (λxs H Q=>∃(p:c_)(ns:b? i_),xs=[.ref p]/\ah X.K H p (ns.map V.int)/\0<ns.length/\∀M,M∈ns->(∀a∈ns,a<=M)->Q (.int M) H):=by
 intro pins s U H xs us Q I r h;obtain⟨p,ns,rfl,hq,vE,q⟩:=h;obtain⟨u,rfl,rx⟩:=vals1 r;cases rx;obtain⟨its,r',pl,hz⟩:=I.list hq;have hlen:ns.length=its.length:=by have:=r'.length;rw[i?]at this;exact this
 have hv:∀i v,its.toArray[i]?=some v->∃t,v=ù (ns.getD i 0) t:=λi v e=>by
  have e':its[i]?=some v:=by simpa using e
  obtain⟨y,ey,ry⟩:=AQ r' e';rw[J']at ey;cases hn:ns[i]? with
  |none=>rw[hn]at ey;cases ey
  |some n=>rw[hn]at ey;cases ey;obtain⟨t,et⟩:=ry;refine⟨t,?_⟩;rw[et,J?,hn];rfl
 have hp:p≠s.heap.objs.size:=by obtain⟨o,ho,_⟩:=pl.isList;exact N? (u? ho)
 refine call_max_walk (Ŕ pl.isList (xa6 s.heap.objs.size _ _ _ _ _ _ ⟨a_,Walks.list (A:=X.A.in1) (show X.A.in1.handled=none from I.ok.hd hc) s.heap.objs.size p hp its.toArray,⟨⟨_,x? _ a_,a_,a_⟩,?_⟩,λb hb=>?_,by simpa using(by lia:0<its.length),CmpOf.ints_gt (λi=>ns.getD i 0) hv,λv h' tk hP hk=>?_⟩))
 .obtain⟨o,ho,hr⟩:=pl.isList;exact⟨o,g_ _ ho,hr⟩
 .rw[ď];rcases B_.mp hb with rfl|hb
  .exact Ė _
  .rw[m?.mp hb];obtain⟨o,ho,_⟩:=pl.isList;exact aaM (u? ho)
 .obtain⟨t,rfl⟩:=hv _ _ hP;refine(xa0 (V.int (ns.getD (aa6 (λi j=>p_ (ns.getD i 0>ns.getD j 0)) (its.toArray.size-1)) 0)) H ⟨I.kept (t':=tk) λb o e=>hk b o (λz=>?_) (g_ _ e),⟨t,a_⟩,q _ ?_ λa ha=>?_⟩)
  .have:b=s.heap.objs.size:=by simpa using z
   have lt:=u? e;rw[this]at lt;exact ý _ lt
  .have hb:=MR (λi j=>p_ (ns.getD i 0>ns.getD j 0)) (its.toArray.size-1);have hs:its.toArray.size=its.length:=by simp
   generalize aa6 (λi j=>p_ (ns.getD i 0>ns.getD j 0)) (its.toArray.size-1)=j at hb;have hj:j<ns.length:=by lia
   rw[J?,n? hj];exact b?.getElem_mem hj
  .obtain⟨i,hi,rfl⟩:=Î.mp ha;have:=Nq (λi=>ns.getD i 0) (its.toArray.size-1) i (by simp;lia);rw[show ns.getD i 0=ns[i]by rw[J?,n? hi];rfl]at this;exact this
end
structure Nr (K:e?)(C:c_)(m:y_)(f:c_):Prop where
 sp:aad K (.ref C) "__getattribute__"=some (some (.builtin "type.__getattribute__"))
 rd:PySem.W.readsIn K C (.type "type")=true
 at_:PySem.W.findCls K (.ref C) (.type "type") m=some (.val (.ref f))
 kp:Û K (.ref f)=true
section
variable {X:Cx}{CX:eY}{E:XK}{k:j?}{f C:c_}{fd:l?}{ps:b? y_}{sp:Sp}{bH:b? V}{ds:b? b_}{x m:y_}{p apos pos:Ī}{e:G?}{es:b? G?}{t:TA}
theorem XX {pl:Ģ s?}(hg:Gl X x)(hC:X.mg x=some (.ref C))(hm:Nr X.K C m f)(F:zu X.prog X.w X.K X.mg X.base CX k f fd ps sp)(hr:aY k X.A)(hb:Binds X.K fd ps ds)(hd:Vals bH ds)(hx:Passes CX X E)(ha:PA X (e::es) t)(cP:e_ ((x==("__debug__":y_))=false) aP2)(kM:e_ (x_ (e::es) X.env=(false,T? e X.env)::x_ es X.env) aP1)(cw:e_ ((Y? pos (x_ es X.env)).any (·.1)=false) aP1)(ht:e_ (T? (.Call (.Attribute (.Name x p) m apos) (e::es) [] pos) X.env=(do
   let ov<-T? (.Name x p) X.env
   ų apos.atName
   let(f,first)<-Ĩ [ov] (ũ ov m pl)
   aao pos f first (Y? pos (x_ (e :: es) X.env)) (Ñ pos (S_ [] X.env)))) aP1) :
  PE X (.Call (.Attribute (.Name x p) m apos) (e::es) [] pos) (Lm sp bH E t):=by
 intro pins s U H Q I h;refine Ü (pl:=pl) (ai (nE (Q:=EP X pins U λv H'=>v=V.ref C/\H'=H) I hg hC (xa0 (V.ref C) H ⟨I,a_,a_,a_⟩) cP) λu s1 zQ=>?_) ht;obtain⟨y,H1,I1,ry,ey,eH⟩:=zQ;subst ey eH;obtain rfl:u=o? C:=ry;refine PySem.W.method_cls I1.aW hm.sp (PySem.W.cls_value I1.aW hm.rd hm.at_ a_ ?_);have I2:=I1.tok (s1.toks+1);refine õ (first:=[]) (h₀:=X.base) I.ok.mod.eV hm.kp (ai (ha pos pins _ U H1 _ I2 h) λus s2 ⟨vs,H2,I3,r,q2⟩=>⟨I3.aW,?_⟩) kM cw;exact zY F hr hb hd hx I3 r q2
end
open AutoSeq1 (wpAny_loadPart')
theorem Nt {l:c_}{its:b? b_}{n:j?}{x:b_}{e:b_->s?}{j:j?}{y:b_}(hj:its[j]?=some y)(hit:e y=true)(hz:its.length<=k?):∀(d i:j?),i+d=j->(∀m z,i<=m->m<j->its[m]?=some z->e z=false)->aei (Builtin.«list.remove.loop» ⟨[.ref l,x,ś i],[]⟩) (λA R s=>s.heap.get? l=some {cls:=.type "list",dict:=none,data:=.seq its.toArray n,slots:=#[]}/\(∀u∈its,z_ A.in1 s u x (e u))/\R (.ok (.ret .none)) {s with heap:=s.heap.update l (Å λxs=>xs.eraseIdxIfInBounds j)})
 | d,i,hd,qE=>by
  intro prog w A R s h;obtain⟨hp,g,dp,tk,os⟩:=s;obtain⟨hl,he,h⟩:=h;have lt:i<its.length:=by have:=(xv.mp hj).1;lia
  obtain⟨v,hv⟩:∃v,its[i]?=some v:=⟨_,n? lt⟩;have hi:its.toArray[((i:j?):i_).toNat]?=some v:=by simpa using hv
  have AN:its.toArray.size<=k?:=by rw[D'];exact hz
  wp_walk using wpAny_loadPart' hl;rw[hi];refine d? (he v (r? hv) prog w _ _ ?_);cases d with
  |zero=>
   have e1:i=j:=by lia
   subst e1;rw[hj]at hv;cases hv;rw[hit];wp_walk using wpAny_loadPart' hl;have small:(Å (λx=>x.eraseIdxIfInBounds ((i:j?):i_).toNat) {cls:=ĝ "list",data:=Data.seq its.toArray n}).data.pastItsLine=none:=by refine pastItsLine_seq (K? ?_ (Ã hz));show(its.toArray.eraseIdxIfInBounds ((i:j?):i_).toNat).size<=its.length;rw[ģ,D'];exact č _ _
   rw[small];wp_walk;exact h
  |succ d=>
   rw[qE i v (s_ _) (by lia) hv];wp_walk;have ec:((i:i_)+1)=((i+1:j?):i_):=by push_cast;rfl
   rw[ec];refine⟨acu ß _,Ž aaK ?_⟩;rw[B?.under_plainId ß _];exact Nt hj hit hz d (i+1) (by lia) (λm z h1 h2=>qE m z (by lia) h2) prog w A R _ ⟨hl,he,h⟩
theorem XY {l:c_}{its:b? b_}{n:j?}{x:b_}{e:b_->s?}{j:j?}{y:b_}(hj:its[j]?=some y)(hit:e y=true)(hz:its.length<=k?)(qE:∀m z,m<j->its[m]?=some z->e z=false):aei (Builtin.«list.remove» ⟨[.ref l,x],[]⟩) (λA R s=>s.heap.get? l=some {cls:=.type "list",dict:=none,data:=.seq its.toArray n,slots:=#[]}/\(∀u∈its,z_ A.in1 s u x (e u))/\R (.ok (.ret .none)) {s with heap:=s.heap.update l (Å λxs=>xs.eraseIdxIfInBounds j)}):=by
 intro prog w A R s h;obtain⟨hp,g,dp,tk,os⟩:=s;have go:=Nt (l:=l) (n:=n) (x:=x) hj hit hz j 0 (j?.zero_add j) (λm z _ h2=>qE m z h2) prog w A R _ h;wp_walk using wpAny_loadPart' h.1;refine⟨acu ß _,Ž aaK ?_⟩;rw[B?.under_plainId ß _];exact go
noncomputable def XZ (K:e?):V->b? V->Hp->VK->Prop:=λx vs H Q=>∃l xs y n bj,x= .ref l/\vs=[y]/\H l=some (.lst xs)/\lq K H y n/\g? (lq K H) xs bj/\n∈bj/\Q .ar (upd H l (.lst (xs.eraseIdx (bj.idxOf n))))
section
variable {X:Cx}
theorem X0 (hu:X.A.units+64<P?):DV X "list.remove" (XZ X.K):=by
 intro pins s U H x vs v us Q I rx rv h;obtain⟨l,xs,y,n,bj,rfl,rfl,hH,hy,hs,hm,q⟩:=h;cases rx;obtain⟨u,rfl,ru⟩:=rv.one;obtain⟨z,its,k,r,hl,e⟩:=I.rX hH;have lx:=q? hs;have hi:bj.idxOf n<bj.length:=acq.mpr hm;obtain⟨w,hw,cI⟩:=r.get (n? (show bj.idxOf n<xs.length by lia));have is:∀(m:j?)(v:b_),its[m]?=some v->∃t,bj[m]?=some t/\iD X.K H n v=p_ (t=n):=λm v hv=>by obtain⟨x',ft,X1⟩:=AQ r hv;obtain⟨t,ht,q'⟩:=qa hs ft;exact⟨t,ht,ED I q' X1⟩
 have yes:iD X.K H n w=true:=by obtain⟨t,ht,q'⟩:=is _ _ hw;rw[n? hi,b?.getElem_idxOf hi]at ht;rw[q',<-o_ ht];exact j' a_
 refine ã acb ⟨_,e,a_⟩ F.entry_list_remove (F.args_list_remove_2 _ _) (XY (e:=iD X.K H n) hw yes (by lia) (λm v aA hv=>?_)) ⟨e,λv hv=>EE I ?_ hy ru r hs v hv,?_⟩
 .obtain⟨t,ht,q'⟩:=is _ _ hv;rw[q'];refine t_ λz=>?_;subst z;obtain⟨a1,b1⟩:=xv.mp ht;have no:=acR (p:=(·==t)) (xs:=bj) (i:=m) aA;rw[b1]at no;simp at no
 .first|(have e:X.A.in1.units=X.A.units+1:=a_;lia)|(have e:X.A.in1.units=X.A.units:=rfl;lia)|(have e:=Around.units_in1 X.A;lia)
 .refine(xa0 .ar _ ⟨I.DW (its':=its.eraseIdx (bj.idxOf n)) hH e ?_ (r.eraseIdx _) ?_,a_,q⟩)
  .show its.toArray.eraseIdxIfInBounds _=(its.eraseIdx _).toArray;rw[ģ]
  .have:=č xs (bj.idxOf n);lia
end
structure Nu (K:e?)(C:c_):Prop where
 ha:G_ K (.ref C) "__class__"=some (some (.builtin "object.__class__"))
 hn:aad K (.builtin "object.__class__") "__get__"=some (some (.builtin "getset_descriptor.__get__"))
 tk:acK K (.builtin "object.__class__")=some true
 hm:æ K C (.type "object")=some true
 ki:K_ K (.ref C) (.ref C)=some true
section
variable {X:Cx}
theorem X2:cD X (.builtin "isinstance") (λxs H Q=>∃a C dx fs,xs=[.ref a,.ref C]/\H a=some (.ins C dx fs)/\eJ X.K C/\Nu X.K C/\Q (.bl true) H):=by intro pins s U H xs us Q I r h;obtain⟨a,C,dx,fs,rfl,ha,cl,io,q⟩:=h;obtain⟨u,w,rfl,r1,r2⟩:=vals2 r;cases r2;exact Lk I r1 (.ins ha cl io.ha io.hn io.tk io.hm) io.ki λtk=>(xa0 (.bl true) H ⟨I.tok tk,a_,q⟩)
theorem X3 {K:e?}(hK:X.K=K)(hc:X.calm=true):cD X (.builtin "sum") (λxs H Q=>∃(p:c_)(ns:b? i_),xs=[.ref p]/\ah K H p (ns.map V.int)/\Q (.int ns.sum) H):=by subst hK;exact An hc
end
section
variable {K:e?}{x qual:y_}{st:I_}{f:c_}{fd:l?}{p1 p2 p3 p4 p5:y_}
noncomputable abbrev vV (x qual:y_)(st:I_)(ps:b? y_)(us:b? b_):Prop:=∀(kV doc pm:b_)(an:f_ c_)(aD ct:b_),ady (ô x qual (rZ st) (iN st) (jr st) .none kV doc pm an aD ct) ⟨us,[]⟩=Ø (ps.zip us)
theorem eB (F:av K x qual st f fd)(h:∀a,vV x qual st [p1] [a]:=by exact λ_ _ _ _ _ _ _=>rfl):Binds K fd [p1] []:=F.binds λkV doc pm an aD ct us hl=>by obtain⟨a,rfl⟩:=Ě.mp hl;exact h a kV doc pm an aD ct
theorem lA {us:b? b_}{n:j?}(h:us.length=n+1):∃a r,us=a::r/\r.length=n:=by
 cases us with
 |nil=>cases h
 |cons a r=>exact(xa0 a r ⟨a_,Ä.inj h⟩)
theorem bX (F:av K x qual st f fd)(h:∀a b,vV x qual st [p1,p2] [a,b]:=by exact λ_ _ _ _ _ _ _ _=>rfl):Binds K fd [p1,p2] []:=F.binds λkV doc pm an aD ct us hl=>by obtain⟨a,r1,rfl,h1⟩:=lA hl;obtain⟨b,rfl⟩:=Ě.mp h1;exact h a b kV doc pm an aD ct
theorem iE (F:av K x qual st f fd)(h:∀a b c,vV x qual st [p1,p2,p3] [a,b,c]:=by exact λ_ _ _ _ _ _ _ _ _=>rfl):Binds K fd [p1,p2,p3] []:=F.binds λkV doc pm an aD ct us hl=>by obtain⟨a,r1,rfl,h1⟩:=lA hl;obtain⟨b,r2,rfl,h2⟩:=lA h1;obtain⟨c,rfl⟩:=Ě.mp h2;exact h a b c kV doc pm an aD ct
theorem X4 (F:av K x qual st f fd)(h:∀a b c d,vV x qual st [p1,p2,p3,p4] [a,b,c,d]:=by exact λ_ _ _ _ _ _ _ _ _ _=>rfl):Binds K fd [p1,p2,p3,p4] []:=F.binds λkV doc pm an aD ct us hl=>by obtain⟨a,r1,rfl,h1⟩:=lA hl;obtain⟨b,r2,rfl,h2⟩:=lA h1;obtain⟨c,r3,rfl,h3⟩:=lA h2;obtain⟨d,rfl⟩:=Ě.mp h3;exact h a b c d kV doc pm an aD ct
theorem X5 (F:av K x qual st f fd)(h:∀a b c d e,vV x qual st [p1,p2,p3,p4,p5] [a,b,c,d,e]:=by exact λ_ _ _ _ _ _ _ _ _ _ _=>rfl):Binds K fd [p1,p2,p3,p4,p5] []:=F.binds λkV doc pm an aD ct us hl=>by obtain⟨a,r1,rfl,h1⟩:=lA hl;obtain⟨b,r2,rfl,h2⟩:=lA h1;obtain⟨c,r3,rfl,h3⟩:=lA h2;obtain⟨d,r4,rfl,h4⟩:=lA h3;obtain⟨e,rfl⟩:=Ě.mp h4;exact h a b c d e kV doc pm an aD ct
theorem AR {k1:y_}(h:∀(s:d_) a b,aaz s fd ⟨[a],[(k1,b)]⟩ [(p1,a),(p2,b)]):iy K fd [p1,p2] [k1] iP iP:=⟨λs us ws _ hl=>by rcases us with _|⟨a,_|⟨_,_⟩⟩<;>rcases ws with _|⟨b,_|⟨_,_⟩⟩;all_goals first|exact h s a b|(cases hl),λr1 r2=>VD r1 r2⟩
theorem Nv {k1 k2:y_}(h:∀(s:d_) a b c,aaz s fd ⟨[a],[(k1,b),(k2,c)]⟩ [(p1,a),(p2,b),(p3,c)]):iy K fd [p1,p2,p3] [k1,k2] nZ nZ:=⟨λs us ws _ hl=>by rcases us with _|⟨a,_|⟨_,_⟩⟩<;>rcases ws with _|⟨b,_|⟨c,_|⟨_,_⟩⟩⟩;all_goals first|exact h s a b c|(cases hl),λr1 r2=>Wa r1 r2⟩
end
end L2
namespace PySem
open Sem (wp)
section
variable {prog:n_}{w:z?}{K:Type}[İ K](knd:acN prog w K)
noncomputable def yh (h:k_)(k:b? K×b? K)(a:c_):Prop:=∃o b c n,h.get? a=some o/\o.cls= .type "tuple"/\o.data= .seq #[.ref b,.ref c] n/\ab9 knd h k.1 b/\ab9 knd h k.2 c
variable {knd}
theorem yh.typeIs {s:d_}{k:b? K×b? K}{a:c_}(x:yh knd s.heap k a):s.TypeIs (.ref a) "tuple":=let⟨o,_,_,_,ho,hc,_⟩:=x;⟨o,ho,hc⟩
theorem yh.inj {h:k_}{a:c_}{x y:b? K×b? K}(hx:yh knd h x a)(hy:yh knd h y a):x=y:=by obtain⟨o,b,c,n,ho,_,hd,h1,h2⟩:=hx;obtain⟨o',b',c',n',aQ,_,aX,gY,gZ⟩:=hy;rw[ho]at aQ;cases aQ;rw[hd]at aX;cases aX;exact ű (h1.inj gY) (h2.inj gZ)
theorem yh.keeps {h h':k_}{k:b? K×b? K}{a d:c_}{o:J_}{es ep}(x:yh knd h k a)(ho:h.get? d=some o)(hd:o.data= .dict es ep)(hs:F_ d h h'):yh knd h' k a:=by
 obtain⟨o',b,c,n,aQ,hc,aX,h1,h2⟩:=x;have ne:a≠d:=λe=>by rw[e,ho]at aQ;cases aQ;rw[hd]at aX;cases aX
 exact(xa2 o' b c n ⟨(hs.2 a ne).trans aQ,hc,aX,h1.keeps ho hd hs,h2.keeps ho hd hs⟩)
noncomputable def E7 (knd:acN prog w K)(k:b? K×b? K):i_:=reduceHash (abD [aa5 knd k.1,aa5 knd k.2])
variable {A:B?}{E:b_->d_->Prop}{s:d_}
theorem X6 {k:b? K×b? K}{a:c_}{Q:i_->d_->Prop}(hu:A.units+1<P?)(hk:yh knd s.heap k a)(h:Q (E7 knd k) {s with toks:=s.toks+(k.1.length+k.2.length+3)}):l_ (m_ prog w) A (pyHash (.ref a)) Q E s:=by
 have hT:=hk.typeIs;obtain⟨o,b,c,n,ho,_,hd,h1,h2⟩:=hk;have n0:(some (aaw "tuple.__hash__")==some Ğ)=false:=by rw[beq_builtin_none]
 unfold pyHash Œ;refine d? (wpAny_cRoomFor_or (.inr (by lia)) (d? (ĉ hT ŏ.lookup ?_)));rw[n0];refine d? (ĉ hT ŏ.lookup ?_);refine d? (wpAny_callSpecialIfBoundUnlessNone?_slot hT ŏ (W' ŏ hT F.entry_tuple_hash ?_ (F.args_tuple_hash_1 _)));show l_ _ _ (V_.Tuple.tupleItemsOf (.ref a) >>= _) _ _ s;refine d? (aaT ho hd (d? ?_));rw[<-abr];simp only[Ż,abz];have hi:(A.in1).units<P?:=by show A.units+1<P?;exact hu
 refine d? (d? (adN hi h1 ?_));refine h_ ?_;dsimp only;refine d? (d? (adN (s:={s with toks:=s.toks+(k.1.length+1)}) hi h2 (h_ (h_ ?_))));refine wpAny_ret_mkInt ?_;have tk:s.toks+(k.1.length+1)+(k.2.length+1)+1=s.toks+(k.1.length+k.2.length+3):=by lia
 unfold E7 reduceHash at h;show l_ _ _ (Œ.reduced (abD [aa5 knd k.1,aa5 knd k.2])) _ _ _;unfold Œ.reduced;rw[<-tk]at h;split at h
 .rename_i z;rw[j_ z];exact h_ h
 .rename_i z;rw[f? z];exact d? (aaU (h_ h))
theorem X7 {x y:b? K×b? K}{a b:c_}{Q:s?->d_->Prop}(hu:A.units+1<P?)(hx:yh knd s.heap x a)(hy:yh knd s.heap y b)(h:Q (p_ (x=y)) s):l_ (m_ prog w) A (eqBool (.ref a) (.ref b)) Q E s:=by
 have tx:=hx.typeIs;have ty:=hy.typeIs;have same:a=b->x=y:=λe=>by subst e;exact hx.inj hy
 obtain⟨o,b1,c1,n,ho,_,hd,h1,h2⟩:=hx;obtain⟨o',b2,c2,n',aQ,_,aX,gY,gZ⟩:=hy;unfold eqBool;refine L_ ?_;by_cases ab:a=b
 .rw[j_ (by rw[ab];exact ú _)];rw[j' (same ab)]at h;exact d? (aaU (h_ h))
 .rw[f? (λz=>ab (o?.inj (ł z)))];refine d? (wpAny_richCompare_same_room (op:=.Eq) tx ty Ű (W' Ű tx F.entry_tuple_eq ?_ (F.args_tuple_eq_2 _ _)) (by lia));show l_ _ _ (Ň (.ref b) (.type "tuple") >>= _) _ _ s;refine d? (ť ty aac ?_);rw[f? (by decide)];refine d? (aaT ho hd (d? (aaT aQ aX (d? ?_))));have hi:(A.in1).units<P?:=by
   show A.units+1<P?;exact hu
  simp only[aaN,aa2,Ż,abz];have no:p_ (x=y)=false->∃v,Fin.done (Flow.ret (.bool false))=Fin.done (Flow.ret v)/\v≠aaH/\l_ (m_ prog w) A (truthOfDropped v) Q E s:=λe=>⟨_,a_,(λz=>nomatch z),S? (by rw[e]at h;exact h)⟩;refine d? (d? (Ń hi h1 gY ?_));by_cases z1:x.1=y.1
  .rw[j' z1,f? (by decide)];refine h_ ?_;dsimp only;refine d? (d? (Ń hi h2 gZ ?_));by_cases z2:x.2=y.2
   .rw[j' z2,f? (by decide)];refine h_ (h_ (h_ ⟨_,a_,(λz=>nomatch z),S? ?_⟩));rw[j' (ű z1 z2)]at h;exact h
   .rw[t_ z2,j_ (by decide)];exact d? (h_ (h_ (h_ (h_ (no (t_ λe=>z2 (by rw[e])))))))
  .rw[t_ z1,j_ (by decide)];exact d? (h_ (h_ (h_ (h_ (no (t_ λe=>z1 (by rw[e])))))))
theorem Nw (n:j?){ks:b? K}{a:c_}{Q:s?->d_->Prop}(hk:ab9 knd s.heap ks a)(h:Q true s):l_ (m_ prog w) A (acH (n+1) (.ref a)) Q E s:=by
 have hT:=hk.typeIs;obtain⟨o,items,m,ho,_,hd,hi⟩:=hk;unfold acH;refine d? (ĉ hT Ű.lookup ?_);show l_ _ _ (Ň (.ref a) (.type "tuple") >>= _) _ _ s;refine d? (ť hT aac ?_);rw[f? (by decide)];refine d? (afh ho hd (d? ?_));show l_ _ _ (forIn items _ _) _ _ s;rw[<-abr];have q:=hi.byValue;generalize items.toList=l at q;clear hi hd;induction l with
 |nil=>exact h_ (h_ h)
 |cons v l ih=>rw[Ż,eqIsQuiet_byValue _ (q v t?)];refine d? (d? (h_ ?_));rw[f? (by decide)];exact h_ (ih λu hu=>q u (u_ _ hu))
theorem X8 {k:b? K×b? K}{a:c_}{Q:s?->d_->Prop}(hk:yh knd s.heap k a)(h:Q true s):l_ (m_ prog w) A (acH 8 (.ref a)) Q E s:=by have hT:=hk.typeIs;obtain⟨o,b,c,m,ho,_,hd,h1,h2⟩:=hk;unfold acH;refine d? (ĉ hT Ű.lookup ?_);show l_ _ _ (Ň (.ref a) (.type "tuple") >>= _) _ _ s;refine d? (ť hT aac ?_);rw[f? (by decide)];refine d? (afh ho hd (d? ?_));show l_ _ _ (forIn #[o? b,o? c] _ _) _ _ s;rw[<-abr];simp only[Ż,abz];refine d? (d? (Nw 6 h1 ?_));rw[f? (by decide)];refine h_ (d? (d? (Nw 6 h2 ?_)));rw[f? (by decide)];exact h_ (h_ (h_ h))
end
noncomputable def sI {prog:n_}{w:z?}{K:Type}[İ K](knd:acN prog w K):afw prog w (b? K×b? K) where
 is:=yh knd
 hash:=E7 knd
 draws:=λk=>k.1.length+k.2.length+3
 room:=λA=>A.units+1<P?
 inj:=λhx hy=>hx.inj hy
 keeps:=λx ho hd hs=>x.keeps ho hd hs
 pyHash:=λhu hk h=>X6 hu hk h
 eqBool:=λhu hx hy h=>X7 hu hx hy h
 quiet:=λhk h=>X8 hk h
end PySem
namespace L2
open PySem PySem.Spec PyProof.Rows
noncomputable abbrev K2:=b? Key×b? Key
noncomputable def fU (H:Hp)(k:K2)(b:c_):Prop:=∃c d,H b=some (.tup [.ref c,.ref d])/\H c=some (.tup (k.1.map kV))/\H d=some (.tup (k.2.map kV))
theorem fU.keeps {H H':Hp}{k:K2}{b:c_}(h:fU H k b)(ht:∀b ys,H b=some (.tup ys)->H' b=some (.tup ys)):fU H' k b:=let⟨c,d,h1,h2,h3⟩:=h;(xa0 c d ⟨ht _ _ h1,ht _ _ h2,ht _ _ h3⟩)
noncomputable abbrev P2:=b? (K2×c_×V)
noncomputable def cy (xs:P2)(k:K2):f_ V:=(xs.find? λx=>p_ (x.1=k)).map (·.2.2)
noncomputable abbrev qK:P2->b? (K2×c_×b_)->Prop:=g? λp q=>p.1=q.1/\p.2.1=q.2.1/\RelV p.2.2 q.2.2
theorem qK.val {xs:P2}{ys:b? (K2×c_×b_)}(r:qK xs ys)(k:K2):dJ (cy xs k) ((ň ys k).map (·.2)):=by
 induction r with
 |nil=>exact q_
 |@cons p q ps qs h t ih=>
  obtain⟨h1,_,h2⟩:=h;by_cases e:p.1=k
  .have e':q.1=k:=h1.symm.trans e;simp only[cy,ň,É,e,e',decide_true];exact h2
  .have e':¬q.1=k:=λz=>e (h1.trans z);simp only[cy,ň,É,e,e',decide_false];exact ih
theorem X9 {α β:Type}{F:α->β->Prop}{xs:b? α}{ys:b? β}(p:g? F xs ys){i:j?}{y:β}(e:ys[i]?=some y):∃x,xs[i]?=some x/\F x y:=by have l:=q? p;have hi:=(xv.mp e).1;obtain⟨z,ez,f⟩:=qa p (n? (show i<xs.length by lia));rw[e]at ez;cases ez;exact⟨_,n? _,f⟩
section
variable {P:n_}{w:z?}{H:Hp}{h:k_}{a b:c_}{k:K2}{xs:P2}
theorem vW (ok:bK P w H h)(e:fU H k b):(sI (qp P w)).is h k b:=by obtain⟨c,d,h1,h2,h3⟩:=e;obtain⟨_,its,r,o,e1,e2,n,e3⟩:=(show y0 P w H h b (.tup [.ref c,.ref d])from ok b _ h1);obtain⟨u,v,rfl,ru,rv⟩:=r.two;cases(show u=o? c from ru);cases(show v=o? d from rv);exact(xa2 o c d n ⟨e1,e2,e3,kS ok h2,kS ok h3⟩)
noncomputable def Nx (P:n_)(w:z?)(a:c_)(xs:P2)(h:k_):Prop:=xs.length<=k?/\(a==V')=false/\∃ys,qK xs ys/\∃o es ep,h.get? a=some o/\o.ExactDict/\o.data= .dict es ep/\es.toList=ys.map (ab1 (sI (qp P w)))/\(ys.map (·.1)).Nodup
noncomputable def dP (P:n_)(w:z?)(a:c_)(xs:P2):HO:=.ext (Nx P w a xs)
theorem Ny {H':Hp}(x:Nx P w a xs h):y0 P w H' h a (dP P w a xs):=by
 refine⟨x,?_,λh1 h2 y k=>?_⟩
 .obtain⟨_,_,_,_,o,_,_,e,_⟩:=x;exact⟨o,e⟩
 .obtain⟨l,n,ys,r,o,es,ep,e,z⟩:=y;exact⟨l,n,ys,r,xa1 o es ep ⟨k o e,z⟩⟩
noncomputable def jR (P:n_)(w:z?)(H:Hp)(a:c_)(xs:P2):Prop:=(Rd H a (dP P w a xs)\/xs=[]/\Rd H a (.dT []))/\∀x∈xs,fU H x.1 x.2.1
theorem vX (ok:bK P w H h)(e:jR P w H a xs):xs.length<=k?/\(a==V')=false/\∃ys,qK xs ys/\h.DictOfH (sI (qp P w)) a ys:=by
 obtain⟨r|⟨rfl,r⟩,ps⟩:=e
 .obtain⟨⟨l,n,ys,rel,o,es,ep,h1,h2,h3,h4,h5⟩,_⟩:=(show y0 P w H h a (dP P w a xs)from r.ok ok);refine⟨l,n,ys,rel,xa1 o es ep ⟨h1,h2,h3,h4,λy hy=>?_,h5⟩⟩;obtain⟨i,hi⟩:=aam.mp hy;obtain⟨x,hx,e1,e2,_⟩:=X9 rel hi;have:=vW ok (ps x (r? hx));rw[e1,e2]at this;exact this
 .obtain⟨_,n,ys,rel,o,es,ep,h1,h2,h3,h4,h5⟩:=(show y0 P w H h a (.dT [])from r.ok ok);cases rel;exact⟨W_ _,n,[],.nil,xa1 o es ep ⟨h1,h2,h3,h4,(λ_ z=>by cases z),.nil⟩⟩
end
noncomputable def E8 (P:n_)(w:z?)(H:Hp)(a:c_):Prop:=LZ H a\/∃xs,jR P w H a xs
noncomputable def Nz (P:n_)(w:z?)(H:Hp)(a:c_)(y:V)(o:f_ V):Prop:=mn H a y o\/∃xs k b,jR P w H a xs/\y= .ref b/\fU H k b/\o=cy xs k
section
variable {X:Cx}{pins:b? (c_×J_)}{U:St}{H:Hp}{s:d_}{a:c_}
theorem NA (I:Inv X pins U H s)(d:E8 X.prog X.w H a):s.TypeIs (.ref a) "dict"/\(∀b,o? a= .ref b->∃ob,s.heap.get? b=some ob/\ob.dict=none):=by
 rcases d with d|⟨xs,e⟩
 .obtain⟨h1,h2,_⟩:=UZ I d;exact⟨h1,h2⟩
 .obtain⟨_,hd,ys,_,dd⟩:=vX I.ag e;refine⟨dd.typeIs,λb q=>?_⟩;cases q;obtain⟨ob,_,_,h1,h2,_⟩:=dd;exact⟨ob,h1,h2.2.1⟩
theorem AS {prog:n_}{w:z?}{A:B?}(hu:A.units+2<P?):(sI (qp prog w)).room A.in1:=hu
theorem Ya {A:B?}{E:b_->d_->Prop}{y d:V}{u r:b_}{o:f_ V}{Q:b_->d_->Prop}(hu:A.units+2<P?)(I:Inv X pins U H s)(g:Nz X.prog X.w H a y o)(ry:RelV y u)(rd:RelV d r)(h:∀w' s',Inv X pins U H s'->RelV (o.getD d) w'->Q w' s'):l_ (m_ X.prog X.w) A (Ħ (.builtin "dict.get") [.ref a,u,r]) Q E s:=by
 rcases g with g|⟨xs,k,b,e,rfl,eb,rfl⟩
 .exact U5 (by lia) I g ry rd h
 .cases(show u=o? b from ry);obtain⟨z,hd,ys,rel,dd⟩:=vX I.ag e;exact ļ Ċ dd.typeIs Ŋ (Ŀ _ _ _) (acG (sI (qp X.prog X.w)) a b hd r) ⟨AS hu,xa0 k ys ⟨vW I.ag eb,dd,h _ _ (I.tok _) ((rel.val k).getD rd)⟩⟩
end
noncomputable def Yb (P:n_)(w:z?)(td ty tx:TE):TE:=λ U H Q=>td U H λx H1=>∃a,x= .ref a/\E8 P w H1 a/\ty U H1 λy H2=>tx U H2 λz H3=>∃o,Nz P w H3 a y o/\Q (o.getD z) H3
noncomputable def Yc (P:n_)(w:z?)(td ty tx:TE):TE:=λ U H Q=>td U H λx H1=>∃a,x= .ref a/\E8 P w H1 a/\ty U H1 λy H2=>tx U H2 λz H3=>(∃aa k b,H3 a=some (.dT aa)/\y= .ref b/\H3 b=some (.tup (k.map kV))/\aa.length<k?/\(∀v,br aa k=some v->Q v H3)/\(br aa k=none->Q z (upd H3 a (.dT (putK aa k z)))))\/(∃xs k b,fO (H3 a)/\jR P w H3 a xs/\y= .ref b/\fU H3 k b/\xs.length<k?/\(∀v,cy xs k=some v->Q v H3)/\(cy xs k=none->Q z (upd H3 a (dP P w a (xs++[(k,b,z)])))))
section
variable {X:Cx}{o e f:G?}{apos ay:Ī}{td ty tx:TE}
theorem E9 (hu:X.A.units+2<P?)(ho:PE X o td)(he:PE X e ty)(hf:PE X f tx)(m:M2 X o "get" apos e f ay):PE X (.Call (.Attribute o "get" apos) [e,f] [] ay) (Yb X.prog X.w td ty tx):=by
 intro pins s U H Q I h;refine ad9 m.base m.few m.line ľ Ċ PySem.F.type_dict_get (ai (ho pins s U H _ I h) λu s1 zQ=>?_);obtain⟨x,H1,I1,rx,a,ex,d,q1⟩:=zQ;subst ex;obtain rfl:u=o? a:=rx;obtain⟨t1,t2⟩:=NA I1 d;refine⟨t1,t2,?_⟩;rw[m.trees];refine ą a_ (ê (ü (ai (he pins s1 U H1 _ I1 q1) λiv s2 ⟨y,H2,I2,ry,q2⟩=>ü (ai (hf pins s2 U H2 _ I2 q2) λfv s3 ⟨z,H3,I3,rz,ov,g,q3⟩=>aar ?_))));exact Ya hu I3 g ry rz λw' s4 I4 cI=>(xa0 _ H3 ⟨I4,cI,q3⟩)
theorem Yd (hu:X.A.units+2<P?)(ho:PE X o td)(he:PE X e ty)(hf:PE X f tx)(m:M2 X o "setdefault" apos e f ay):PE X (.Call (.Attribute o "setdefault" apos) [e,f] [] ay) (Yc X.prog X.w td ty tx):=by
 intro pins s U H Q I h;refine ad9 m.base m.few m.line ľ ĕ PySem.F.type_dict_setdefault (ai (ho pins s U H _ I h) λu s1 zQ=>?_);obtain⟨x,H1,I1,rx,a,ex,d,q1⟩:=zQ;subst ex;obtain rfl:u=o? a:=rx;obtain⟨t1,t2⟩:=NA I1 d;refine⟨t1,t2,?_⟩;rw[m.trees];refine ą a_ (ê (ü (ai (he pins s1 U H1 _ I1 q1) λiv s2 ⟨y,H2,I2,ry,q2⟩=>ü (ai (hf pins s2 U H2 _ I2 q2) λfv s3 ⟨z,H3,I3,rz,q3⟩=>aar ?_))));rcases q3 with⟨aa,k,b,ea,rfl,eb,hl,g1,g2⟩|⟨xs,k,b,mu,ea,rfl,eb,hl,g1,g2⟩
 .cases(show iv=o? b from ry);obtain⟨hz,hd,ys,rel,dd⟩:=D4 I3.ag ea;have nY:ys.length<=k?:=by rw[<-q? rel];exact hz
  refine ļ ĕ dd.typeIs aay (aaq _ _ _) (MS (Ł (qp X.prog X.w)) a b hd fv) ⟨â (by lia),xa0 k ys ⟨kS I3.ag eb,dd,nY,λp hp=>?_,λhn h' gD hs=>?_⟩⟩
  .have rv:=rel.val k;rw[hp]at rv;cases hv:br aa k with
   |none=>rw[hv]at rv;cases rv
   |some v=>rw[hv]at rv;exact(xa0 v H3 ⟨I3.tok _,rv,g1 v hv⟩)
  .have rv:=rel.val k;rw[hn]at rv;have hv:br aa k=none:=by
    cases hv:br aa k with
    |none=>rfl
    |some v=>rw[hv]at rv;cases rv
   have LL:(putK aa k z).length<=k?:=by have:=uM aa k z;lia
   have vY:=rel.put k eb rz;rw[storedH_new hn]at vY;obtain⟨q,es,ep,hq,h2,h3,h4,_,h5⟩:=gD;refine(xa0 z _ ⟨pV (ob:=.dT (putK aa k z)) I3 (by rw[ea];exact q_) hs ⟨q,hq⟩ ⟨LL,hd,_,vY.keeps λc ys ec=>?_,xa1 q es ep ⟨hq,h2,h3,h4,h5⟩⟩,rz,g2 hv⟩);rw[jd (gA ec ea (λz=>nomatch z))];exact ec
 .cases(show iv=o? b from ry);obtain⟨hz,hd,ys,rel,dd⟩:=vX I3.ag ea;have nY:ys.length<=k?:=by rw[<-q? rel];exact hz
  refine ļ ĕ dd.typeIs aay (aaq _ _ _) (MS (sI (qp X.prog X.w)) a b hd fv) ⟨AS hu,xa0 k ys ⟨vW I3.ag eb,dd,nY,λp hp=>?_,λhn h' gD hs=>?_⟩⟩
  .have rv:=rel.val k;rw[hp]at rv;cases hv:cy xs k with
   |none=>rw[hv]at rv;cases rv
   |some v=>rw[hv]at rv;exact(xa0 v H3 ⟨I3.tok _,rv,g1 v hv⟩)
  .have rv:=rel.val k;rw[hn]at rv;have hv:cy xs k=none:=by
    cases hv:cy xs k with
    |none=>rfl
    |some v=>rw[hv]at rv;cases rv
   obtain⟨q,es,ep,hq,h2,h3,h4,_,h5⟩:=gD;exact(xa0 z _ ⟨pV (ob:=dP X.prog X.w a (xs++[(k,b,z)])) I3 mu hs ⟨q,hq⟩ (Ny ⟨by rw[r_];exact hl,hd,_,adz rel ⟨a_,a_,rz⟩,xa1 q es ep ⟨hq,h2,h3,h4,h5⟩⟩),rz,g2 hv⟩)
end
noncomputable def Fb (P:n_)(w:z?)(a:c_)(o:J_)(xs:P2):It where
 go:=λi H=>i<xs.length/\H a=some (.az o (dP P w a xs))
 eF:=λi H x H'=>H'=H/\∃y,xs[i]?=some y/\x= .ref y.2.1
 stop:=λi H=>xs.length<=i/\H a=some (.az o (dP P w a xs))
theorem Ye {P:n_}{w:z?}{K:e?}{tg:G?}(a it:c_)(o:J_)(xs:P2)(es:C? ì)(ep:j?)(hd:o.data= .dict es ep):Turn P w K tg (Fb P w a o xs) [it] it (λi h=>h.IsKeyIter it a i xs.length ep) where
 mem:=by simp
 obj:=λi h st b hb=>by
  have e:b=it:=by simpa using hb
  subst e;obtain⟨o,e,c,d⟩:=st;exact⟨o,e,λv z=>by rw[d]at z;cases z⟩
 keep:=λi h h' st k=>st.at λo e=>k it (by simp) o e
 item:=by
  intro X hP hw hK hc i pins s U H E I hf st hg;subst hP hw hK;obtain⟨hi,hq⟩:=hg;obtain⟨ho,⟨hz,hs,ys,r,o',gB,dX,aQ,ft,aX,he,nd⟩,_⟩:=I.ag a _ hq;cases o_ (aQ.symm.trans ho);rw[hd]at aX;cases aX;have hsz:es.size=xs.length:=by have e1:=T_ ć he;rw[i?,<-q? r]at e1;simpa using e1
  obtain⟨y,ey,e1,e2,e3⟩:=qa r (n? hi);have aA:i<es.size:=by lia
  have cp:es[i].key= .ref y.2.1:=by
   have h1:es.toList[i]?=some es[i]:=by simp[aA]
   rw[he,J',ey]at h1;rw[<-o_ h1];rfl
  obtain⟨f0,f1,f2,f3,f4,f5⟩:=hf it (by simp);rw[<-hsz]at st;refine MT st ho hd aA λh' bG sb=>?_;have I1:Inv X pins U H {s with heap:=h'}:=I.turned (t':=s.toks) (λb o hb e=>(sb.2 b hb).trans e) f0 f1 f3 f4 f5;rw[hsz]at bG;rw[cp,<-e2];obtain⟨oi,ei,ci,di⟩:=id bG;exact⟨_,a_,pH (s:={s with heap:=h'}) ei ci di (by decide) (xa0 (.ref _) H ⟨I1,a_,⟨a_,_,n? hi,a_⟩,bG,λb hb=>(hf b hb).1⟩)⟩
 done:=by
  intro X hP hw hK hc i pins s U H E I hf st hg;subst hP hw hK;obtain⟨hi,hq⟩:=hg;obtain⟨ho,⟨hz,hs,ys,r,o',gB,dX,aQ,ft,aX,he,nd⟩,_⟩:=I.ag a _ hq;cases o_ (aQ.symm.trans ho);rw[hd]at aX;cases aX;have hsz:es.size=xs.length:=by have e1:=T_ ć he;rw[i?,<-q? r]at e1;simpa using e1
  obtain⟨f0,f1,f2,f3,f4,f5⟩:=hf it (by simp);rw[<-hsz]at st;exact MU (I.ok.hd hc) st ho hd (by lia) λh' eb=>⟨a_,I.turned (t':=s.toks) (λb o hb e=>eb b o hb e) f0 f1 f3 f4 f5⟩
 self:=λ_ _ _ _ _ st h=>aan st h
noncomputable def Yf (P:n_)(w:z?)(tl:TE):TI:=λ U H R=>tl U H λx H1=>∃a,x= .ref a/\((∃aa,H1 a=some (.dT aa)/\∀o,R (EK a o aa) (upd H1 a (.az o (.dT aa))))\/∃xs,H1 a=some (dP P w a xs)/\∀o,R (Fb P w a o xs) (upd H1 a (.az o (dP P w a xs))))
theorem NB {X:Cx}{tg l:G?}{tl:TE}(hl:PE X l tl):PI X tg l (Yf X.prog X.w tl):=by
 intro pins s U H R I h;refine ai (hl pins s U H _ I h) λv s1 zQ=>?_;obtain⟨x,H1,I1,r1,q1⟩:=zQ;obtain⟨a,rfl,⟨aa,hq,q⟩|⟨xs,hq,q⟩⟩:=q1
 .cases r1;obtain⟨hz,hs,ys,r,o,es,ep,ho,hx,hd,he,nd⟩:=I1.ag a _ hq;have hsz:es.size=aa.length:=by
   have e1:=T_ ć he;rw[i?,<-q? r]at e1;simpa using e1
  refine MV hs ho hx hd ?_;have I2:=I1.freeze (show fO (some (HO.dT aa))from q_) hq ho;have hn:upd H1 a (.az o (.dT aa)) s1.heap.objs.size=none:=I2.ag.fresh (s_ _);refine(xa3 s1.heap.objs.size [s1.heap.objs.size] _ _ _ ⟨a_,I2.kept (t':=s1.toks) λb o e=>g_ _ e,WZ a _ o aa es ep hd,?_,λb hb=>?_,q o⟩)
  .rw[<-hsz];exact⟨_,x? _ a_,a_,a_⟩
  .have e:b=s1.heap.objs.size:=by simpa using hb
   subst e;exact I2.pG (s_ _) hn
 .cases r1;obtain⟨⟨hz,hs,ys,r,o,es,ep,ho,hx,hd,he,nd⟩,_⟩:=I1.ag a _ hq;have hsz:es.size=xs.length:=by
   have e1:=T_ ć he;rw[i?,<-q? r]at e1;simpa using e1
  refine MV hs ho hx hd ?_;have I2:=I1.freeze (show fO (some (dP X.prog X.w a xs))from q_) hq ho;have hn:upd H1 a (.az o (dP X.prog X.w a xs)) s1.heap.objs.size=none:=I2.ag.fresh (s_ _);refine(xa3 s1.heap.objs.size [s1.heap.objs.size] _ _ _ ⟨a_,I2.kept (t':=s1.toks) λb o e=>g_ _ e,Ye a _ o xs es ep hd,?_,λb hb=>?_,q o⟩)
  .rw[<-hsz];exact⟨_,x? _ a_,a_,a_⟩
  .have e:b=s1.heap.objs.size:=by simpa using hb
   subst e;exact I2.pG (s_ _) hn
theorem my {A:B?}{k:j?}(hr:aY k A):A.units+2<P?:=ė (adn (by decide:2<=64) _) hr.units
end L2
namespace L2
open PySem PySem.Spec PyProof.Rows PySem.W
noncomputable abbrev Cut:=b? i_×b? i_
noncomputable def eC (a b:Cut):s?:=if a.1=b.1 then HT.lexLt a.2 b.2 else HT.lexLt a.1 b.1
theorem NC {a b:Cut}(h:eC a b=true):eC b a=false:=by
 unfold eC at h⊢;by_cases e:a.1=b.1
 .rw[j_ e]at h;rw[j_ e.symm];exact sF h
 .rw[f? e]at h;rw[f? λz=>e z.symm];exact sF h
theorem Yg {a b:Cut}(ne:a≠b)(h:eC a b=false):eC b a=true:=by
 unfold eC at h⊢;by_cases e:a.1=b.1
 .rw[j_ e]at h;rw[j_ e.symm];exact AD (λz=>ne (ű e z)) h
 .rw[f? e]at h;rw[f? λz=>e z.symm];exact AD e h
theorem Yh {a b c:Cut}(h1:eC a b=true)(h2:eC b c=true):eC a c=true:=by
 unfold eC at h1 h2⊢;by_cases e:a.1=b.1
 .rw[j_ e]at h1;by_cases f:b.1=c.1
  .rw[j_ f]at h2;rw[j_ (e.trans f)];exact AE h1 h2
  .rw[f? f]at h2;rw[e,f? f];exact h2
 .rw[f? e]at h1;by_cases f:b.1=c.1
  .rw[<-f,f? e];exact h1
  .rw[f? f]at h2;rw[f? λz=>by rw[z]at h1;rw[sF h1]at h2;cases h2];exact AE h1 h2
theorem Yi {ts:b? Cut}(nd:ts.Nodup):bO.iR (λi j=>eC (ts.getD i ([],[])) (ts.getD j ([],[]))) ts.length where
 aJ:=λi j hi hj ne h=>Yg (λe=>ne (by rw[J?,J?,n? hi,n? hj]at e;exact(abH nd).mp e)) h
 MJ:=λ_ _ _ _ h=>NC h
 tr:=λ_ _ _ _ _ _ h1 h2=>Yh h1 h2
noncomputable def eN (K:e?)(H:Hp)(vs:b? V)(ts:b? Cut):Prop:=g? (λv (t:Cut)=>∃a c d,v= .ref a/\ax K H a [.ref c,.ref d]/\ax K H c (t.1.map V.int)/\ax K H d (t.2.map V.int)) vs ts
noncomputable def AU (h:k_)(u:b_)(t:Cut):Prop:=∃a c d xs ys,u=o? a/\ē h a #[.ref c,.ref d]/\ē h c xs/\U? xs.toList t.1/\ē h d ys/\U? ys.toList t.2
section
variable {prog:n_}{w:z?}{A:B?}{E:b_->d_->Prop}{s:d_}
theorem ND:∀{vs:b? b_}{ns:b? i_},U? vs ns->ItemsAre (qp prog w) (ns.map (Q?:i_->Key)) vs
 |_,_,.nil=>.nil
 |_,_,.cons i t r=>.cons (Kz prog w i t) (ND r)
theorem AV {h:k_}{a:c_}{xs:C? b_}{ns:b? i_}(p:ē h a xs)(hi:U? xs.toList ns):ab9 (qp prog w) h (ns.map (Q?:i_->Key)) a:=let⟨o,h1,h2,n,h3⟩:=p;(xa1 o xs n ⟨h1,h2,h3,ND hi⟩)
theorem Yj {u v:b_}{t t':Cut}{Q:s?->d_->Prop}(hu:A.units<P?)(h1:AU s.heap u t)(h2:AU s.heap v t')(q:Q (eC t t') s):l_ (m_ prog w) A (keyLt' (tuples' false) u v) Q E s:=by
 obtain⟨a,c,d,xs,ys,rfl,⟨o,ho,_,n,hd⟩,pc,ic,pd,id⟩:=h1;obtain⟨a',c',d',aE,ba,rfl,⟨o',aQ,_,n',aX⟩,NF,NG,NH,id'⟩:=h2;refine kat_lt ho hd aQ aX ?_;have inj:∀{x y:b? i_},p_ (x.map (Q?:i_->Key)=y.map Q?)=p_ (x=y):=λ{x y}=>by have:x.map (Q?:i_->Key)=y.map Q?↔x=y:=ř λ_ _ z=>Q?.inj z;simp only[this]
 unfold eC at q;refine afs (Ń hu (AV (prog:=prog) (w:=w) pc ic) (AV NF NG) ?_);rw[inj];by_cases e:t.1=t'.1
 .rw[j_ e]at q;rw[j' e];refine kat_yes (afs (Ń hu (AV (prog:=prog) (w:=w) pd id) (AV NH id') ?_));rw[inj];by_cases f:t.2=t'.2
  .rw[j' f];refine kat_yes (aef ?_);rw[f]at q;have:HT.lexLt t'.2 t'.2=false:=by
    cases z:HT.lexLt t'.2 t'.2 with
    |false=>rfl
    |true=>rw[sF z]at z;cases z
   rw[this]at q;simpa using q
  .rw[t_ f];refine kat_no (kat_one _ _ ?_);exact HT.Lz pd NH id id' hu q
 .rw[f? e]at q;rw[t_ e];exact kat_no (kat_one _ _ (HT.Lz pc NF ic NG hu q))
end
theorem NI:∀{h:k_}{its:b? b_}{ts:b? Cut},g? (AU h) its ts->∃fs,Ů h its fs/\fs.length=its.length/\∀v∈fs,∃c xs,v=o? c/\ē h c xs
 |_,_,_,.nil=>⟨[],Ů.nil,a_,λ_ z=>by cases z⟩
 |h,_,_,.cons ⟨a,c,d,xs,ys,e,⟨o,ho,hc,n,hd⟩,pc,_⟩ r=>by
  subst e;obtain⟨fs,k,l,q⟩:=NI r;refine⟨.ref c::fs,Ů.cons ho hc hd a_ k,by simp[l],λv hv=>?_⟩;rcases B_.mp hv with rfl|hv
  .exact⟨c,xs,a_,pc⟩
  .exact q v hv
section
variable {X:Cx}
theorem NJ (hu:X.A.units+2<P?):cD X (.builtin "sorted") (λxs H Q=>∃(p:c_)(vs:b? V)(ts:b? Cut),xs=[.ref p]/\ah X.K H p vs/\eN X.K H vs ts/\vs.length<64/\ts.Nodup/\∀(q:c_)(aV:b? V)(bE:b? Cut),H q=none->aV.Perm vs->bE.Perm ts->eN X.K H aV bE->bE.Pairwise (λa b=>eC a b=true)->Q (.ref q) (upd H q (.lst aV))):=by
 intro pins s U H xs us Q I r h;obtain⟨p,vs,ts,e,hq,ht,oa,nd,q⟩:=h;refine MO (G:=λH v (t:Cut)=>∃a c d,v= .ref a/\ax X.K H a [.ref c,.ref d]/\ax X.K H c (t.1.map V.int)/\ax X.K H d (t.2.map V.int)) (L:=AU) ([],[]) (λ_=>I?) (.type "tuple") (λI v u t hv hu=>?_) (λk u t h=>?_) Yi a_ (λh _=>?_) (Yj (by show X.A.units+2<P?;exact hu)) pins s U H xs us Q I r (xa1 p vs ts ⟨e,hq,ht,oa,nd,ad4,λq' aV bE _ a _ _ _ b c d f=>q q' aV bE a b c d f⟩)
 .obtain⟨a,c,d,rfl,ha,hc,hd⟩:=hu;cases hv;obtain⟨ys,ry,hy,_⟩:=I.tuple ha;obtain⟨x,y,rfl,rx,Yk⟩:=ry.two;cases(show x=o? c from rx);cases(show y=o? d from Yk);obtain⟨y1,k1,p1,_⟩:=I.tuple hc;obtain⟨y2,k2,p2,_⟩:=I.tuple hd;exact(xa3 a c d y1.toArray y2.toArray ⟨a_,hy,p1,intsAre_of k1,p2,intsAre_of k2⟩)
 .have up:∀{b:c_}{xs:C? b_},ē _ b xs->ē _ b xs:=λ⟨o,ho,hr⟩=>⟨o,k _ o ho,hr⟩;obtain⟨a,c,d,xs,ys,e,pa,pc,ic,pd,id⟩:=h;exact(xa3 a c d xs ys ⟨e,up pa,up pc,ic,up pd,id⟩)
 .obtain⟨fs,kt,lf,hf⟩:=NI h;refine⟨fs,kt,lf,λv hv=>?_⟩;obtain⟨c,xs,rfl,o,ho,hc,_⟩:=hf v hv;rw[<-hc];exact(P_.ld ho).andThen .now
theorem NK (hc:X.calm=true):cD X (.builtin "sum") (λxs H Q=>∃(p:c_)(ns:b? i_),xs=[.ref p]/\ax X.K H p (ns.map V.int)/\Q (.int ns.sum) H):=by
 intro pins s U H xs us Q I r h;obtain⟨p,ns,rfl,hq,q⟩:=h;obtain⟨u,rfl,rx⟩:=vals1 r;cases rx;obtain⟨its,r',pl,hz⟩:=I.tuple hq;have hi:=intsAre_of r';obtain⟨ms,hx⟩:=hi.allInts.items;have ht:s.heap.IsTuple p (ab0 ms):=hx ▸ pl;have lp:p<s.heap.objs.size:=let⟨_,e,_⟩:=ht;u? e;have e1:ns=ms.toList.map (·.1):=by rw[<-afL,<-hx];exact(show numsOf its.toArray.toList=ns from hi.numsOf).symm
 have e2:preSum (numAt ms) ms.size=ns.sum:=by rw[preSum_eq,acQ (by simp),e1]
 refine call_sum_walkG (adM ht (xa6 _ _ _ _ _ _ (numAt ms) ⟨a_,Walks.tuple (A:=X.A.in1) (I.ok.hd hc) _ p (N? lp) (ab0 ms),⟨⟨_,x? _ a_,a_,a_⟩,ht.push _⟩,λb hb=>?_,λ_ _=>intItems_at,λh' tk t' hk=>?_⟩))
 .show b<(s.heap.push _).objs.size;rw[ď];have iz:b=s.heap.objs.size\/b=p:=by simpa using hb
  rcases iz with rfl|rfl
  .exact Ė _
  .exact aaM lp
 .have e3:(ab0 ms).size=ms.size:=by simp[ab0]
  rw[e3,e2];exact(xa0 (.int ns.sum) H ⟨I.kept (t':=tk) (λb o e=>hk b o (λz=>by
   have z':b=s.heap.objs.size:=by simpa using z
   rw[z']at e;exact v_ (u? e) (ý _)) (g_ _ e)),⟨t',a_⟩,q⟩)
theorem Yl {f:b_}{r1 r2:b? V->Hp->VK->Prop}(h1:cD X f r1)(h2:cD X f r2):cD X f (λxs H Q=>r1 xs H Q\/r2 xs H Q):=by intro pins s U H xs us Q I r h;exact h.elim (h1 pins s U H xs us Q I r) (h2 pins s U H xs us Q I r)
end
end L2
namespace L2
open PySem PySem.Spec PyProof.Rows
noncomputable def NL (N:b? y_)(sc scope:Xg)(N':b? y_)(ix:b? (f_ j?))(y:y_):s?:=scope.kind== .function&&p_ (scope.names.filter (λz=>z.2== .cell)=[(y,.cell)])&&scope.names.all (λy=>y.2 != .local||scope.names.lookup y.1==some .local)&&
 scope.names.all (λy=>y.2 != .free||sc.names.lookup y.1==some .cell||sc.names.lookup y.1==some .free)&&
 p_ ((y,Ö)∉scope.names)&&p_ (ix.length=N'.length)&&p_ N'.Nodup&&(N'.zip ix).all λp=>match p.2 with
  |none=>true
  |some k=>N[k]?==some p.1&&scope.names.lookup p.1==some .free&&scope.names.all λy=>y.1 != p.1||y.2== .free
theorem Ym {N:b? y_}{sc scope:Xg}{N':b? y_}{ix:b? (f_ j?)}{y:y_}(h:NL N sc scope N' ix y=true):kU N sc scope N' ix (some y):=by
 unfold NL at h;simp only[M_,Ó,Ġ,aaS,Á,Ï,ne_eq]at h;obtain⟨⟨⟨⟨⟨⟨⟨h1,h2⟩,h3⟩,h4⟩,hn⟩,h5⟩,h6⟩,h7⟩:=h;refine⟨h1,h2,λy hy e=>(h3 y hy).resolve_left λz=>z e,λy hy e=>?_,(λz e=>by cases e;exact hn),h5,λi x k a b=>?_⟩
 .rcases h4 y hy with(z|z)|z
  .exact v_ e z
  .exact .inl z
  .exact .inr z
 .have q:=h7 (x,some k) (r? (i:=i) (acf.mpr ⟨a,b⟩));simp only[M_,Ó,Ġ,aaS,Á,ne_eq]at q;obtain⟨⟨q1,q2⟩,q3⟩:=q;exact⟨q1,uN q2,λy hy e=>(q3 y hy).resolve_left λz=>z e⟩
section
variable {X:Cx}{scope:Xg}{N':b? y_}{ix:b? (f_ j?)}{y:y_}{tg iter elt:G?}{ifs:b? G?}{pos:Ī}{wi:TI}{g:TG}{ti:TT}{te:TE}
theorem Yn (co:kU X.N X.env.scope scope N' ix (some y))(hc:X.calm=true)(hit:PI X tg iter wi)(hg:∀C fp ae af,PG (dz X scope N' (some y) C fp ae af) tg g)(hi:∀C fp ae af,mq (dz X scope N' (some y) C fp ae af) ifs ti)(he:∀C fp ae af,PE (dz X scope N' (some y) C fp ae af) elt te)(hs:e_ (∀x,Ĕ iter X.env x=Ø x) aP3):
  PE X (.ListComp elt [⟨tg,iter,ifs,0⟩] scope pos) (Ea ix wi g ti te):=by
 intro pins s U H Q I h;rw[afN];refine Ă (use:=none) a_ hs (Ma λp hp e=>I.ok.has p.1 (co.frees p hp e)) co.kind co.names (ai (hit pins s U H _ I h) λxv aj h₁=>ai h₁ λrN ae bQ=>?_);obtain⟨it,fp,tn,J,af,e,dA,T,st,hf,W,w0,hW⟩:=bQ;subst e;refine Mj co hc hg hi he dA T st hf w0 hW (RR:=λacc C=>adw (m_ X.prog X.w) X.A X.xe none (EP X pins U Q) acc C) λD C ys H' s' I' dn q G=>?_;obtain⟨m,hn⟩:=G.ns;exact⟨m,hn,λh' iB=>(xa0 (.ref D) _ ⟨G.go I' iB,a_,q D dn⟩)⟩
end
noncomputable def fu (xs:P2)(k:K2)(b:c_)(v:V):P2:=if(cy xs k).isSome=true then xs.map (λx=>if x.1=k then(x.1,x.2.1,v)else x)else xs++[(k,b,v)]
theorem Yo (xs:P2)(k:K2)(b:c_)(v:V):(fu xs k b v).length<=xs.length+1:=by
 unfold fu;split
 .rw[i?];lia
 .rw[r_];exact s_ _
theorem qK.put {xs:P2}{ys:b? (K2×c_×b_)}{k:K2}{b:c_}{v:V}{u:b_}(r:qK xs ys)(rv:RelV v u):qK (fu xs k b v) (aea ys k b u):=by
 have q:=(r.val k).se;rw[aas]at q;unfold fu aea;rw[q];split
 .rename_i z;clear q z;induction r with
  |nil=>exact .nil
  |@cons p z ps zs h t ih=>
   obtain⟨h1,h2,h3⟩:=h;rw[y?,y?];refine .cons ?_ ih;unfold putAt;by_cases e:p.1=k
   .rw[j_ e,j_ (h1.symm.trans e)];first|exact⟨h1,h2,rv⟩|exact⟨h1.trans (h1.symm.trans e),h2,rv⟩|exact⟨e,h2,rv⟩
   .rw[f? e,f? λy=>e (h1.trans y)];exact⟨h1,h2,h3⟩
 .exact adz r ⟨a_,a_,rv⟩
noncomputable def Yp (P:n_)(w:z?)(td ty tv:TE):TS:=λD U H=>tv U H λv H1=>td U H1 λx H2=>ty U H2 λy H3=>∃a xs k b,x= .ref a/\fO (H3 a)/\jR P w H3 a xs/\y= .ref b/\fU H3 k b/\xs.length<k?/\D.nx U (upd H3 a (dP P w a (fu xs k b v)))
noncomputable def Yr (P:n_)(w:z?)(td ty:TE):TE:=λ U H Q=>td U H λx H1=>ty U H1 λy H2=>∃a xs k b v,x= .ref a/\jR P w H2 a xs/\y= .ref b/\fU H2 k b/\cy xs k=some v/\Q v H2
section
variable {X:Cx}{o i value:G?}{pos pos':Ī}{td ty tv:TE}
theorem Ys (hu:X.A.units+2<P?)(ho:PE X o td)(hi:PE X i ty)(hv:PE X value tv)(hs:ŧ value (some (.Subscript o i pos')) pos.line X.env=Ø false):PS X (.Assign [.Subscript o i pos'] value pos) (Yp X.prog X.w td ty tv):=by
 intro pins s U H D I h;refine acY (ai (hv pins s U H _ I h) λr s1 ⟨v,H1,I1,rv,q1⟩=>ai (ho pins s1 U H1 _ I1 q1) λu s2 ⟨x,H2,I2,rx,q2⟩=>ai (hi pins s2 U H2 _ I2 q2) λiv s3 zQ=>?_) hs;obtain⟨y,H3,I3,ry,a,xs,k,b,ex,mu,ea,ey,eb,hl,q3⟩:=zQ;subst ex ey;obtain rfl:u=o? a:=rx;cases(show iv=o? b from ry);obtain⟨hz,hd,ys,rel,dd⟩:=vX I3.ag ea;have nY:ys.length<=k?:=by rw[<-q? rel];exact hz
 refine adL (hsz:=nY) (AS hu) (vW I3.ag eb) dd λh' gD iB=>?_;obtain⟨q,es,ep,hq,h2,h3,h4,_,h5⟩:=gD;exact(xa0 U _ ⟨pV (ob:=dP X.prog X.w a (fu xs k b v)) I3 mu iB ⟨q,hq⟩ (Ny ⟨by have:=Yo xs k b v;lia,hd,_,rel.put rv,xa1 q es ep ⟨hq,h2,h3,h4,h5⟩⟩),q3⟩)
theorem NM {P:n_}{w:z?}(hP:X.prog=P)(hw:X.w=w)(hu:X.A.units+2<P?)(ho:PE X o td)(hi:PE X i ty)(hs:D5 i):PE X (.Subscript o i pos) (Yr P w td ty):=by subst hP hw;intro pins s U H Q I h;refine LU aa0.lookup hs (ai (ho pins s U H _ I h) λu s1 ⟨x,H1,I1,rx,q1⟩=>ai (hi pins s1 U H1 _ I1 q1) λiv s2 zQ=>?_);obtain⟨y,H2,I2,ry,a,xs,k,b,v,ex,ea,ey,eb,l,q2⟩:=zQ;subst ex ey;obtain rfl:u=o? a:=rx;cases(show iv=o? b from ry);obtain⟨hz,hd,ys,rel,dd⟩:=vX I2.ag ea;obtain⟨w',hw,cI⟩:=dJ.some_of (v:=v) (o:=(ň ys k).map (·.2)) (by rw[<-l];exact rel.val k);obtain⟨p,hp,Ak⟩:=adm.mp hw;refine⟨dd.typeIs,adO (AS hu) (vW I2.ag eb) dd hp ?_⟩;rw[Ak];exact(xa0 v H2 ⟨I2.tok _,cI,q2⟩)
end
noncomputable def iF (K:e?)(H:Hp)(v:V)(t:Cut):Prop:=∃a c d,v= .ref a/\ax K H a [.ref c,.ref d]/\ax K H c (t.1.map V.int)/\ax K H d (t.2.map V.int)
noncomputable def dE (k:Cut):Dt:=.tup [.tup (k.1.map Dt.int),.tup (k.2.map Dt.int)]
theorem iF.has {K:e?}{H:Hp}{v:V}{t:Cut}(h:iF K H v t):aH K H (dE t) v:=by obtain⟨a,c,d,rfl,h1,h2,h3⟩:=h;unfold dE;rw[aH];refine(xa0 a _ ⟨a_,h1,?_⟩);rw[gu];refine(xa0 _ _ ⟨a_,As h2,?_⟩);rw[gu];exact(xa0 _ _ ⟨a_,As h3,by rw[gu]⟩)
theorem AW (k l:Cut):cE (dE k) (dE l)=p_ (k=l):=by
 unfold dE;rw[cE,cT,cT,cT,El,El,afH];by_cases h:k=l
 .subst h;simp
 .rw[t_ h];by_cases h1:k.1=l.1
  .have h2:k.2≠l.2:=λz=>h (ű h1 z);simp[h2]
  .simp[h1]
theorem Fc (k:Cut):cU (dE k)<=60:=by unfold dE;simp only[cU,gX,uV];decide
noncomputable def qL (K:e?)(H:Hp)(n:Cut)(u:b_):s?:=@p_ (∃a,u= .ref a/\iF K H (.ref a) n) (Z? _)
section
variable {X:Cx}{pins:b? (c_×J_)}{U:St}{H:Hp}{s:d_}
theorem Yt (I:Inv X pins U H s){x:V}{m n:Cut}(h:iF X.K H x m)(h':iF X.K H x n):m=n:=by obtain⟨a,c,d,rfl,h1,h2,h3⟩:=h;obtain⟨a',c',d',e,gY,gZ,Yu⟩:=h';cases e;have e:=I.rM h1 gY;injection e with e1 e2;injection e1 with e1;injection e2 with e2 _;injection e2 with e2;subst e1 e2;exact ű (EC (I.rM h2 gZ)) (EC (I.rM h3 Yu))
theorem NN (I:Inv X pins U H s){x:V}{u:b_}{m n:Cut}(h:iF X.K H x m)(r:RelV x u):qL X.K H n u=p_ (m=n):=by
 obtain⟨a,rfl⟩:∃a,x= .ref a:=let⟨a,_,_,e,_⟩:=h;⟨a,e⟩;cases r;unfold qL;by_cases e:m=n
 .subst e;rw[j' a_];exact@j' _ (Z? _) ⟨a,a_,h⟩
 .rw[t_ e];refine@t_ _ (Z? _) λzQ=>?_;obtain⟨b,z,hb⟩:=zQ;cases z;exact e (Yt I h hb)
theorem Yv (I:Inv X pins U H s){A:B?}(hu:A.units+60<P?){x:V}{v:b_}{n:Cut}(hx:iF X.K H x n)(rx:RelV x v){xs:b? V}{us:b? b_}{bj:b? Cut}(r:Vals xs us)(hs:g? (iF X.K H) xs bj):∀u∈us,z_ A s u v (qL X.K H n u):=by
 induction r generalizing bj with
 |nil=>exact λu hu=>by cases hu
 | cons r t ih=>
  cases hs with
  |cons h hs=>
   intro u hm;rcases B_.mp hm with rfl|hm
   .rw[NN I h r];have q:=Aq I 60 _ _ _ _ _ v A (Fc _) hu h.has hx.has r rx;rw[AW]at q;exact q
   .exact ih hs u hm
theorem Yw (I:Inv X pins U H s){n:Cut}{xs:b? V}{us:b? b_}{bj:b? Cut}(r:Vals xs us)(hs:g? (iF X.K H) xs bj):us.any (qL X.K H n)=p_ (n∈bj):=by
 induction r generalizing bj with
 |nil=>cases hs;simp
 | cons r t ih=>
  cases hs with
  |@cons _ m _ _ h hs=>
   rw[Ō,NN I h r,ih hs];by_cases e:m=n
   .subst e;simp
   .have e':¬n=m:=λz=>e z.symm;simp[e,e']
end
noncomputable def Yx (K:e?)(neg:s?):R2:=λx y H Q=>∃p xs n bj,y= .ref p/\ah K H p xs/\iF K H x n/\g? (iF K H) xs bj/\Q (.bl (if neg then !p_ (n∈bj)else p_ (n∈bj))) H
section
variable {X:Cx}{K:e?}
theorem Yy (hK:X.K=K)(hu:X.A.units+64<P?):bD X (M? .NotIn) (Yx K true):=by
 subst hK;intro pins s U H x y v u Q I rx ry h;obtain⟨p,xs,n,bj,rfl,hq,hx,hs,q⟩:=h;cases ry;obtain⟨its,r,pl,hz⟩:=I.list hq;refine aai (qL X.K H n) pl.isList (λw hw=>Yv I ?_ hx rx r hs w (by simpa using hw)) (xa0 (.bl _) H ⟨I,a_,?_⟩)
 .have e:X.A.in1.units=X.A.units+1:=a_;lia
 .rw[show its.toArray.any (qL X.K H n)=its.any (qL X.K H n)by simp,Yw I r hs];exact q
theorem Yz (hK:X.K=K)(hc:X.calm=true):cD X (.builtin "sum") (λxs H Q=>∃(p:c_)(ns:b? i_),xs=[.ref p]/\ax K H p (ns.map V.int)/\Q (.int ns.sum) H):=by subst hK;exact NK hc
theorem YA {tg l:G?}{tl:TE}(hK:X.K=K)(hl:PE X l tl):PI X tg l (Dy K tl):=by subst hK;exact kO hl
noncomputable def NO (K:e?)(g:s?->s?):R2:=λx y H Q=>∃a xs b n,x= .ref a/\y= .ref b/\ah K H a xs/\ah K H b []/\xs.length=n/\Q (.bl (g (p_ (n=0)))) H
theorem ou (hK:X.K=K)(hu:X.A.units+64<P?):bD X (M? .NotEq) (NO K not):=by
 subst hK;intro pins s U H x y v u Q I rx ry h;obtain⟨a,xs,b,n,rfl,rfl,ha,hb,rfl,q⟩:=h;cases rx;cases ry;obtain⟨is,vi,pi,_⟩:=I.list ha;obtain⟨js,vj,pj,_⟩:=I.list hb;cases vj;cases vi with
 |nil=>exact R_.lists (e:=λ_=>true) pi.isList pj.isList a_ (by lia) (λi hi=>v_ hi (abE _)) _ _ _ _ (xa0 (.bl _) H ⟨I,a_,q⟩)
 |cons r t=>exact R_.lists_lengths pi.isList pj.isList (by simp) (by lia) _ _ _ _ (xa0 (.bl _) H ⟨I,a_,q⟩)
theorem YB (hK:X.K=K)(hu:X.A.units+64<P?):bD X (M? .Eq) (NO K id):=by
 subst hK;intro pins s U H x y v u Q I rx ry h;obtain⟨a,xs,b,n,rfl,rfl,ha,hb,rfl,q⟩:=h;cases rx;cases ry;obtain⟨is,vi,pi,_⟩:=I.list ha;obtain⟨js,vj,pj,_⟩:=I.list hb;cases vj;cases vi with
 |nil=>exact abN (e:=λ_=>true) pi.isList pj.isList a_ (by lia) (λi hi=>v_ hi (abE _)) _ _ _ _ (xa0 (.bl _) H ⟨I,a_,q⟩)
 |cons r t=>exact aaI pi.isList pj.isList (by simp) (by lia) _ _ _ _ (xa0 (.bl _) H ⟨I,a_,q⟩)
end
noncomputable def yo:j?->b? (b? j?)
 |0=>[[]]
 |n+1=>yo n++(yo n).map (·++[n])
noncomputable def dF (led:s?)(js:b? j?):Ē:={mask:=if js.length<5 then 7 else 31,place:=js.toArray,dummies:=#[],finger:=0,led:=led,moves:=if js.length<5 then 0 else 1,plain:=true}
noncomputable def mz (led:s?)(js:b? j?)(n:j?):Ē:={mask:=if n<5 then 7 else 31,place:=js.toArray,dummies:=#[],finger:=0,led:=led,moves:=if n<5 then 0 else 1,plain:=true}
noncomputable def jS (j:j?)(js:b? j?):j?:=(js.filter (·<j)).length
noncomputable def vo (j:j?)(js:b? j?):b? j?:=js.take (jS j js)++j::js.drop (jS j js)
noncomputable def Fd (led:s?)(js:b? j?)(j:j?):s?:=
 p_ ((dF led js).freeSlot (j:i_)=some (j,false))&&p_ ((dF led js).put j=(mz led (vo j js) js.length,jS j js))&&p_ ((mz led (vo j js) js.length).fits (js.length+1)=true)&&(p_ ((vo j js).Pairwise (·<·))&&(vo j js).all (λj=>p_ (j<8)))&&p_ (jS j js<=js.length)&&p_ (if(mz led (vo j js) js.length).tooFull=true then(mz led (vo j js) js.length).relaid ((vo j js).map λ(k:j?)=>(k:i_)).toArray (Ē.grown (js.length+1))=some (dF led (vo j js),aes (js.length+1))/\coversAll (aes (js.length+1)) (js.length+1)=true/\(dF led (vo j js)).fits (js.length+1)=true else mz led (vo j js) js.length=dF led (vo j js))
theorem AX:∀(n:j?)(js:b? j?),js.Pairwise (·<·)->(∀j∈js,j<n)->js∈yo n
 |0,js,_,h=>by
  cases js with
  |nil=>exact t?
  |cons j _=>exact v_ (h j t?) (abE _)
 | n+1,js,up,h=>by
  unfold yo;rcases b?.eq_nil_or_concat js with rfl|⟨as,a,rfl⟩
  .exact X_ _ (AX n [] .nil λ_ z=>by cases z)
  rw[b?.concat_eq_append]at up h⊢;obtain⟨u1,_,u3⟩:=aaA.mp up;have lt:∀j∈as,j<a:=λj hj=>u3 j hj a t?;have ha:=h a (C_ _ t?);by_cases e:a=n
  .subst e;exact C_ _ (N_ (f:=(·++[a])) (AX a as u1 lt))
  .refine X_ _ (AX n _ up λj hj=>?_);rcases A_.mp hj with q|q
   .have:=lt j q;lia
   .rw[m?.mp q];lia
noncomputable def Fe (led:s?)(L:b? (b? j?)):s?:=L.all λjs=>(U_ 8).all λj=>js.contains j||Fd led js j
set_option maxRecDepth 100000 in
set_option maxHeartbeats 0 in
theorem NP:Fe true (yo 8) = true /\ Fe false (yo 8) = true:=by decide +kernel
theorem YC:∀led∈[true,false],∀js∈yo 8,∀j∈U_ 8,j∈js\/Fd led js j=true:=λled _ js cg j hj=>by
 have h:Fe led (yo 8)=true:=by cases led;exact NP.2;exact NP.1
 have:=Ó.mp (Ó.mp h js cg) j hj;rw[Ġ]at this;exact this.imp b?.contains_iff_mem.mp id
noncomputable def Ff (led:s?)(js:b? j?)(i:j?):s?:=p_ (Ē.below (dF led js).place (if i=0 then 0 else js.getD (i-1) 0+1)=i)
theorem AY:∀(n:j?)(js:b? j?),js∈yo n->js.length<=n/\js.Pairwise (·<·)/\∀j∈js,j<n
 |0,js,h=>by rw[yo,m?]at h;subst h;exact⟨s_ _,.nil,λ_ z=>by cases z⟩
 | n+1,js,h=>by
  unfold yo at h;rcases A_.mp h with h|h
  .obtain⟨a,b,c⟩:=AY n js h;exact⟨by lia,b,λj hj=>by have:=c j hj;lia⟩
  .obtain⟨as,ha,rfl⟩:=O_.mp h;obtain⟨a,b,c⟩:=AY n as ha;refine⟨by rw[r_];exact abf a,aaA.mpr ⟨b,Ų _ _,λx hx y hy=>by rw[m?.mp hy];exact c x hx⟩,λj hj=>?_⟩;rcases A_.mp hj with q|q
   .have:=c j q;lia
   .rw[m?.mp q];lia
noncomputable def Fg (led:s?)(L:b? (b? j?)):s?:=L.all λjs=>(dF led js).fits js.length&&(U_ (js.length+1)).all λi=>Ff led js i
set_option maxRecDepth 100000 in
set_option maxHeartbeats 0 in
theorem NQ:Fg true (yo 8) = true /\ Fg false (yo 8) = true:=by decide +kernel
theorem vZ:∀led∈[true,false],∀js∈yo 8,(dF led js).fits js.length=true/\js.length<=8/\js.Pairwise (·<·)/\(∀j∈js,j<8)/\∀i∈U_ (js.length+1),Ff led js i=true:=λled _ js cg=>by
 have h:Fg led (yo 8)=true:=by cases led;exact NQ.2;exact NQ.1
 have:=Ó.mp h js cg;rw[M_,Ó]at this;obtain⟨a,b,c⟩:=AY 8 js cg;exact⟨this.1,a,b,c,this.2⟩
theorem NR:∀j∈U_ 8,hashInt (j:i_)=(j:i_):=by decide+kernel
noncomputable def aU (tk:j?->Tok)(js:b? j?):b? (i_×b_):=js.map λ(j:j?)=>((j:i_),ù (j:i_) (tk j))
noncomputable def cX (w:z?):s?:=!w.params.followText "set-order"
noncomputable def mB (w:z?)(h:k_)(a:c_)(js:b? j?):Prop:=∃o tk ep,h.get? a=some o/\o.ExactSet/\o.data= .set (aU tk js).toArray ep (dF (cX w) js)
theorem sJ (b:s?):b∈[true,false]:=by cases b<;>simp
theorem qN (tk:j?->Tok)(js:b? j?):(aU tk js).toArray.size=js.length:=by simp[aU]
section
variable {prog:n_}{w:z?}{A:B?}{E:b_->d_->Prop}{s:d_}{a:c_}{js:b? j?}
theorem YD (tk:j?->Tok)(h:∀j∈js,j<8):ElemsOf (aau prog w) (aU tk js).toArray.toList:=by intro e he;simp only[aU,O_]at he;obtain⟨j,hj,rfl⟩:=he;exact⟨⟨(j:i_),abZ _ _ _ _,(NR j (ħ.mpr (h j hj))).symm⟩,a_⟩
theorem YE (tk:j?->Tok){j:j?}:((aU tk js).findIdx? (λe=>(aau prog w).is (j:i_) e.2)).isSome=p_ (j∈js):=by
 rw[b?.findIdx?_isSome,ġ];simp only[aU,b?.any_map,aep,Ï,Function.comp];constructor
 .rintro⟨k,hk,e⟩
  have:(k:i_)=j:=by simpa[aau,aeg]using e.symm
  have:j=k:=by lia
  rw[this];exact hk
 .intro hj;exact⟨j,hj,abZ _ _ _ _⟩
theorem YF (tk:j?->Tok){j:j?}{t:Tok}(hj:j∉js)(hp:jS j js<=js.length):(Ē.insertAt (aU tk js).toArray (jS j js) ((j:i_),ù (j:i_) t)).toList=aU (λk=>if k=j then t else tk k) (vo j js):=by
 have same:∀l:b? j?,(∀k∈l,k∈js)->aU (λk=>if k=j then t else tk k) l=aU tk l:=λl hl=>Ę λk hk=>by have:k≠j:=λz=>hj (z ▸ hl k hk);simp[this]
 rw[Ē.toList_insertAt];unfold vo;have e1:=same _ λk hk=>adq (i:=jS j js) hk;have e2:=same _ λk hk=>ads (i:=jS j js) hk;simp only[aU,H_,y?,b?.map_take,b?.map_drop,acW]at e1 e2⊢;rw[e1,e2]
theorem NS {j k:j?}:k∈vo j js↔k∈js\/k=j:=by
 unfold vo;rw[A_,B_];constructor
 .rintro(h|h|h)
  .exact .inl (adq h)
  .exact .inr h
  .exact .inl (ads h)
 .rintro(h|h)
  .rw[<-aal (jS j js) js,A_]at h;rcases h with h|h
   .exact .inl h
   .exact .inr (.inr h)
  .exact .inr (.inl h)
theorem NT {j:j?}(hp:jS j js<=js.length):(vo j js).length=js.length+1:=by unfold vo;rw[r_,E?,ø,aen];lia
theorem YG {j:j?}{t:Tok}{Q:s?->d_->Prop}(hS:mB w s.heap a js)(cg:js∈yo 8)(hj:j<8)(h:∀b h' wA,F_ a s.heap h'->wA∈yo 8->(∀k,k∈wA↔k∈js\/k=j)->mB w h' a wA->Q b {s with heap:=h'}):
  l_ (m_ prog w) A (setAddHashed a (.int (j:i_) t) (hashInt (j:i_))) Q E s:=by
 obtain⟨o,tk,ep,ho,hex,hd⟩:=id hS;obtain⟨hf,AZ,wB,aA,_⟩:=vZ _ (sJ (cX w)) js cg;have hz:=qN tk js;have dQ:(dF (cX w) js).fits (aU tk js).toArray.size=true:=by rw[hz];exact hf
 have NU:=YD (prog:=prog) (w:=w) tk aA;have YH:byScan (.int (j:i_) t) (aU tk js).toArray=true:=byScan_of (knd:=aau prog w) a_ (by rw[hz];unfold scanBound;lia) NU;have line:∀n:j?,n<=9->n<=k?:=λn hn=>by rw[Ĭ];lia
 refine L_ (d? (œ ho hd dQ ?_));dsimp only;rw[j_ YH];unfold setAddByScan;refine d? (d? (aaU (d? (wpAny_setScan_of (knd:=aau prog w) (k:=(j:i_)) (abZ _ _ _ _) ho hd dQ NU ?_))));have A0:=YE (prog:=prog) (w:=w) (js:=js) tk (j:=j);rw[aaO];cases hr:b?.findIdx? (λe=>(aau prog w).is (j:i_) e.2) (aU tk js)with
 |some i=>
  rw[hr]at A0;have hm:j∈js:=by simpa using A0.symm
  refine h_ (h_ ?_);have:=h false s.heap js (F_.refl a s.heap) cg (λk=>⟨.inl,λz=>z.elim id λz=>z ▸ hm⟩) hS;exact this
 | none=>
  rw[hr]at A0;have hm:j∉js:=by simpa using A0.symm
  have ag:=(YC _ (sJ (cX w)) js cg j (ħ.mpr hj)).resolve_left hm;simp only[Fd,M_,Ï]at ag;obtain⟨⟨⟨⟨⟨k1,k2⟩,k3⟩,k4⟩,k5⟩,k6⟩:=ag;have k4:=AX 8 _ k4.1 λj hj=>w? (Ó.mp k4.2 j hj);rw[NR j (ħ.mpr hj)];have hn:=layNew (dF (cX w) js) (aU tk js).toArray (j:i_) (ù (j:i_) t);have uJ:layNew (dF (cX w) js) (aU tk js).toArray (j:i_) (ù (j:i_) t)=((aU (λk=>if k=j then t else tk k) (vo j js)).toArray,mz (cX w) (vo j js) js.length,false,false):=by
   have e1:Ē.insertAt (aU tk js).toArray (jS j js) ((j:i_),ù (j:i_) t)=(aU (λk=>if k=j then t else tk k) (vo j js)).toArray:=by rw[<-YF tk hm k5]
   unfold layNew;rw[k1];dsimp only;rw[k2];dsimp only;rw[e1,qN,NT k5];unfold Ē.orStandIn;rw[k3];rfl
  rw[uJ];have YI:hashByValue 8 (ù (j:i_) t)=Ø true:=hashByValue_scannable 8 a_;have jT:=NT k5;have wC:=qN (λk=>if k=j then t else tk k) (vo j js);refine d? (h_ (d? (wpAny_of_eq YI ?_)));dsimp only;refine d? (ad6 ho hd ?_ (line _ (by rw[wC,jT];lia)));have iS:=R? (J_.putSet (aU (λk=>if k=j then t else tk k) (vo j js)).toArray (mz (cX w) (vo j js) js.length)) ho (by rw[acE _ _ hd];rfl);rw[acE _ _ hd]at iS;simp only[acW,s?.not_false,afF];by_cases hG:(mz (cX w) (vo j js) js.length).tooFull=true
  .rw[j_ hG]at k6;obtain⟨q1,q2,q3⟩:=k6;have YJ:relayAll (mz (cX w) (vo j js) js.length) (aU (λk=>if k=j then t else tk k) (vo j js)).toArray (Ē.grown (js.length+1))=((aU (λk=>if k=j then t else tk k) (vo j js)).toArray,dF (cX w) (vo j js),false):=by
    have e1:(aU (λk=>if k=j then t else tk k) (vo j js)).toArray.map (·.1)=((vo j js).map λ(k:j?)=>(k:i_)).toArray:=by rw[b?.map_toArray];simp[aU,Function.comp_def]
    have e2:(aes (js.length+1)).filterMap ((aU (λk=>if k=j then t else tk k) (vo j js)).toArray[·]?)=(aU (λk=>if k=j then t else tk k) (vo j js)).toArray:=by refine aeP.mp ?_;rw[C?.toList_filterMap,C?.toList_range,<-jT,<-wC];exact filterMap_getElem?_range _
    unfold relayAll;rw[e1,q1];dsimp only;rw[e2,wC,jT,q2,q3];rfl
   rw[j_ hG,wC,jT,YJ];dsimp only;refine d? (h_ (d? (ad6 iS a_ ?_ (line _ (by rw[wC,jT];lia)))));have fS:=R? (J_.putSet (aU (λk=>if k=j then t else tk k) (vo j js)).toArray (dF (cX w) (vo j js))) iS (by rw[acE _ _ a_];rfl);rw[acE _ _ a_]at fS;exact h_ (h_ (h true _ (vo j js) ((Ą _ a _).trans (Ą _ a _)) k4 (λk=>NS) (xa1 _ _ _ ⟨fS,hex,a_⟩)))
  .rw[f? hG]at k6;rw[f? hG];rw[k6]at iS⊢;exact h_ (h_ (h true _ (vo j js) (Ą _ a _) k4 (λk=>NS) (xa1 _ _ _ ⟨iS,hex,a_⟩)))
theorem NV:∀{vs:b? b_}{ns:b? i_},U? vs ns->vs.length=ns.length
 |_,_,.nil=>a_
 |_,_,.cons _ _ r=>by rw[E?,E?,NV r]
structure Fh (s:d_)(l it S:c_)(w:z?)(ns:b? i_)(i:j?)(s':d_):Prop where
 same:s'={s with heap:=s'.heap,toks:=s'.toks}
 it:s'.heap.IsListIter it l i
 old:∀b o,s.heap.get? b=some o->s'.heap.get? b=some o
 le:i<=ns.length
 set:∃js,js∈yo 8/\(∀k:j?,k∈js↔(k:i_)∈ns.take i)/\mB w s'.heap S js
theorem mB.keep {h h':k_}(x:mB w h a js)(k:∀o,h.get? a=some o->h'.get? a=some o):mB w h' a js:=by obtain⟨o,tk,ep,e,r⟩:=x;exact(xa1 o tk ep ⟨k o e,r⟩)
theorem YK {l it S:c_}{vs:b? b_}{ns:b? i_}{R:ş->d_->Prop}(hh:A.handled=none)(hl:s.heap.IsList l vs.toArray)(hI:U? vs ns)(h6:∀z∈ns,0<=z/\z<8)(hit:∀o,s.heap.get? it≠some o)(hS:∀o,s.heap.get? S≠some o)(Fi:it≠S)(hR:∀h' tk js,js∈yo 8->(∀k:j?,k∈js↔(k:i_)∈ns)->mB w h' S js->(∀b o,s.heap.get? b=some o->h'.get? b=some o)->R (.ok (.ret .none)) {s with heap:=h',toks:=tk}){s1:d_}(h1:Fh s l it S w ns 0 s1):
  Ð (m_ prog w) A (.builtin "set.update.loop" ⟨[.ref S,.ref it],[]⟩) R s1:=by
 have uR:vs.length=ns.length:=NV hI;refine ac2 (acu F.plain_set_update_loop _) (λn s'=>∃i,n=ns.length-i/\Fh s l it S w ns i s') (λn s' ⟨i,en,M⟩=>?_) ns.length ⟨0,by simp,h1⟩;rw[B?.under_plainId F.plain_set_update_loop,WT F.entry_set_update_loop];have Ao:s'.heap.IsList l vs.toArray:=by obtain⟨o,ho,r⟩:=hl;exact⟨o,M.old l o ho,r⟩
 obtain⟨js,cg,jU,wD⟩:=M.set;show l_ _ A.in1 (Ŵ (.ref it) >>= _) _ _ s';by_cases hi:i<ns.length
 .obtain⟨v,hv⟩:∃v,vs[i]?=some v:=⟨vs[i]'(by lia),by simp[uR,hi]⟩;obtain⟨t,ev⟩:=hI.int_at i v hv;obtain⟨z,hz⟩:∃z,ns[i]?=some z:=⟨ns[i],by simp[hi]⟩;have YL:z∈ns:=r? hz;obtain⟨z0,z6⟩:=h6 z YL;obtain⟨j,rfl⟩:=i_.eq_ofNat_of_zero_le z0;rw[J?,hz]at ev;have YM:v=ù (j:i_) t:=ev;subst YM;refine d? (acX M.it Ao (by simpa using hv) λh2 i2 sb=>?_);have Fj:∀b o,s.heap.get? b=some o->h2.get? b=some o:=λb o e=>(sb.2 b (λq=>hit o (by rw[<-q];exact e))).trans (M.old b o e);show l_ _ A.in1 (Ĩ [ù (j:i_) t] (setAdd S (.int (j:i_) t)) >>= _) _ _ _;refine d? (L_ (L_ (d? ((aau prog w).pyHash (k:=(j:i_)) (abZ _ _ _ _) ?_))));refine YG (js:=js) (wD.keep λo e=>(sb.2 S (Í Fi)).trans e) cg (by lia) λb h3 wA NW Fl Ax YN=>?_;refine h_ ⟨a_,ns.length-(i+1),by lia,i+1,a_,?_,i2.at λo q=>(NW.2 it Fi).trans q,λb o e=>(NW.2 b (λq=>hS o (by rw[<-q];exact e))).trans (Fj b o e),hi,wA,Fl,λk=>?_,YN⟩
  .rw[M.same]
  .rw[Ax k,jU k,b?.take_succ,hz];rw[A_];simp only[f_.toList_some,m?,i_.ofNat_inj]
 .have ei:i=ns.length:=by have:=M.le;lia
  subst ei;refine d? (adb hh M.it Ao (by simp;lia) λh2 eb=>?_);refine h_ ?_;have:=hR h2 s'.toks js cg (λk=>by rw[jU k,Ò]) (wD.keep λo e=>eb S o (Í Fi) e) (λb o e=>eb b o (λq=>hit o (by rw[<-q];exact e)) (M.old b o e));rw[M.same];exact this
noncomputable abbrev mC (w:z?):J_:={cls:=.type "set",dict:=none,data:=.set #[] 0 (dF (cX w) [])}
theorem YO {v:b_}{R:ş->d_->Prop}(h:R (.ok (.ret (.ref s.heap.objs.size))) {s with heap:=s.heap.push (mC w)}):Ð (m_ prog w) A (.call (.builtin "set.__new__") ⟨[.type "set",v],[]⟩) R s:=by
 refine ó F.plain_set_new F.entry_set_new (wpAny_of_eq (F.newCall_set_1 v) ?_);unfold Builtin.«set.__new__» V_.Frozenset.newClass;have i1:=sub_set_self;obtain⟨hp,g,d,tk,os⟩:=s;wp_walk;refine ĥ (h_ ?_);exact î (h_ h)
set_option maxHeartbeats 4000000 in
theorem YQ {l:c_} {vs:b? b_} {ns:b? i_} {Q:b_ -> d_ -> Prop} (hh:A.handled = none) (hl:s.heap.IsList l vs.toArray) (hI:U? vs ns) (h6 : ∀ z ∈ ns,0 <= z /\ z < 8)
  (h : ∀ h' tk js,js ∈ yo 8 -> (∀ k:j?,k ∈ js ↔ (k:i_) ∈ ns) -> mB w h' s.heap.objs.size js -> (∀ b o,s.heap.get? b = some o -> h'.get? b = some o) -> Q (.ref s.heap.objs.size) { s with heap:=h',toks:=tk }) :
  l_ (m_ prog w) A (Ħ (.type "set") [.ref l]) Q E s:=by
 have cs:=F.called_set
 obtain ⟨c,tl,m1⟩:=cs.mro
 have m2:=cs.made
 have m3:=cs.sub
 have m4:=cs.notType
 have m5:=cs.canCreate
 have m6:=F.typeCall_set_1 (.ref l)
 refine Ĥ (aeS ?_)
 refine h_ ⟨Ĳ _ (by decide +kernel),Ž F.entry_type_call ?_⟩
 rw [B?.under_plain (weight_type_call_type "set" [.ref l] []) a_]
 repeat (any_goals (first | assumption | wp_step))
 refine YO ?_
 have NX:(s.heap.push (mC w)).get? s.heap.objs.size = some (mC w):=x? _ a_
 have hT:d_.TypeIs { s with heap:=s.heap.push (mC w) } (.ref s.heap.objs.size) "set" := ⟨_,NX,a_⟩
 have m7:=cs.init.lookup
 have m8:=cs.init.bind (.ref s.heap.objs.size)
 dsimp only
 repeat (any_goals (first | assumption | wp_step))
 refine ó cs.init.plain F.entry_set_init (check_set_init_1 hT ?_)
 obtain ⟨ol,YR,uO,nl,hdl⟩:=id hl
 have YS:(s.heap.push (mC w)).IsList l vs.toArray:=hl.push _
 have YT:d_.TypeIs { s with heap:=s.heap.push (mC w) } (.ref l) "list" := ⟨ol,g_ _ YR,uO⟩
 have n1:=F.sub_list_set
 have n2:=F.sub_list_frozenset
 unfold Builtin.«set.__init__» noKeywords V_.Frozenset.updateFrom
 generalize YU:abX = PI
 wp_walk using Ļ YT
 subst YU
 have hsz:(s.heap.push (mC w)).objs.size = s.heap.objs.size + 1:=ď ..
 refine Ŕ YS (d? (wpAny_runValue ?_))
 show Ð (m_ prog w) A.in1.in1 (.builtin "set.update.loop" ⟨[.ref s.heap.objs.size,.ref (s.heap.push (mC w)).objs.size],[]⟩) _ _
 rw [hsz]
 have fr : ∀ {b:c_},s.heap.objs.size <= b -> ∀ o,s.heap.get? b ≠ some o:=λ{b} z o e=>v_ (u? e) (j?.not_lt.mpr z)
 have Uq:Fh s l (s.heap.objs.size + 1) s.heap.objs.size w ns 0 { s with heap:=(s.heap.push (mC w)).push { cls:=.type "list_iterator",data:=.fields #[.ref l,.int 0 0] } }:=
  ⟨a_,⟨_,hsz ▸ x? _ a_,a_,a_⟩,λb o e=>g_ _ (g_ _ e),W_ _,[],by decide,λk=>by simp,(xa1 _ (λ_=>0) 0 ⟨g_ _ NX,⟨a_,a_,a_⟩,a_⟩)⟩
 refine YK (A:=A.in1.in1) (prog:=prog) (s:=s) (show A.in1.in1.handled = none from hh) hl hI h6 (fr (ŷ _)) (fr (s_ _)) (afB (Ė _)) (λh' tk js a1 a2 a3 a4=>?_) Uq
 exact h_ (h_ (h_ (h_ (h h' tk js a1 a2 a3 a4))))
theorem A1:Slot "set_iterator" "__next__" "set_iterator.__next__":=
 .of (owner:="set_iterator") (n:="__next__") (by rw[aeQ,adg];kernel_rfl) (by decide+kernel) (by decide+kernel) (by decide+kernel) (by first|exact .inl (by decide+kernel)|exact .inr (by decide+kernel)) (by rw[afm];kernel_rfl)
theorem YV:ab2 table "set_iterator.__next__"=some Builtin.«set_iterator.__next__»:=entryFor_of_tree (by kernel_rfl)
theorem NY:Manifest.owners.lookup (í.ofList ['r','o','t','a','r','e','t','i','_','t','e','s'].reverse)=some Manifest.sig_set_iterator:=by kernel_rfl
theorem YW (a:b_):argsOk "set_iterator.__next__" ⟨[a],[]⟩:=by unfold argsOk;rw[afI (id:="set_iterator.__next__") (n:=['_','_','t','x','e','n','_','_']) (o:=['r','o','t','a','r','e','t','i','_','t','e','s']) (by kernel_rfl) NY];kernel_rfl
theorem YX:ab2 table "set.__iter__"=some Builtin.«frozenset.__iter__»:=afq (id':="frozenset.__iter__") (by kernel_rfl) a_ (by decide+kernel) (by kernel_rfl)
noncomputable def iG (w:z?)(a:c_)(ep:j?)(es:C? (i_×b_)):C? (i_×b_):=if w.params.followText "set-order"=true then Ũ (w.params.setOrder a ep) es else es
noncomputable def sL (w:z?)(h:k_)(it a:c_)(js:b? j?)(ep i:j?):Prop:=∃o,∃slot:j?,h.get? it=some o/\o.cls= .type "set_iterator"/\o.data= .fields #[.int (slot:i_) 0,.int i 0,.ref a,.int js.length 0,.int ep 0]/\(w.params.followText "set-order"=false->slot=if i=0 then 0 else js.getD (i-1) 0+1)
noncomputable def ox (w:z?)(h:k_)(a:c_)(js:b? j?)(tk:j?->Tok)(ep:j?):Prop:=∃o,h.get? a=some o/\o.ExactSet/\o.data= .set (aU tk js).toArray ep (dF (cX w) js)
theorem YY {tk:j?->Tok}{ep:j?}{Q:b_->d_->Prop}(hS:ox w s.heap a js tk ep)(cg:js∈yo 8)(hQ:Q (.ref s.heap.objs.size) {s with heap:=s.heap.push {cls:=.type "set_iterator",data:=.fields #[.int 0 0,.int 0 0,.ref a,.int js.length 0,.int ep 0]}}):l_ (m_ prog w) A (abX (.ref a)) Q E s:=by
 obtain⟨o,ho,hex,hd⟩:=hS;obtain⟨hf,AZ,wB,aA,_⟩:=vZ _ (sJ (cX w)) js cg;have hz:=qN tk js;have dQ:(dF (cX w) js).fits (aU tk js).toArray.size=true:=by rw[hz];exact hf
 have hT:s.TypeIs (.ref a) "set":=⟨o,ho,hex.1⟩;have run:l_ (m_ prog w) A.in1 (Builtin.«frozenset.__iter__» ⟨[.ref a],[]⟩) (λfin s'=>fin= .done (.ret (.ref s.heap.objs.size))/\s'={s with heap:=s.heap.push {cls:=.type "set_iterator",data:=.fields #[.int 0 0,.int 0 0,.ref a,.int js.length 0,.int ep 0]}}) E s:=by
  unfold Builtin.«frozenset.__iter__» V_.Frozenset.sizeOf setDrawn adR;wp_walk using adE ho hd dQ,œ ho hd dQ,ad7 ho hd dQ;refine ĥ (h_ (h_ ?_));refine è (λz=>?_) λ_=>?_
  .rw[M_]at z;exact v_ (show false=true from z.2) (by decide)
  .wp_walk using ad7 ho hd dQ;rw[hz];exact⟨a_,a_⟩
 refine aa3 hT aej (W' aej hT YX (F' run (λf s' z=>?_) λ_ _ z=>z) (F.args_set_iter_1 _));obtain⟨rfl,rfl⟩:=z;exact⟨_,a_,xa0 ("set_iterator") _ ⟨⟨_,x? _ a_,a_⟩,A1.lookup,hQ⟩⟩
theorem YZ {tk:j?->Tok}{slot ep i:j?}{Q:f_ (b_×j?)->d_->Prop}(hS:ox w s.heap a js tk ep)(cg:js∈yo 8)(hi:i<=js.length)(qA:w.params.followText "set-order"=false->slot=if i=0 then 0 else js.getD (i-1) 0+1)(h:Q ((iG w a ep (aU tk js).toArray)[i]?.map λe=>(e.2,if w.params.followText "set-order"=true then slot else js.getD i 0+1)) s):l_ (m_ prog w) A (setNext a slot i ep) Q E s:=by
 obtain⟨o,ho,hex,hd⟩:=hS;obtain⟨hf,AZ,wB,aA,Fm⟩:=vZ _ (sJ (cX w)) js cg;have hz:=qN tk js;have dQ:(dF (cX w) js).fits (aU tk js).toArray.size=true:=by rw[hz];exact hf
 unfold setNext adR;refine d? (œ ho hd dQ (d? (d? (ĥ (h_ ?_)))));dsimp only;refine è (λhb=>?_) λhb=>?_
 .have iz:w.params.followText "set-order"=true:=hb;refine è (λz=>v_ z (by simp)) λ_=>?_;refine d? ?_;unfold setWalk adR;refine d? (œ ho hd dQ (d? (d? (ĥ (h_ ?_)))));dsimp only;refine è (λ_=>?_) λz=>v_ hb z;refine d? (ĥ (h_ (h_ ?_)));rw[j_ iz]at h;unfold iG at h;rw[j_ iz]at h;exact h
 .have iz:w.params.followText "set-order"=false:=by
   cases z:w.params.followText "set-order"with
   |false=>rfl
   |true=>exact v_ z hb
  have Fo:cX w=true:=by unfold cX;rw[iz];rfl
  refine è (λz=>v_ (show false=true from z) (by decide)) λ_=>?_;rw[Fo]at Fm⊢;refine d? ?_;show l_ _ _ (Ø ()) _ _ _;refine h_ (h_ ?_);have e1:=Fm i (ħ.mpr (by lia));simp only[Ff,Ï]at e1;rw[qA iz,e1];have e2:iG w a ep (aU tk js).toArray=(aU tk js).toArray:=by unfold iG;rw[iz];rfl
  rw[e2]at h;simp only[iz,Ĝ,abU]at h;by_cases qO:i<js.length
  .have e3:(dF true js).place[i]?=some js[i]:=by simp[dF,qO]
   have e4:(aU tk js).toArray[i]?=some ((js[i]:i_),ù (js[i]:i_) (tk js[i])):=by simp[aU,qO]
   rw[e4]at h⊢;rw[e3];have e5:js.getD i 0=js[i]:=by simp[J?,qO]
   rw[e5]at h;exact h
  .have e4:(aU tk js).toArray[i]?=none:=by simp[aU];lia
   rw[e4]at h⊢;exact h
end
theorem NZ {α:Type}(next:j?->j?):∀(fuel k:j?)(left:b? α)(out:C? α),left.length=fuel->(Ũ.go next fuel k left out).toList.Perm (out.toList++left)
 |0,k,left,out,h=>by have:left=[]:=acy.mp h;subst this;simp[Ũ.go]
 |fuel+1,k,left,out,h=>by
  have hp:0<left.length:=by lia
  have aA:next k%left.length<left.length:=j?.mod_lt _ hp;have he:left[next k%left.length]?=some left[next k%left.length]:=by simp[aA]
  unfold Ũ.go;rw[he];dsimp only;refine(NZ next fuel (k+1) _ _ (by rw[b?.length_eraseIdx_of_lt aA];lia)).trans ?_;rw[C?.toList_push,abp];refine b?.Perm.append_left _ ?_;rw[b?.eraseIdx_eq_take_drop_succ];have e:=aal (next k%left.length) left;rw[aci aA]at e;refine(b?.perm_middle (a:=left[next k%left.length]) (l₁:=left.take (next k%left.length)) (l₂:=left.drop (next k%left.length+1))).symm.trans ?_;rw[e]
theorem N0 (w:z?)(a:c_)(ep:j?)(es:C? (i_×b_)):(iG w a ep es).toList.Perm es.toList:=by
 unfold iG;split
 .have:=NZ (w.params.setOrder a ep) es.size 0 es.toList #[] (by simp);simpa[Ũ]using this
 .exact adD _
section
variable {prog:n_}{w:z?}{A:B?}{E:b_->d_->Prop}{s:d_}{a:c_}{js:b? j?}
theorem N1 (tk:j?->Tok)(ep:j?):(iG w a ep (aU tk js).toArray).size=js.length:=by have:=(N0 w a ep (aU tk js).toArray).length_eq;rw[Ú,Ú,qN]at this;exact this
theorem N6 {tk:j?->Tok}{it:c_}{ep i:j?}{Q:f_ b_->d_->Prop}(hit:sL w s.heap it a js ep i)(hS:ox w s.heap a js tk ep)(cg:js∈yo 8)(hi:i<=js.length)(hQ:i<js.length->∀v h',(iG w a ep (aU tk js).toArray)[i]?.map (·.2)=some v->sL w h' it a js ep (i+1)->F_ it s.heap h'->Q (some v) {s with heap:=h'})(hE:i=js.length->A.handled=none/\∀h',k_.ExtBut it s.heap h'->Q none {s with heap:=h'}):l_ (m_ prog w) A (Ŵ (.ref it)) Q E s:=by
  obtain⟨oi,slot,wF,N7,wG,qA⟩:=hit;obtain⟨o,ho,hex,hd⟩:=hS;obtain⟨hf,AZ,wB,aA,Fm⟩:=vZ _ (sJ (cX w)) js cg;have hz:=qN tk js;have dQ:(dF (cX w) js).fits (aU tk js).toArray.size=true:=by rw[hz];exact hf
  have hT:s.TypeIs (.ref it) "set_iterator":=⟨oi,wF,N7⟩;unfold Ŵ;refine d? (acs (Ŧ hT A1 (W' A1 hT YV ?_ (YW _))));unfold Builtin.«set_iterator.__next__»;generalize hN:setNext=SN;wp_walk using abW wF wG,adE ho hd dQ;subst hN;rw[Ù,Ù,Ù];refine YZ (tk:=tk) ⟨o,ho,hex,hd⟩ cg hi qA ?_;have Fp:=N1 (w:=w) (a:=a) (js:=js) tk ep;rcases j?.lt_or_eq_of_le hi with hi|rfl
  . obtain⟨e,he⟩:∃e,(iG w a ep (aU tk js).toArray)[i]?=some e:=⟨(iG w a ep (aU tk js).toArray)[i]'(by lia),by simp[Fp,hi]⟩
    rw[he];have iS:=R? (ñ (·.setIfInBounds 0 (ś ((if w.params.followText "set-order"=true then slot else js.getD i 0+1:j?):i_)))) wF (ž (é wG _));have og:=é wG (·.setIfInBounds 0 (ś ((if w.params.followText "set-order"=true then slot else js.getD i 0+1:j?):i_)));have fS:=R? (ñ (·.setIfInBounds 1 (ś ((i:i_)+1)))) iS (ž (é og _));have hd2:=é og (·.setIfInBounds 1 (ś ((i:i_)+1)));refine d? (abV wF wG (by simp) ?_);refine d? (abV iS og (by simp) ?_);refine h_ ⟨_,a_,h_ (hQ hi _ _ (by rw[he];rfl) (xa0 _ (if w.params.followText "set-order"=true then slot else js.getD i 0+1) ⟨fS,?_,?_,λz=>?_⟩) ((Ą ..).trans (Ą ..)))⟩
    . rw[aaZ,aaZ];exact N7
    . rw[hd2];simp[ś]
    . rw[z];simp
  . obtain⟨hh,hQ⟩:=hE a_
    have he:(iG w a ep (aU tk js).toArray)[js.length]?=none:=by simp[Fp]
    rw[he];refine d? (abV wF wG (by simp) ?_);unfold newExc raiseNew newTuple afp;wp_walk using î;all_goals first
      | (show l_ _ _ (isSubtype (.type "StopIteration") (.type "StopIteration")) _ _ _
         rw[afn];exact h_ (h_ (hQ _ (((Ą ..).extBut.push _).push _))))
      |(unfold e_;size_fits)
      |size_fits
theorem Y2 {Q:s?->d_->Prop}(hT:s.TypeIs (.ref a) "set")(h:Q false s):l_ (m_ prog w) A (aby (.ref a)) Q E s:=by
 have i2:splitId "set.__len__"=some ("set","__len__"):=by decide+kernel
 unfold aby;refine d? (ĉ hT F.slot_set_len.lookup ?_);dsimp only;rw[i2];refine d? (ť (T:="set") (b:=true) hT sub_set_self (è (λz=>v_ z (by decide)) λ_=>?_));refine è (λ_=>d? (Ļ hT (h_ h))) λz=>v_ (by decide+kernel) z
theorem ox.keep {tk:j?->Tok}{ep:j?}{h h':k_}(x:ox w h a js tk ep)(k:∀o,h.get? a=some o->h'.get? a=some o):ox w h' a js tk ep:=by obtain⟨o,e,r⟩:=x;exact⟨o,k o e,r⟩
theorem sL.keep {it:c_}{ep i:j?}{h h':k_}(x:sL w h it a js ep i)(k:∀o,h.get? it=some o->h'.get? it=some o):sL w h' it a js ep i:=by obtain⟨o,sl,e,r⟩:=x;exact(xa0 o sl ⟨k o e,r⟩)
theorem N8:Slot "set_iterator" "__iter__" "set_iterator.__iter__":=
 .of (owner:="set_iterator") (n:="__iter__") (by rw[aeQ,adg];kernel_rfl) (by decide+kernel) (by decide+kernel) (by decide+kernel) (by first|exact .inl (by decide+kernel)|exact .inr (by decide+kernel)) (by rw[afm];kernel_rfl)
theorem Y3:ab2 table "set_iterator.__iter__"=some Builtin.«dict_keyiterator.__iter__»:=afq (id':="dict_keyiterator.__iter__") (by kernel_rfl) a_ (by decide+kernel) (by kernel_rfl)
theorem Y4 (a:b_):argsOk "set_iterator.__iter__" ⟨[a],[]⟩:=by unfold argsOk;rw[afI (id:="set_iterator.__iter__") (n:=['_','_','r','e','t','i','_','_']) (o:=['r','o','t','a','r','e','t','i','_','t','e','s']) (by kernel_rfl) NY];kernel_rfl
theorem Y5 {it:c_}{Q:b_->d_->Prop}(hT:s.TypeIs (.ref it) "set_iterator")(hQ:Q (.ref it) s):l_ (m_ prog w) A (abX (.ref it)) Q E s:=by refine aa3 hT N8 (W' N8 hT Y3 ?_ (Y4 _));unfold Builtin.«dict_keyiterator.__iter__»;wp_walk;exact⟨_,a_,xa0 ("set_iterator") _ ⟨hT,A1.lookup,hQ⟩⟩
theorem Y6 {tk:j?->Tok}{ep:j?}(cg:js∈yo 8):PySem.W.KdlSrc prog w "set" a a js.length (λi v=>(iG w a ep (aU tk js).toArray)[i]?.map (·.2)=some v) (λh=>ox w h a js tk ep) where
 type:=λ_ ⟨o,ho,hex,_⟩=>⟨o,ho,hex.1⟩
 there:=λ_ ⟨o,ho,_⟩=>⟨u? ho,u? ho⟩
 keep:=λ_ _ hm hk=>hm.keep λo e=>hk a (.inl a_) o e
 notList:=by decide
 notTuple:=by decide
 hint:=λ_ _ _ _ ⟨o,ho,hex,_⟩ hq=>Y2 ⟨o,ho,hex.1⟩ hq
 iter:=λA s hh hm=>(xa0 _ (λi h=>sL w h s.heap.objs.size a js ep i/\ox w h a js tk ep) ⟨λ_ _ hq=>YY hm cg hq,by
  obtain⟨o,ho,hr⟩:=id hm;have ne:a≠s.heap.objs.size:=N? (u? ho);refine⟨λb hb=>B_.mpr (.inl (m?.mp hb)),λi h h' ⟨x,y⟩ k=>⟨x.keep λo e=>k _ (by simp) o e,y.keep λo e=>k _ (by simp) o e⟩,λi s' Q E hi ⟨x,y⟩ hQ=>?_,λs' Q E ⟨x,y⟩ hQ=>?_,λi s' Q E ⟨x,y⟩ hQ=>?_⟩
  .refine N6 x y cg (Ć hi) (λ_ v h' hv x' sb=>?_) λz=>v_ z (N? hi);exact hQ v h' s'.toks hv ⟨x',y.keep λo e=>(sb.2 a ne).trans e⟩ λb o hb e=>(sb.2 b (λz=>hb (by simp[z]))).trans e
  .exact N6 x y cg (s_ _) (λz=>v_ z (ý _)) λ_=>⟨hh,λh' eb=>hQ h' s'.toks λb o hb e=>eb b o (λz=>hb (by simp[z])) e⟩
  .obtain⟨o,sl,e,c,_⟩:=x;exact Y5 ⟨o,e,c⟩ hQ,⟨(xa0 _ 0 ⟨x? _ a_,a_,a_,λ_=>by simp⟩),hm.keep λo e=>g_ _ e⟩⟩)
end
noncomputable def qP (w:z?)(a:c_)(js:b? j?):HO:=.ext λh=>mB w h a js
section
variable {X:Cx}
theorem Y7 {js:b? j?}(up:js.Pairwise (·<·)){ns:b? i_}(hp:ns.Perm (js.map λ(j:j?)=>(j:i_)))(hs:ns.Pairwise (·<=·)):ns=js.map λ(j:j?)=>(j:i_):=by
 have Y8:(js.map λ(j:j?)=>(j:i_)).Pairwise (·<=·):=by rw[adY];exact up.imp λh=>by lia
 exact ō (λa b _ _ h1 h2=>aeq h1 h2) hs Y8 hp
theorem Za {tk:j?->Tok}{l:b? j?}{vs:b? b_}(h:vs.Perm (l.map λ(j:j?)=>ù (j:i_) (tk j))):∃ns,U? vs ns/\ns.Perm (l.map λ(j:j?)=>(j:i_)):=by
 have all:∀v∈vs,∃(z:i_)(t:Tok),v=ù z t:=λv hv=>by obtain⟨j,_,rfl⟩:=O_.mp (h.mem_iff.mp hv);exact(xa0 _ _ a_)
 let f:b_->i_:=λv=>match v with| .int z _=>z|_=>0;refine⟨vs.map f,?_,?_⟩
 .clear h;induction vs with
  |nil=>exact .nil
  |cons v r ih=>obtain⟨z,t,rfl⟩:=all v (t? ..);exact .cons z t (ih λu hu=>all u (u_ _ hu))
 .have:=h.map f;rw[Ÿ]at this;exact this
theorem Zb (hc:X.calm=true):cD X (.type "set") (λxs H Q=>∃(p:c_)(ns:b? i_),xs=[.ref p]/\ah X.K H p (ns.map V.int)/\(∀z∈ns,0<=z/\z<8)/\∀(q:c_)(js:b? j?),H q=none->js∈yo 8->(∀k:j?,k∈js↔(k:i_)∈ns)->Q (.ref q) (upd H q (qP X.w q js))):=by
 intro pins s U H xs us Q I r h;obtain⟨p,ns,rfl,hq,h6,q⟩:=h;obtain⟨u,rfl,rx⟩:=vals1 r;cases rx;obtain⟨its,r',pl,hz⟩:=I.list hq;refine YQ (I.ok.hd hc) pl.isList (intsAre_of r') h6 λh' tk js a1 a2 a3 a4=>?_;have hn:H s.heap.objs.size=none:=I.fresh;obtain⟨o,_,_,ho,_⟩:=id a3;exact(xa0 (.ref s.heap.objs.size) _ ⟨I.laid (a:=s.heap.objs.size) (o:=qP X.w s.heap.objs.size js) (t':=tk) a4 (s_ _) ⟨a3,⟨o,ho⟩,λh1 h2 x k=>x.keep k⟩,a_,q _ js hn a1 a2⟩)
theorem Zc (hc:X.calm=true):cD X (.builtin "sorted") (λxs H Q=>∃(p:c_)(js:b? j?),xs=[.ref p]/\H p=some (qP X.w p js)/\js∈yo 8/\∀q:c_,H q=none->Q (.ref q) (upd H q (.lst (js.map λ(j:j?)=>V.int j)))):=by
 intro pins s U H xs us Q I r h;obtain⟨p,js,rfl,hq,cg,q⟩:=h;obtain⟨u,rfl,rx⟩:=vals1 r;cases rx;obtain⟨hS,_,_⟩:=I.ag p _ hq;obtain⟨o,tk,ep,ho,hex,hd⟩:=hS;obtain⟨hf,AZ,wB,aA,_⟩:=vZ _ (sJ (cX X.w)) js cg;have line:js.length<=k?:=by rw[Ĭ];lia
 refine abn kind_sorted plain_sorted entry_sorted (args_sorted1 _) ?_;show l_ (m_ X.prog X.w) X.A.in1 (do ab4 "sorted" 1 1 _;_) _ _ s;refine d? (m:=ab4 "sorted" 1 1 _) (h_ (d? (PySem.W.kdu_collect (A:=X.A.in1) (Y6 (tk:=tk) (ep:=ep) cg) (I.ok.hd hc) ⟨o,ho,hex,hd⟩ line λh' iT acc hk fg=>?_)));have hl:acc.toList.length=js.length:=by rw[Ú];exact fg.1
 refine d? (acr ?_ (by rw[hl];exact line));have Fp:=N1 (w:=X.w) (a:=p) (js:=js) tk ep;have Fq:acc.toList=(iG X.w p ep (aU tk js).toArray).toList.map (·.2):=by
  refine ad0 λi=>?_;rw[J',ĺ,ĺ];cases e:acc[i]? with
  |some v=>rw[fg.2 i v e]
  |none=>
   have:js.length<=i:=by rw[<-fg.1];exact C?.getElem?_eq_none_iff.mp e
   rw[ada (by lia)];rfl
 have sE:(h'.push (ö "list" acc.toList.toArray 0)).get? h'.objs.size=some (ö "list" acc.toList.toArray 0):=x? _ a_;have hI:∃ns,U? acc.toList ns/\ns.Perm (js.map λ(j:j?)=>(j:i_)):=by have N9:=(N0 X.w p ep (aU tk js).toArray).map (·.2);rw[<-Fq,aaO]at N9;exact Za (l:=js) (tk:=tk) (by simpa[aU,Function.comp_def]using N9)
 obtain⟨ns,hI,wH⟩:=hI;refine d? (L_ (W' afx ⟨_,sE,a_⟩ afd (list_sort_tree sE hI (by rw[hl];lia) λout gS a1 a2 a3=>⟨_,a_,?_⟩) (afy _)));have I1:Inv X pins U H {s with heap:=h',toks:=iT}:=I.kept hk;obtain⟨e,he⟩:=sortedHeap_at (out:=out) sE;have old:∀b o,h'.get? b=some o->(adX (h'.push (ö "list" acc.toList.toArray 0)) h'.objs.size acc.toList out).get? b=some o:=λb o z=>(sortedHeap_old (N? (u? z)) (u? (g_ _ z))).trans (g_ _ z);have hn:H h'.objs.size=none:=I1.ag.fresh (s_ _);have e3:=Y7 wB (a2.trans wH) a3;refine h_ ⟨_,a_,xa0 (.ref h'.objs.size) _ ⟨I1.laid (a:=h'.objs.size) (o:=.lst (js.map λ(j:j?)=>V.int j)) (t':=iT) old (s_ _) ⟨?_,xa0 out.toList e ⟨?_,he⟩⟩,a_,q _ hn⟩⟩
 .rw[i?];exact line
 .have:=EH a1;rw[e3,Ÿ]at this;exact this
end
end L2
set_option Elab.async false
set_option linter.all false
set_option compiler.extract_closed false
set_option maxRecDepth 100000
namespace M
structure O where
 p:i_
 n:i_
 g:i_
 m:i_
 deriving DecidableEq
noncomputable def vp (q:i_)(o:O):s?:=p_ (0<=o.p/\o.p<=q-1/\0<=o.g/\o.g<=q-1/\o.p≠o.g/\0<=o.n/\o.n<=99/\1<=o.m/\o.m<=1000)
theorem qQ {q:i_}{o:O}:vp q o=true↔(0<=o.p/\o.p<=q-1/\0<=o.g/\o.g<=q-1/\o.p≠o.g/\0<=o.n/\o.n<=99/\1<=o.m/\o.m<=1000):=by unfold vp;rw[aaR]
end M
namespace M
open PySem L2
theorem cz:0<=k?:=by decide
theorem iU:1<=k?:=by decide
theorem oy:2<=k?:=by decide
theorem oz:3<=k?:=by decide
theorem Oa:4<=k?:=by decide
theorem Zd:5<=k?:=by decide
theorem Ze:6<=k?:=by decide
theorem Zf:7<=k?:=by decide
theorem Zg:9<=k?:=by decide
theorem Ob:11<=k?:=by decide
theorem ye {X:Cx}{e0 e1:G?}{t0 t1:TE}(h0:PE X e0 t0)(h1:PE X e1 t1)(s0:e_ (isStar e0=false) aP1)(s1:e_ (isStar e1=false) aP1):PA X [e0,e1] (wc t0 (wc t1 ma)):=by refine jc h0 ?_ s0;refine jc h1 ?_ s1;exact jf
theorem cA {X:Cx}{e0 e1 e2:G?}{t0 t1 t2:TE}(h0:PE X e0 t0)(h1:PE X e1 t1)(h2:PE X e2 t2)(s0:e_ (isStar e0=false) aP1)(s1:e_ (isStar e1=false) aP1)(s2:e_ (isStar e2=false) aP1):PA X [e0,e1,e2] (wc t0 (wc t1 (wc t2 ma))):=by refine jc h0 ?_ s0;refine jc h1 ?_ s1;refine jc h2 ?_ s2;exact jf
theorem Oc {X:Cx}{e0 e1 e2 e3:G?}{t0 t1 t2 t3:TE}(h0:PE X e0 t0)(h1:PE X e1 t1)(h2:PE X e2 t2)(h3:PE X e3 t3)(s0:e_ (isStar e0=false) aP1)(s1:e_ (isStar e1=false) aP1)(s2:e_ (isStar e2=false) aP1)(s3:e_ (isStar e3=false) aP1):PA X [e0,e1,e2,e3] (wc t0 (wc t1 (wc t2 (wc t3 ma)))):=by refine jc h0 ?_ s0;refine jc h1 ?_ s1;refine jc h2 ?_ s2;refine jc h3 ?_ s3;exact jf
theorem Fs {X:Cx}{e0 e1 e2 e3 e4:G?}{t0 t1 t2 t3 t4:TE}(h0:PE X e0 t0)(h1:PE X e1 t1)(h2:PE X e2 t2)(h3:PE X e3 t3)(h4:PE X e4 t4)(s0:e_ (isStar e0=false) aP1)(s1:e_ (isStar e1=false) aP1)(s2:e_ (isStar e2=false) aP1)(s3:e_ (isStar e3=false) aP1)(s4:e_ (isStar e4=false) aP1):PA X [e0,e1,e2,e3,e4] (wc t0 (wc t1 (wc t2 (wc t3 (wc t4 ma))))):=by refine jc h0 ?_ s0;refine jc h1 ?_ s1;refine jc h2 ?_ s2;refine jc h3 ?_ s3;refine jc h4 ?_ s4;exact jf
theorem Zh {X:Cx}{e0 e1 e2 e3 e4 e5 e6:G?}{t0 t1 t2 t3 t4 t5 t6:TE}(h0:PE X e0 t0)(h1:PE X e1 t1)(h2:PE X e2 t2)(h3:PE X e3 t3)(h4:PE X e4 t4)(h5:PE X e5 t5)(h6:PE X e6 t6)(s0:e_ (isStar e0=false) aP1)(s1:e_ (isStar e1=false) aP1)(s2:e_ (isStar e2=false) aP1)(s3:e_ (isStar e3=false) aP1)(s4:e_ (isStar e4=false) aP1)(s5:e_ (isStar e5=false) aP1)(s6:e_ (isStar e6=false) aP1):PA X [e0,e1,e2,e3,e4,e5,e6] (wc t0 (wc t1 (wc t2 (wc t3 (wc t4 (wc t5 (wc t6 ma))))))):=by refine jc h0 ?_ s0;refine jc h1 ?_ s1;refine jc h2 ?_ s2;refine jc h3 ?_ s3;refine jc h4 ?_ s4;refine jc h5 ?_ s5;refine jc h6 ?_ s6;exact jf
theorem Zi {X:Cx}{e0 e1 e2 e3 e4 e5 e6 e7 e8 e9 Ft:G?}{t0 t1 t2 t3 t4 t5 t6 t7 t8 t9 Fu:TE}(h0:PE X e0 t0)(h1:PE X e1 t1)(h2:PE X e2 t2)(h3:PE X e3 t3)(h4:PE X e4 t4)(h5:PE X e5 t5)(h6:PE X e6 t6)(h7:PE X e7 t7)(h8:PE X e8 t8)(h9:PE X e9 t9)(Zj:PE X Ft Fu)(s0:e_ (isStar e0=false) aP1)(s1:e_ (isStar e1=false) aP1)(s2:e_ (isStar e2=false) aP1)(s3:e_ (isStar e3=false) aP1)(s4:e_ (isStar e4=false) aP1)(s5:e_ (isStar e5=false) aP1)(s6:e_ (isStar e6=false) aP1)(s7:e_ (isStar e7=false) aP1)(s8:e_ (isStar e8=false) aP1)(s9:e_ (isStar e9=false) aP1)(cW:e_ (isStar Ft=false) aP1):PA X [e0,e1,e2,e3,e4,e5,e6,e7,e8,e9,Ft] (wc t0 (wc t1 (wc t2 (wc t3 (wc t4 (wc t5 (wc t6 (wc t7 (wc t8 (wc t9 (wc Fu ma))))))))))):=by refine jc h0 ?_ s0;refine jc h1 ?_ s1;refine jc h2 ?_ s2;refine jc h3 ?_ s3;refine jc h4 ?_ s4;refine jc h5 ?_ s5;refine jc h6 ?_ s6;refine jc h7 ?_ s7;refine jc h8 ?_ s8;refine jc h9 ?_ s9;refine jc Zj ?_ cW;exact jf
noncomputable def top (i:j?):I_:=PySem.Challenge.pw_manypurses_k10_whole_cuts.main.body.getD i (.Pass ⟨0,0,0,0⟩)
noncomputable abbrev A3:I_:=top 2
noncomputable abbrev A4:I_:=top 3
noncomputable abbrev A5:I_:=top 30
noncomputable abbrev A6:I_:=top 31
noncomputable abbrev wI:I_:=top 4
noncomputable abbrev A7:I_:=top 5
noncomputable abbrev ky:I_:=top 9
noncomputable abbrev A8:I_:=top 10
noncomputable abbrev Fv:I_:=top 11
noncomputable abbrev Fw:I_:=top 12
noncomputable abbrev A9:I_:=top 41
noncomputable abbrev kq:I_:=top 42
noncomputable abbrev va:I_:=inClass (top 19) 0
noncomputable abbrev Fx:I_:=top 46
noncomputable abbrev Fy:I_:=top 47
noncomputable abbrev kz:I_:=inClass (top 33) 0
noncomputable abbrev xx:I_:=inClass (top 33) 4
noncomputable abbrev wJ:I_:=inClass (top 33) 1
noncomputable abbrev vf:I_:=inClass (top 33) 2
noncomputable abbrev vu:I_:=inClass (top 33) 5
noncomputable abbrev Ba:I_:=inClass (top 35) 0
noncomputable abbrev Bb:I_:=inClass (top 35) 1
noncomputable abbrev wK:I_:=inClass (top 35) 2
noncomputable abbrev wL:I_:=inClass (top 35) 3
noncomputable abbrev wj:I_:=inClass (top 37) 0
noncomputable abbrev Bc:I_:=inClass (top 37) 1
noncomputable abbrev kn:I_:=inClass (top 37) 2
noncomputable abbrev xp:I_:=inClass (top 37) 8
noncomputable abbrev xy:I_:=inClass (top 37) 7
noncomputable abbrev kj:I_:=inClass (top 37) 6
noncomputable abbrev Bd:I_:=inClass (top 37) 3
noncomputable abbrev yt:I_:=inClass (top 37) 4
noncomputable abbrev Fz:I_:=inClass (top 49) 0
noncomputable abbrev Be:I_:=inClass (top 49) 7
noncomputable abbrev Bf:I_:=inClass (top 49) 13
noncomputable abbrev wq:I_:=inClass (top 49) 20
noncomputable abbrev Bg:I_:=inClass (top 49) 9
noncomputable abbrev Bh:I_:=inClass (top 49) 10
noncomputable abbrev yu:I_:=inClass (top 49) 22
noncomputable abbrev yq:I_:=inClass (top 49) 23
noncomputable abbrev yy:I_:=inClass (top 49) 24
noncomputable abbrev y9:I_:=inClass (top 49) 21
noncomputable abbrev zy:I_:=inClass (top 49) 19
noncomputable abbrev ym:I_:=inClass (top 49) 18
noncomputable abbrev wM:I_:=inClass (top 49) 3
noncomputable abbrev Bi:I_:=inClass (top 49) 4
noncomputable abbrev Bj:I_:=inClass (top 49) 5
noncomputable abbrev Bk:I_:=inClass (top 49) 6
noncomputable abbrev wN:I_:=inClass (top 49) 8
noncomputable abbrev Bl:I_:=top 48
noncomputable abbrev Bm:I_:=top 52
noncomputable abbrev Bn:I_:=top 53
noncomputable abbrev Bo:I_:=top 54
noncomputable abbrev yp:I_:=inClass (top 55) 6
noncomputable abbrev vm:I_:=inClass (top 55) 0
noncomputable abbrev kl:I_:=inClass (top 55) 1
noncomputable abbrev Bp:I_:=inClass (top 55) 2
noncomputable abbrev yf:I_:=inClass (top 55) 3
noncomputable abbrev Br:I_:=inClass (top 55) 4
noncomputable abbrev Bs:I_:=top 57
noncomputable abbrev wO:I_:=top 58
noncomputable abbrev Bt:I_:=top 59
noncomputable abbrev g6:I_:=top 60
noncomputable abbrev wQ:I_:=top 61
noncomputable abbrev wR:I_:=top 62
noncomputable abbrev wU:I_:=top 63
noncomputable abbrev wV:I_:=top 64
noncomputable abbrev wX:I_:=top 65
noncomputable abbrev wY:I_:=top 66
noncomputable abbrev wZ:I_:=top 67
theorem xA:ql ["thing","purses","purse","number","goal","much"] ["thing","purses"] (jr A5):=cv
theorem Bu:ql ["things","bound","least","thing"] ["things","bound"] (jr wI):=cv
theorem Zk:ql ["self","thing"] ["self","thing"] (jr xx):=cv
theorem Od:ql ["self","house","thing","houses"] ["self","house","thing"] (jr wJ):=cv
theorem Zl:ql ["self"] ["self"] (jr vu):=cv
theorem ka:ql ["self","order","purse","number","goal","much"] ["self","order"] (jr wK):=cv
theorem kb:ql ["self","order","purse","number","goal","much"] ["self","order"] (jr wL):=cv
theorem yc:ql ["self","votes","later","order"] ["self"] (jr xp):=cv
theorem Oe:ql ["self","order"] ["self"] (jr xy):=cv
theorem FA:ql ["self","order"] ["self"] (jr kj):=cv
theorem Of:ql ["self","word","order","house"] ["self","word","order"] (jr zy):=cv
theorem Og:ql ["self","house","orders","order"] ["self","house","orders"] (jr ym):=cv
theorem FC:ql ["self","purse","goal","much","asked","order"] ["self","purse","goal","much"] (jr wM):=cv
theorem wu:ql ["self","at","letter","word","house","order","keeper"] ["self","at"] (jr wN):=cv
theorem FD:ql ["thing","purses","total","numbers","sums"] ["thing","purses","total"] (jr Bo):=cv
theorem Oh:ql ["self","house","cut"] ["self","house"] (jr kl):=cv
theorem sM:ql ["_law_town_here","_law_many","_law_row","_law_at","_law_cell","_law_mixed"] ["_law_town_here","_law_many"] (jr wO):=cv
theorem yn:ql ["_law_caught","_law_kinds","_law_words"] ["_law_caught"] (jr g6):=cv
theorem FE:ql ["_law_town_here","_law_size","_law_most","_law_found","_law_one"] ["_law_town_here","_law_size","_law_most"] (jr wQ):=cv
theorem yx:ql ["_law_town_here","_law_some_here","_law_crew","_law_foes","_law_begin","_law_rogues","_law_world_here"] ["_law_town_here"] (jr wR):=cv
theorem zg:ql ["_law_kind","_law_world_here","_law_one","_law_two","_law_three","_law_told_here","_law_caught","e"] ["_law_kind","_law_world_here","_law_one","_law_two","_law_three"] (jr wU):=cv
theorem Oi:ql ["_law_town_here","_law_world_here","_law_there"] ["_law_town_here","_law_world_here"] (jr wV):=cv
theorem FF:ql ["_law_town_here","_law_parts","_law_purse","_law_many","_law_goal"] ["_law_town_here","_law_parts","_law_purse"] (jr wX):=cv
theorem xj:ql ["_law_town_here","_law_parts","_law_share","_law_world_here","_law_crew","_law_some_here","_law_foes","_law_honest","_law_begin","_law_rogues","_law_many","_law_kind","_law_order_here","_law_purse","_law_goal"] ["_law_town_here","_law_parts","_law_share"] (jr wY):=cv
theorem vq:ql ["_law_script","_law_town_here","_law_parts","_law_world_here","_law_crew","_law_some_here","_law_foes","_law_honest","_law_begin","_law_rogues","_law_cutting","_law_signed","_law_stood","_law_turn","_law_kind","_law_house","_law_cut","_law_numbers","_law_fake","_law_good"] ["_law_script"] (jr wZ):=cv
theorem Zm:(["thing","self"]:b? y_).Nodup:=by decide+kernel
theorem Zn:(["order","self"]:b? y_).Nodup:=by decide+kernel
theorem Zo:(["keeper","purse","asked"]:b? y_).Nodup:=by decide+kernel
theorem Zp:(["each"]:b? y_).Nodup:=by decide+kernel
theorem Zr:(["each"]:b? y_).Nodup:=by decide+kernel
theorem Zs:(["house","sums","liars"]:b? y_).Nodup:=by decide+kernel
theorem Zt:(["_law_k","_law_foes"]:b? y_).Nodup:=by decide+kernel
theorem Zu:(["_law_k","_law_town_here"]:b? y_).Nodup:=by decide+kernel
theorem Zv:(["each"]:b? y_).Nodup:=by decide+kernel
theorem Zw:(["_law_one","_law_begin"]:b? y_).Nodup:=by decide+kernel
theorem Zx:(["_law_one","_law_stood"]:b? y_).Nodup:=by decide+kernel
theorem Zy:(["_law_one","_law_crew","_law_some_here","_law_signed"]:b? y_).Nodup:=by decide+kernel
theorem Zz:(["_law_k","_law_house","_law_world_here"]:b? y_).Nodup:=by decide+kernel
theorem ZA:(["_law_order_here","_law_k"]:b? y_).Nodup:=by decide+kernel
theorem boot_isinstance:N4 "isinstance"=some (.builtin "isinstance"):=by decide+kernel
theorem boot_bool:N4 "bool"=some (.type "bool"):=by decide+kernel
theorem boot_int:N4 "int"=some (.type "int"):=by decide+kernel
theorem boot_len:N4 "len"=some (.builtin "len"):=by decide+kernel
theorem boot_tuple:N4 "tuple"=some (.type "tuple"):=by decide+kernel
theorem boot_sorted:N4 "sorted"=some (.builtin "sorted"):=by decide+kernel
theorem boot_list:N4 "list"=some (.type "list"):=by decide+kernel
theorem boot_sum:N4 "sum"=some (.builtin "sum"):=by decide+kernel
theorem boot_max:N4 "max"=some (.builtin "max"):=by decide+kernel
theorem boot_all:N4 "all"=some (.builtin "all"):=by decide+kernel
theorem ZC:N4 "ValueError"=some (.type "ValueError"):=by decide+kernel
theorem boot_set:N4 "set"=some (.type "set"):=by decide+kernel
set_option genInjectivity false in
structure Ad where
 FG:c_
 FH:l?
 FI:c_
 FJ:l?
 FK:c_
 Bv:l?
 FL:c_
 FN:l?
 FO:c_
 FP:l?
 FQ:c_
 FR:l?
 FT:c_
 FU:l?
 FV:c_
 FW:l?
 FX:c_
 FY:l?
 FZ:c_
 F0:l?
 F1:c_
 F8:l?
 F9:c_
 Ga:l?
 Gb:c_
 Gd:l?
 Ge:c_
 Gf:l?
 Gg:c_
 Gh:l?
 pf:c_
 Gi:l?
 vd:c_
 vk:l?
 xB:c_
 xC:l?
 Gj:c_
 Gk:l?
 vt:c_
 vz:l?
 wg:c_
 Gm:l?
 Bx:c_
 Gp:l?
 By:c_
 Gq:l?
 Bz:c_
 Gr:l?
 w9:c_
 Gs:l?
 Gu:c_
 Gw:l?
 Gx:c_
 Gy:l?
 ua:c_
 ur:l?
 Gz:c_
 GA:l?
 GB:c_
 GC:l?
 GD:c_
 GF:l?
 uw:c_
 pz:l?
 ku:c_
 GG:l?
 GH:c_
 GI:l?
 GJ:c_
 GK:l?
 GL:c_
 GN:l?
 GO:c_
 GP:l?
 GQ:c_
 GR:l?
 uu:c_
 ue:l?
 um:c_
 uy:l?
 ug:c_
 uk:l?
 GS:c_
 GU:l?
 gq:c_
 gh:l?
 GV:c_
 GW:l?
 GX:c_
 GY:l?
 GZ:c_
 G0:l?
 G7:c_
 G9:l?
 Ha:c_
 Hb:l?
 Hc:c_
 Hd:l?
 He:c_
 Hf:l?
 Hg:c_
 Hh:l?
 Hi:c_
 Hj:l?
 Hk:c_
 Hl:l?
 uv:c_
 uj:l?
 vn:c_
 Hm:l?
 Hn:c_
 Ho:l?
 Hq:c_
 Hr:l?
 gr:c_
 gm:l?
 Hs:c_
 Ht:l?
 Hu:c_
 Hv:l?
 Hw:c_
 Hx:l?
 Hy:c_
 Hz:l?
 HE:c_
 HF:l?
 HG:c_
 HH:l?
 HI:c_
 HJ:l?
 HK:c_
 HL:l?
 HM:c_
 HN:l?
 HP:c_
 HQ:l?
 HR:c_
 HS:l?
 HU:c_
 HV:l?
 y6:c_
 j6:c_
 j3:c_
 jV:c_
 qm:c_
 xo:c_
 vy:c_
 jW:c_
 wd:c_
 HW:c_
 HX:c_
 HY:c_
 HZ:c_
 Ia:c_
 Ib:c_
 Ic:c_
 Ie:c_
noncomputable def asked (t:Ad):b? b_:=[.ref t.Ib,.ref t.Ic,.ref t.Ie,.ref t.HZ,.ref t.xo,.ref t.Ia,.ref t.jW,.ref t.vy,.ref t.HY,.ref t.HW,.ref t.HX,.ref t.wd,.type "ValueError"]
structure Txt (K:e?)(mg:y_->f_ b_)(t:Ad):Prop where
 BA:av K "is_whole" "is_whole" A3 t.FG t.FH
 Ig:mg "is_whole"=some (.ref t.FG)
 Ih:Binds K t.FH ["thing"] []
 qr:av K "is_between" "is_between" A4 t.FI t.FJ
 zb:mg "is_between"=some (.ref t.FI)
 zf:Binds K t.FJ ["thing","low","high"] []
 BB:av K "is_order" "is_order" A5 t.FK t.Bv
 Ii:mg "is_order"=some (.ref t.FK)
 Oj:iy K t.Bv ["thing","purses"] ["purses"] iP iP
 ZD:∃tk,Binds K t.Bv ["thing","purses"] [.int 8 tk]
 BC:av K "place_of" "place_of" A6 t.FL t.FN
 Ij:mg "place_of"=some (.ref t.FL)
 Ik:Binds K t.FN ["order"] []
 Ol:av K "are_rising" "are_rising" wI t.FO t.FP
 ZE:mg "are_rising"=some (.ref t.FO)
 ZF:Binds K t.FP ["things","bound"] []
 Il:av K "is_rising_row" "is_rising_row" A7 t.FQ t.FR
 Om:mg "is_rising_row"=some (.ref t.FQ)
 Oo:Binds K t.FR ["thing","bound"] []
 Oq:av K "is_house_count" "is_house_count" ky t.FT t.FU
 ZG:mg "is_house_count"=some (.ref t.FT)
 ZH:Binds K t.FU ["thing"] []
 Ot:av K "is_few" "is_few" A8 t.FV t.FW
 ZI:mg "is_few"=some (.ref t.FV)
 ZJ:Binds K t.FW ["thing"] []
 Ou:av K "outnumber" "outnumber" Fv t.FX t.FY
 ZK:mg "outnumber"=some (.ref t.FX)
 ZL:iy K t.FY ["houses","few"] ["few"] iP iP
 Ov:av K "enough_of" "enough_of" Fw t.FZ t.F0
 ZM:mg "enough_of"=some (.ref t.FZ)
 ZN:iy K t.F0 ["houses","few"] ["few"] iP iP
 Ow:av K "are_sums" "are_sums" A9 t.F1 t.F8
 ZO:mg "are_sums"=some (.ref t.F1)
 ZP:Binds K t.F8 ["thing"] []
 Ox:av K "are_first_sums" "are_first_sums" kq t.F9 t.Ga
 ZQ:mg "are_first_sums"=some (.ref t.F9)
 ZR:Binds K t.Ga ["thing"] []
 ZS:av K "__init__" "NoPurse.__init__" va t.Gb t.Gd
 Oy:AK K t.xo t.Gb "purse"
 ZT:Binds K t.Gd ["self","purse"] []
 Oz:av K "check_houses" "check_houses" Fx t.Ge t.Gf
 ZU:mg "check_houses"=some (.ref t.Ge)
 ZV:iy K t.Gf ["houses","few","liars"] ["few","liars"] nZ nZ
 OA:av K "check_purses" "check_purses" Fy t.Gg t.Gh
 ZW:mg "check_purses"=some (.ref t.Gg)
 ZX:iy K t.Gh ["sums","cheats"] ["cheats"] iP iP
 ZY:av K "__init__" "Board.__init__" kz t.pf t.Gi
 jos:Meth K t.y6 "__init__" t.pf
 OB:Mk K t.y6 t.pf
 OD:Binds K t.Gi ["self","enough"] []
 ZZ:av K "is_carried" "Board.is_carried" xx t.vd t.vk
 yr:Meth K t.y6 "is_carried" t.vd
 vh:Binds K t.vk ["self","thing"] []
 Z7:av K "put" "Board.put" wJ t.xB t.xC
 Im:Meth K t.y6 "put" t.xB
 Io:Binds K t.xC ["self","house","thing"] []
 je6:av K "houses_for" "Board.houses_for" vf t.Gj t.Gk
 jea:Meth K t.y6 "houses_for" t.Gj
 jex:Binds K t.Gk ["self","thing"] []
 jje:av K "carried" "Board.carried" vu t.vt t.vz
 OE:Meth K t.y6 "carried" t.vt
 OF:Binds K t.vz ["self"] []
 jik:av K "__init__" "Book.__init__" Ba t.wg t.Gm
 jp2:Meth K t.jV "__init__" t.wg
 j60:Mk K t.jV t.wg
 jjh:Binds K t.Gm ["self","sums"] []
 jkm:av K "is_past" "Book.is_past" Bb t.Bx t.Gp
 jqv:Meth K t.jV "is_past" t.Bx
 Ip:Binds K t.Gp ["self","order"] []
 jnl:av K "is_due" "Book.is_due" wK t.By t.Gq
 jsu:Meth K t.jV "is_due" t.By
 OH:Binds K t.Gq ["self","order"] []
 jm7:av K "settle" "Book.settle" wL t.Bz t.Gr
 jsp:Meth K t.jV "settle" t.Bz
 jnb:Binds K t.Gr ["self","order"] []
 jgn:av K "__init__" "Keeper.__init__" wj t.w9 t.Gs
 jns:Meth K t.j6 "__init__" t.w9
 jxc:Mk K t.j6 t.w9
 jf9:Binds K t.Gs ["self","sums"] []
 ji8:av K "stands" "Keeper.stands" Bc t.Gu t.Gw
 jh1:Meth K t.j6 "stands" t.Gu
 jjl:Binds K t.Gw ["self"] []
 jh9:av K "left_of" "Keeper.left_of" kn t.Gx t.Gy
 jgp:Meth K t.j6 "left_of" t.Gx
 jib:Binds K t.Gy ["self","purse","orders"] []
 jdm:av K "give_votes" "Keeper.give_votes" xp t.ua t.ur
 gy:Meth K t.j6 "give_votes" t.ua
 ub:Binds K t.ur ["self"] []
 jeu:av K "first_due" "Keeper.first_due" xy t.Gz t.GA
 uz:Meth K t.j6 "first_due" t.Gz
 OI:Binds K t.GA ["self"] []
 jko:av K "go_on" "Keeper.go_on" kj t.GB t.GC
 jjb:Meth K t.j6 "go_on" t.GB
 jku:Binds K t.GC ["self"] []
 jno:av K "hear" "Keeper.hear" Bd t.GD t.GF
 jk1:Meth K t.j6 "hear" t.GD
 jmn:Binds K t.GF ["self","order"] []
 jd6:av K "take_paper" "Keeper.take_paper" yt t.uw t.pz
 jcs:Meth K t.j6 "take_paper" t.uw
 jdv:Binds K t.pz ["self","order"] []
 jh6:av K "__init__" "World.__init__" Fz t.ku t.GG
 jow:Meth K t.j3 "__init__" t.ku
 jzc:Mk K t.j3 t.ku
 jfc:iy K t.GG ["self","houses","few","sums","liars","cheats"] ["few","sums","liars","cheats"] AO AO
 jji:av K "letters" "World.letters" Be t.GH t.GI
 ko:Meth K t.j3 "letters" t.GH
 Iq:Binds K t.GI ["self"] []
 jkw:av K "papers" "World.papers" Bf t.GJ t.GK
 OJ:Meth K t.j3 "papers" t.GJ
 OK:Binds K t.GK ["self"] []
 jgd:av K "keeper_of" "World.keeper_of" wq t.GL t.GN
 zv:Meth K t.j3 "keeper_of" t.GL
 xl:Binds K t.GN ["self","house"] []
 jpl:av K "sums" "World.sums" Bg t.GO t.GP
 jmx:Meth K t.j3 "sums" t.GO
 jph:Binds K t.GP ["self","house"] []
 jix:av K "settled" "World.settled" Bh t.GQ t.GR
 jhz:Meth K t.j3 "settled" t.GQ
 jim:Binds K t.GR ["self","house"] []
 jd4:av K "check_purse" "World.check_purse" yu t.uu t.ue
 gj:Meth K t.j3 "check_purse" t.uu
 ph:Binds K t.ue ["self","purse"] []
 jdo:av K "check_asker" "World.check_asker" yq t.um t.uy
 jc2:Meth K t.j3 "check_asker" t.um
 jek:Binds K t.uy ["self","purse","goal"] []
 jdr:av K "check_order" "World.check_order" yy t.ug t.uk
 gp:Meth K t.j3 "check_order" t.ug
 ui:Binds K t.uk ["self","order"] []
 je9:av K "check_liar" "World.check_liar" y9 t.GS t.GU
 uf:Meth K t.j3 "check_liar" t.GS
 OL:Binds K t.GU ["self","liar"] []
 jct:av K "write_to_all" "World.write_to_all" zy t.gq t.gh
 wa:Meth K t.j3 "write_to_all" t.gq
 gw:Binds K t.gh ["self","word","order"] []
 jf7:av K "put_votes" "World.put_votes" ym t.GV t.GW
 vl:Meth K t.j3 "put_votes" t.GV
 wz:Binds K t.GW ["self","house","orders"] []
 jr0:av K "ask" "World.ask" wM t.GX t.GY
 OM:Meth K t.j3 "ask" t.GX
 ON:Binds K t.GY ["self","purse","goal","much"] []
 jml:av K "cheat" "World.cheat" Bi t.GZ t.G0
 jkx:Meth K t.j3 "cheat" t.GZ
 jnh:Binds K t.G0 ["self","order","house"] []
 jqw:av K "lie" "World.lie" Bj t.G7 t.G9
 Ir:Meth K t.j3 "lie" t.G7
 Iu:Binds K t.G9 ["self","liar","order"] []
 jpk:av K "show" "World.show" Bk t.Ha t.Hb
 jm0:Meth K t.j3 "show" t.Ha
 jpt:Binds K t.Hb ["self","order","house"] []
 jpj:av K "come" "World.come" wN t.Hc t.Hd
 jnm:Meth K t.j3 "come" t.Hc
 jpc:Binds K t.Hd ["self","at"] []
 Iv:av K "check_world" "check_world" Bl t.He t.Hf
 OO:mg "check_world"=some (.ref t.He)
 OP:Binds K t.Hf ["thing"] []
 Iw:av K "cut_of" "cut_of" Bm t.Hg t.Hh
 OQ:mg "cut_of"=some (.ref t.Hg)
 OR:Binds K t.Hh ["world","house"] []
 Iy:av K "is_number_row" "is_number_row" Bn t.Hi t.Hj
 OS:mg "is_number_row"=some (.ref t.Hi)
 OT:Binds K t.Hj ["thing","many"] []
 OU:av K "is_cut" "is_cut" Bo t.Hk t.Hl
 jyy:mg "is_cut"=some (.ref t.Hk)
 js6:iy K t.Hl ["thing","purses","total"] ["purses","total"] nZ nZ
 jeb:av K "check_cut" "Cutting.check_cut" yp t.uv t.uj
 gz:Meth K t.qm "check_cut" t.uv
 pq:Binds K t.uj ["self","cut"] []
 je0:av K "__init__" "Cutting.__init__" vm t.vn t.Hm
 jlu:Meth K t.qm "__init__" t.vn
 jtb:Mk K t.qm t.vn
 je3:Binds K t.Hm ["self","world"] []
 jkq:av K "sign" "Cutting.sign" kl t.Hn t.Ho
 jjk:Meth K t.qm "sign" t.Hn
 jk3:Binds K t.Ho ["self","house"] []
 jm6:av K "lie" "Cutting.lie" Bp t.Hq t.Hr
 jkg:Meth K t.qm "lie" t.Hq
 jmt:Binds K t.Hr ["self","liar","cut"] []
 jcy:av K "signers_of" "Cutting.signers_of" yf t.gr t.gm
 jbu:Meth K t.qm "signers_of" t.gr
 jc0:Binds K t.gm ["self","cut"] []
 jk0:av K "good" "Cutting.good" Br t.Hs t.Ht
 jjs:Meth K t.qm "good" t.Hs
 jk2:Binds K t.Ht ["self"] []
 OV:av K "_law_town" "_law_town" Bs t.Hu t.Hv
 jrr:mg "_law_town"=some (.ref t.Hu)
 jra:Binds K t.Hv ["_law_script"] []
 qd:av K "_law_draw" "_law_draw" wO t.Hw t.Hx
 qh:mg "_law_draw"=some (.ref t.Hw)
 qg:Binds K t.Hx ["_law_town_here","_law_many"] []
 qz:av K "_law_pick" "_law_pick" Bt t.Hy t.Hz
 zi:mg "_law_pick"=some (.ref t.Hy)
 zh:Binds K t.Hz ["_law_town_here","_law_some_here"] []
 Iz:av K "_law_refusal" "_law_refusal" g6 t.HE t.HF
 OW:mg "_law_refusal"=some (.ref t.HE)
 OX:Binds K t.HF ["_law_caught"] []
 IA:av K "_law_some" "_law_some" wQ t.HG t.HH
 OY:mg "_law_some"=some (.ref t.HG)
 OZ:Binds K t.HH ["_law_town_here","_law_size","_law_most"] []
 O0:av K "_law_world" "_law_world" wR t.HI t.HJ
 jo5:mg "_law_world"=some (.ref t.HI)
 jo0:Binds K t.HJ ["_law_town_here"] []
 IB:av K "_law_told" "_law_told" wU t.HK t.HL
 O4:mg "_law_told"=some (.ref t.HK)
 O5:Binds K t.HL ["_law_kind","_law_world_here","_law_one","_law_two","_law_three"] []
 O8:av K "_law_letter" "_law_letter" wV t.HM t.HN
 jm4:mg "_law_letter"=some (.ref t.HM)
 jmw:Binds K t.HN ["_law_town_here","_law_world_here"] []
 Pa:av K "_law_order" "_law_order" wX t.HP t.HQ
 jpx:mg "_law_order"=some (.ref t.HP)
 jpe:Binds K t.HQ ["_law_town_here","_law_parts","_law_purse"] []
 Pb:av K "_law_go" "_law_go" wY t.HR t.HS
 jwa:mg "_law_go"=some (.ref t.HR)
 jvs:Binds K t.HS ["_law_town_here","_law_parts","_law_share"] []
 qac:av K "law" "law" wZ t.HU t.HV
 j9a:mg "law"=some (.ref t.HU)
 qbl:Binds K t.HV ["_law_script"] []
 Pd:∃tk,mg "MOST_MUCH"=some (.int 1000 tk)
 Pe:∃tk,mg "LAST_NUMBER"=some (.int 99 tk)
 Pf:∃tk,mg "PAPER_LETTER"=some (.str "paper" tk)
 IC:∃tk,mg "ORDER_LETTER"=some (.str "order" tk)
 jnq:∃tk,mg "MOST_HOUSES"=some (.int 16 tk)
 js8:∃tk,mg "MOST_FEW"=some (.int 5 tk)
 jh7:∃tk,mg "MOST_FIRST_SUM"=some (.int 1000 tk)
 jkr:∃tk,mg "LEAST_PURSES"=some (.int 2 tk)
 jny:∃tk,mg "MOST_PURSES"=some (.int 8 tk)
 jnj:∃tk,mg "MOST_IN_CUT"=some (.int 100000 tk)
 Pg:mg "Board"=some (.ref t.y6)
 qj:eJ K t.y6
 qk:yb K t.y6 "enough"
 qx:yb K t.y6 "signers"
 jza:mg "Keeper"=some (.ref t.j6)
 jo:eJ K t.j6
 xc:yb K t.j6 "held"
 qt:yb K t.j6 "next_numbers"
 ID:yb K t.j6 "done"
 IE:yb K t.j6 "heard"
 yl:yb K t.j6 "unvoted"
 xi:yb K t.j6 "choices"
 xh:yb K t.j6 "waiting"
 Ph:mg "World"=some (.ref t.j3)
 jk:eJ K t.j3
 jyz:Nu K t.j3
 yj:yb K t.j3 "purses"
 Pj:yb K t.j3 "total"
 Pk:yb K t.j3 "lying"
 yi:yb K t.j3 "cheating"
 zw:yb K t.j3 "keepers"
 x9:yb K t.j3 "board"
 IF:yb K t.j3 "asked"
 zr:yb K t.j3 "on_way"
 j51:mg "Book"=some (.ref t.jV)
 j6u:eJ K t.jV
 jvj:yb K t.jV "held"
 jkb:yb K t.jV "next_numbers"
 jv3:yb K t.jV "done"
 jwq:mg "Cutting"=some (.ref t.qm)
 ze:eJ K t.qm
 xu:yb K t.qm "world"
 xt:yb K t.qm "board"
 Pl:Meth K t.j6 "is_due" t.By
 w4:Meth K t.j6 "is_past" t.Bx
 jh5:Meth K t.j6 "settle" t.Bz
 jhw:Nr K t.jV "__init__" t.wg
 Pm:mg "NoPurse"=some (.ref t.xo)
 Pn:mg "TooMuch"=some (.ref t.vy)
 Po:mg "NotNow"=some (.ref t.jW)
 IG:mg "PurseError"=some (.ref t.wd)
 jy4:mg "BadCut"=some (.ref t.HW)
 jw1:mg "BadText"=some (.ref t.HX)
 jtj:mg "BadPaper"=some (.ref t.HY)
 jwl:mg "NoHouse"=some (.ref t.HZ)
 js7:mg "NoLetter"=some (.ref t.Ia)
 jro:mg "BadNumber"=some (.ref t.Ib)
 jtm:mg "BadOrder"=some (.ref t.Ic)
 jrg:mg "BadHouses"=some (.ref t.Ie)
 js3:iQ K t.xo
 jth:kinds K (.ref t.xo) (asked t)=[some false,some false,some false,some false,some true,some false,some false,some false,some false,some false,some false,some true,some true]
 jb0:Ì K (.ref t.xo) (.ref t.wd)=some true
 jw7:Au K t.vy
 js2:iQ K t.vy
 jto:kinds K (.ref t.vy) (asked t)=[some false,some false,some false,some false,some false,some false,some false,some true,some false,some false,some false,some true,some true]
 jb4:Ì K (.ref t.vy) (.ref t.wd)=some true
 jzd:Au K t.jW
 jv7:iQ K t.jW
 jwg:kinds K (.ref t.jW) (asked t)=[some false,some false,some false,some false,some false,some false,some true,some false,some false,some false,some false,some true,some true]
 jcq:Ì K (.ref t.jW) (.ref t.wd)=some true
 Pp:æ K t.wd (.type "BaseException")=some true
 jy:mg "isinstance"=none
 j6c:mg "bool"=none
 qaj:mg "int"=none
 cB:mg "len"=none
 oA:mg "tuple"=none
 BD:mg "sorted"=none
 mD:mg "list"=none
 sN:mg "sum"=none
 j9c:mg "max"=none
 Pq:mg "all"=none
 sO:mg "range"=none
 jo9:mg "ValueError"=none
 j81:mg "set"=none
noncomputable def cL (o:O):b? V:=[.int o.p,.int o.n,.int o.g,.int o.m]
noncomputable def qbn (H:Hp)(x:V)(o:O):Prop:=∃a,x= .ref a/\H a=some (.tup (cL o))
theorem jg {H:Hp}{p:c_}{o:HO}(h:H p=none):xf H (upd H p o):=λb u e=>by rw[jd (jh e h)];exact e
theorem nd {c:Prop}[aeO c](h:(!p_ c)=true):¬c:=λz=>by rw[j' z]at h;cases h
theorem yd {c:Prop}[aeO c](h:¬(!p_ c)=true):c:=by
 by_cases z:c
 .exact z
 .exact v_ (by rw[t_ z];rfl) h
theorem j9t {b:s?}{A Bq:Prop}(e:b=true)(h:Bq):if(!b)=true then A else Bq:=by subst e;exact gd h
theorem take_snoc {α:Type}{l:b? α}{i:j?}{x:α}(h:l[i]?=some x):l.take (i+1)=l.take i++[x]:=by rw[b?.take_add_one,h];rfl
theorem DF (s:b? i_)(i:j?)(z:i_):(s.map V.int).set i (.int z)=(s.set i z).map V.int:=by rw[aem]
theorem get_map {s:b? i_}{i:j?}(h:i<s.length):(s.map V.int)[i]?=some (.int (s.getD i 0)):=by rw[J',n? h,J?,n? h];rfl
theorem xD {n:j?}{i:i_}(h0:0<=i)(h1:i.toNat<n):nM n i=some i.toNat:=by unfold nM;rw[j_ h0,j_ (by lia)]
theorem mE {α:Type}{xs:b? α}{i:i_}{v:α}(h0:0<=i)(h:xs[i.toNat]?=some v):nN xs i=some v:=by unfold nN;rw[xD h0 (xv.mp h).1];exact h
theorem hJ {n:j?}(h:n<=1000):n<=k?:=Ć (zq h)
noncomputable def dv (T R:c_)(H:Hp):Prop:=∃(row:b? i_)(c:i_),H T=some (.lst [.ref R,.int c])/\H R=some (.lst (row.map V.int))/\0<row.length
noncomputable def lB (T R:c_)(H H':Hp):Prop:=∀b o,H b=some o->b≠T->b≠R->H' b=some o
theorem dv.ne {T R:c_}{H:Hp}(h:dv T R H):T≠R:=by
 obtain⟨row,c,h1,h2,h3⟩:=h;refine gA h1 h2 λe=>?_;have e':=HO.lst.inj e;cases row with
 |nil=>cases h3
 |cons x r=>rw[y?]at e';cases(Ĵ e').1
theorem dv.same {T R:c_}{H H':Hp}(h:dv T R H)(s:xf H H'):dv T R H':=by obtain⟨row,c,h1,h2,h3⟩:=h;exact(xa0 row c ⟨s _ _ h1,s _ _ h2,h3⟩)
theorem dv.fresh {T R b:c_}{H:Hp}(h:dv T R H)(hb:H b=none):b≠T/\b≠R:=by obtain⟨row,c,h1,h2,h3⟩:=h;exact⟨(jh h1 hb).symm,(jh h2 hb).symm⟩
noncomputable def jyc:Sp:=λvs H Q _=>∃i,vs=[.int i]/\Q (.bl true) H
noncomputable def juk:Sp:=λvs H Q _=>∃i l h,vs=[.int i,.int l,.int h]/\Q (.bl (p_ (l<=i/\i<=h))) H
noncomputable def jxu:Sp:=λvs H Q _=>∃a o q,vs=[.ref a,.int q]/\H a=some (.tup (cL o))/\Q (.bl (vp q o)) H
noncomputable def jxo:Sp:=λvs H Q _=>∃a o,vs=[.ref a]/\H a=some (.tup (cL o))/\vp 8 o=true/\∀p,H p=none->Q (.ref p) (upd H p (.tup [.int o.p,.int o.n]))
theorem IH (T:Txt K mg t):zu P w K mg base CX0 1 t.FG t.FH ["thing"] jyc:=by refine T.BA.aZ (N:=["thing"]) λ_ A _ s H vs Q E hr h=>?_;obtain⟨i,rfl,q⟩:=h;refine⟨_,(@je _ _ _ (j5 (lT (jl sr a_ T.jy boot_isinstance (@ye _ _ _ _ _ (pv 0) (lR (v:=.ty "int") a_ T.qaj boot_int a_) a_ a_)) (pA (Sr (jl sr a_ T.jy boot_isinstance (@ye _ _ _ _ _ (pv 0) (lR (v:=.ty "bool") a_ T.j6c boot_bool a_) a_ a_))))))),?_⟩;refine⟨_,a_,xa2 _ _ _ true ⟨a_,.int _,a_,_,a_,cb ?_⟩⟩;exact⟨_,a_,xa2 _ _ _ false ⟨a_,.int _,a_,_,a_,q⟩⟩
theorem qy (T:Txt K mg t):zu P w K mg base CX0 2 t.FI t.FJ ["thing","low","high"] juk:=by
 refine T.qr.aZ (N:=["thing","low","high"]) λ_ A _ s H vs Q E hr h=>?_;obtain⟨i,l,u,rfl,q⟩:=h;refine⟨_,(@je _ _ _ (j5 (lT (jm (IH T) hr.dn a_ T.Ig T.BA.kp T.Ih .nil jq (jc (pv 0) jf)) (pA (Tt zV zV (pv 1) (pv 0) (pv 2)))))),?_⟩;refine⟨_,a_,i,a_,_,a_,cb ?_⟩;refine⟨_,a_,_,a_,xa0 _ _ ⟨a_,a_,_,a_,?_⟩⟩;refine bh (λh1=>?_) (λh1=>?_)
 .refine⟨_,a_,xa0 _ _ ⟨a_,a_,?_⟩⟩;have e:p_ (l<=i/\i<=u)=p_ (i<=u):=by
   have gY:=w? h1;simp[gY]
  rw[e]at q;exact q
 .have e:p_ (l<=i/\i<=u)=false:=by
   have gY:¬l<=i:=λz=>h1 (j' z);simp[gY]
  rw[e]at q;exact q
theorem II (T:Txt K mg t):zu P w K mg base CX0 3 t.FK t.Bv ["thing","purses"] jxu:=by
 refine T.BB.dO xA λ_ A _ s H vs Q E hr h=>?_;obtain⟨a,o,q,rfl,ha,k⟩:=h;refine⟨_,(@jb _ _ _ _ _ (zo (PW.pt (eX (xw (zt (jl sr a_ T.jy boot_isinstance (@ye _ _ _ _ _ (pv 0) (lR (v:=.ty "tuple") a_ T.oA boot_tuple a_) a_ a_)))) (fQ (ju rQ (jl jt a_ T.cB boot_len (jc (pv 0) jf)) jn (qc _))))) (@je _ _ _ (j5 gQ)) qe) (@jb _ _ _ _ _ (lU (pv 0) (pE a_ (qf (jw (i:=2) xA.nd a_ (w_ a_)) (qf (jw (i:=3) xA.nd a_ (w_ a_)) (qf (jw (i:=4) xA.nd a_ (w_ a_)) (qf (jw (i:=5) xA.nd a_ (w_ a_)) pD)))))) (@jb _ _ _ _ _ (zo (PW.pt (eX (xw (zt (jm (qy T) hr.dn a_ T.zb T.qr.kp T.zf .nil jq (@cA _ _ _ _ _ _ _ (pv 2) jn (xa i9 (pv 1) jn) a_ a_ a_)))) (fQ (xw (zt (jm (qy T) hr.dn a_ T.zb T.qr.kp T.zf .nil jq (@cA _ _ _ _ _ _ _ (pv 4) jn (xa i9 (pv 1) jn) a_ a_ a_))))))) (@je _ _ _ (j5 gQ)) qe) (@je _ _ _ (j5 (lT (kP rQ (pv 2) (pv 4) (qc _)) (lT (jm (qy T) hr.dn a_ T.zb T.qr.kp T.zf .nil jq (@cA _ _ _ _ _ _ _ (pv 3) jn (zk (v:=.int 99) a_ T.Pe.choose_spec ⟨_,a_⟩) a_ a_ a_)) (pA (jm (qy T) hr.dn a_ T.zb T.qr.kp T.zf .nil jq (@cA _ _ _ _ _ _ _ (pv 5) jn (zk (v:=.int 1000) a_ T.Pd.choose_spec ⟨_,a_⟩) a_ a_ a_)))))))))),?_⟩;refine⟨_,a_,xa2 _ _ _ true ⟨a_,.tup ha,a_,_,a_,?_⟩⟩;refine gd ?_;refine⟨_,a_,xa0 a (cL o) ⟨a_,.inr (ax.of ha),a_,_,a_,?_⟩⟩;refine gd ?_;refine⟨_,a_,xa0 a (cL o) ⟨a_,ax.of ha,a_,xa0 _ _ ⟨a_,xa0 _ _ ⟨a_,xa0 _ _ ⟨a_,xa0 _ _ ⟨a_,a_,?_⟩⟩⟩⟩⟩⟩;have fin:∀b,b=vp q o->Q (.bl b) H:=λb e=>e ▸ k;refine⟨_,a_,_,a_,xa0 _ _ ⟨a_,a_,xa1 _ _ _ ⟨a_,_,a_,?_⟩⟩⟩;refine bh (λh1=>fin _ ?_) (λh1=>?_)
 .have z:=nd h1;unfold vp;exact(t_ (λh=>z ⟨h.1,h.2.1⟩)).symm
 have z1:=yd h1;refine⟨_,a_,_,a_,xa0 _ _ ⟨a_,a_,xa1 _ _ _ ⟨a_,_,a_,?_⟩⟩⟩;refine bh (λh2=>fin _ ?_) (λh2=>?_)
 .have z:=nd h2;unfold vp;exact(t_ (λh=>z ⟨h.2.2.1,h.2.2.2.1⟩)).symm
 have z2:=yd h2;refine⟨_,a_,_,a_,a_,_,a_,?_⟩;refine bh (λh3=>?_) (λh3=>fin _ ?_)
 .have z3:¬o.p=o.g:=by simpa using h3
  refine⟨_,a_,xa1 _ _ _ ⟨a_,_,a_,?_⟩⟩;refine bh (λh4=>?_) (λh4=>fin _ ?_)
  .have z4:=w? h4;refine⟨_,a_,xa1 _ _ _ ⟨a_,fin _ ?_⟩⟩;unfold vp;rw[ġ,aaR,aaR];exact⟨λh=>⟨z1.1,z1.2,z2.1,z2.2,z3,z4.1,z4.2,h.1,h.2⟩,λh=>h.2.2.2.2.2.2.2⟩
  .have z4:¬(0<=o.n/\o.n<=99):=λh=>h4 (j' h);unfold vp;exact(t_ (λh=>z4 ⟨h.2.2.2.2.2.1,h.2.2.2.2.2.2.1⟩)).symm
 .have z3:o.p=o.g:=by simpa using h3
  unfold vp;exact(t_ (λh=>h.2.2.2.2.1 z3)).symm
theorem IJ (T:Txt K mg t):zu P w K mg base CX0 4 t.FL t.FN ["order"] jxo:=by
 refine T.BC.aZ (N:=["order"]) λ_ A _ s H vs Q E hr h=>?_;obtain⟨a,o,rfl,ha,ho,k⟩:=h;refine⟨_,(@jb _ _ _ _ _ (zo (xw (zt (jm (II T) hr.dn a_ T.Ii T.BB.kp T.ZD.choose_spec (show Vals [.int 8] _ from .cons ⟨_,a_⟩ .nil) jq (jc (pv 0) jf)))) (@je _ _ _ (SG)) qe) (@je _ _ _ (j5 (@gR _ _ _ _ _ (@ye _ _ _ _ _ (cx kR (pv 0) jn (λ_ _=>a_)) (cx kR (pv 0) jn (λ_ _=>a_)) a_ a_))))),?_⟩;refine⟨_,a_,xa1 a o 8 ⟨a_,ha,_,a_,j9t ho ?_⟩⟩;exact⟨_,a_,xa2 a (cL o) 0 (.int o.p) ⟨a_,a_,ax.of ha,a_,_,a_,xa2 a (cL o) 1 (.int o.n) ⟨a_,a_,ax.of ha,a_,oy,λp hp=>k p hp⟩⟩⟩
theorem BE {H:Hp}{a b:c_}{o:HO}(h:upd H a o b=none):b≠a/\H b=none:=by
 have hb:b≠a:=λz=>by rw[z,ja]at h;cases h
 rw[jd hb]at h;exact⟨hb,h⟩
noncomputable def iV (S:c_)(en:i_):b? (y_×V):=wm "signers" (.ref S) (wm "enough" (.int en) [])
theorem uh (S:c_)(en:i_):(iV S en).lookup ("signers":y_)=some (.ref S):=by unfold iV;rw[jj,j_ a_]
theorem wo (S:c_)(en:i_):(iV S en).lookup ("enough":y_)=some (.int en):=by unfold iV;rw[jj,f? (by decide+kernel),jj,j_ a_]
theorem lC (S:c_)(en:i_){m:y_}(h1:¬m="signers")(h2:¬m="enough"):(iV S en).lookup m=none:=by unfold iV;rw[jj,f? h1,jj,f? h2];rfl
noncomputable abbrev gL:=b? (b? Key×b? i_)
noncomputable def iW (H:Hp)(kv:b? Key×V)(p:b? Key×b? i_):Prop:=kv.1=p.1/\∃b,kv.2= .ref b/\H b=some (.lst (p.2.map V.int))
structure y7 (t:Ad)(H:Hp)(p dx S:c_)(en:i_)(aa:b? (b? Key×V))(ps:gL):Prop where
 ob:H p=some (.ins t.y6 dx (iV S en))
 sg:H S=some (.dT aa)
 hs:g? (iW H) aa ps
 un:(aa.map (·.2)).Nodup
theorem y7.same {t:Ad}{H H':Hp}{p dx S:c_}{en:i_}{aa:b? (b? Key×V)}{ps:gL}(s:xf H H')(b:y7 t H p dx S en aa ps):y7 t H' p dx S en aa ps:=⟨s _ _ b.ob,s _ _ b.sg,Paired.gi b.hs λ_ _ ⟨e,c,ec,h⟩=>⟨e,c,ec,s _ _ h⟩,b.un⟩
structure IK (t:Ad)(H:Hp)(p dx S:c_)(en:i_)(aa:b? (b? Key×V))(ps:gL):Prop where
 ob:H p=some (.ins t.y6 dx (iV S en))
 sg:Rd H S (.dT aa)
 hs:g? (iW H) aa ps
theorem y7.rd {t:Ad}{H:Hp}{p dx S:c_}{en:i_}{aa:b? (b? Key×V)}{ps:gL}(b:y7 t H p dx S en aa ps):IK t H p dx S en aa ps:=⟨b.ob,.inl b.sg,b.hs⟩
theorem sP {H H':Hp}{a:c_}{u:HO}(s:xf H H')(h:Rd H a u):Rd H' a u:=by
 rcases h with h|⟨o,h⟩
 .exact .inl (s _ _ h)
 .exact .inr ⟨o,s _ _ h⟩
noncomputable def qw:gL->b? Key->b? i_
 |[],_=>[]
 |p::ps,k=>if p.1=k then p.2 else qw ps k
theorem IL {H:Hp}{k:b? Key}:∀{aa:b? (b? Key×V)}{ps:gL},g? (iW H) aa ps->(br aa k=none/\qw ps k=[]/\k∉ps.map (·.1))\/∃b,br aa k=some (.ref b)/\H b=some (.lst ((qw ps k).map V.int)):=λ{aa ps} q=>by
 induction q with
 |nil=>exact .inl ⟨a_,a_,by simp⟩
 | @cons kv p aa ps a r ih=>
  obtain⟨e,b,eb,h⟩:=a;by_cases z:p.1=k
  .refine .inr ⟨b,?_,?_⟩
   .rw[mh (e.trans z),eb]
   .rw[qw,j_ z];exact h
  .have z':¬kv.1=k:=λq=>z (e.symm.trans q);rw[qw,f? z,mi z'];rcases ih with⟨h1,h2,h3⟩|h
   .exact .inl ⟨h1,h2,by rw[y?,B_];exact λq=>q.elim (λq=>z q.symm) h3⟩
   .exact .inr h
noncomputable def j2v (t:Ad):Sp:=λvs H Q _=>∃x dx en,vs=[.ref x,.int en]/\H x=some (.ins t.y6 dx [])/\∀S H',H S=none->y7 t H' x dx S en [] []->(∀b o,H b=some o->b≠x->H' b=some o)->Q .ar H'
noncomputable def Pr (t:Ad):Sp:=λvs H Q _=>∃p dx S en aa ps b k,vs=[.ref p,.ref b]/\IK t H p dx S en aa ps/\H b=some (.tup (k.map kV))/\∀H',xf H H'->Q (.bl (p_ (en<=((qw ps k).length:i_)))) H'
noncomputable def mF:gL->b? Key->i_->gL
 |[],k,h=>[(k,[h])]
 |p::ps,k,h=>if p.1=k then(p.1,p.2++[h])::ps else p::mF ps k h
noncomputable def NotIn (aa:b? (b? Key×V))(c:c_):Prop:=∀kv∈aa,kv.2≠.ref c
noncomputable def Pu (t:Ad):Sp:=λvs H Q _=>∃p dx S en aa ps b k h,vs=[.ref p,.int h,.ref b]/\y7 t H p dx S en aa ps/\H b=some (.tup (k.map kV))/\aa.length<=1000/\(qw ps k).length<=1000/\(h∈qw ps k->∀H',xf H H'->Q (.bl false) H')/\(h∉qw ps k->∀bL H',y7 t H' p dx S en bL (mF ps k h)->(∀c u,H c=some u->c≠S->NotIn aa c->H' c=some u)->(∀c u,H c=some u->NotIn aa c->NotIn bL c)->Q (.bl (p_ (((qw ps k).length:i_)+1=en))) H')
theorem Pw:∀{ps:gL}{k:b? Key}{h:i_},k∉ps.map (·.1)->mF ps k h=ps++[(k,[h])]
 |[],_,_,_=>a_
 |p::ps,k,h,z=>by rw[y?,B_]at z;rw[mF,f? (λe=>z (.inl e.symm)),Pw λe=>z (.inr e)];rfl
theorem qi {α β:Type}{F:α->β->Prop}:∀{xs:b? α}{ys:b? β}{x:α}{y:β},g? F xs ys->F x y->g? F (xs++[x]) (ys++[y]):=λ{xs ys x y} q h=>by
 induction q with
 |nil=>exact .cons h .nil
 |cons a _ ih=>exact .cons a ih
theorem Px {k:b? Key}{v:V}{aa:b? (b? Key×V)}(ev:br aa k=some v):v∈aa.map (·.2):=by
 unfold br at ev;cases hf:aa.find? (λkv=>p_ (kv.1=k))with
 |none=>rw[hf]at ev;cases ev
 |some q=>rw[hf]at ev;have e3:q.2=v:=o_ ev;rw[<-e3];exact N_ (į hf)
theorem w6 {h:i_}:∀{hs:b? i_},Ac (.int h) (hs.map V.int)=p_ (h∈hs)
 |[]=>a_
 |x::hs=>by
  have ih:=w6 (h:=h) (hs:=hs);simp only[y?,Ac,Ō]at ih⊢;rw[ih];show(x==h||decide (h∈hs))=_;by_cases e:h=x
  .simp[e]
  .have e':¬x=h:=λz=>e z.symm;simp[e,e']
theorem oB (hs:b? i_):(hs.map V.int).all md=true:=by rw[Ó];intro y hy;obtain⟨i,_,rfl⟩:=O_.mp hy;rfl
theorem j33 {H:Hp}{r:c_}(hr:H r=none):∀{aa:b? (b? Key×V)}{ps:gL},g? (iW H) aa ps->V.ref r∉aa.map (·.2):=λ{aa ps} q=>by
 induction q with
 |nil=>simp
 |@cons kv p aa ps a r ih=>
  obtain⟨_,b,eb,hb⟩:=a;rw[y?,B_]
  rintro(z|z)
  .rw[eb]at z;cases z;rw[hr]at hb;cases hb
  .exact ih z
theorem grown {H:Hp}{k:b? Key}{h:i_}{c:c_}:∀{aa:b? (b? Key×V)}{ps:gL},g? (iW H) aa ps->(aa.map (·.2)).Nodup->br aa k=some (.ref c)->g? (iW (upd H c (.lst ((qw ps k++[h]).map V.int)))) aa (mF ps k h):=λ{aa ps} q nd ev=>by
 induction q with
 |nil=>cases ev
 | @cons kv p aa ps a r ih=>
  obtain⟨e,b,eb,hb⟩:=a;rw[y?,X?]at nd;have keep:∀{aa:b? (b? Key×V)}{ps:gL}{o:HO}{a:c_},V.ref a∉aa.map (·.2)->g? (iW H) aa ps->g? (iW (upd H a o)) aa ps:=λ{aa ps o a} ha r=>by
   induction r with
   |nil=>exact .nil
   |cons q _ ih=>rw[y?,B_]at ha;obtain⟨q1,b,q2,q3⟩:=q;refine .cons ⟨q1,b,q2,?_⟩ (ih λz=>ha (.inr z));rw[jd (λz=>ha (.inl (by rw[q2,z])))];exact q3
  by_cases z:p.1=k
  .rw[mh (e.trans z),eb]at ev;cases ev;rw[mF,j_ z,qw,j_ z];rw[eb]at nd;exact .cons ⟨e,c,eb,ja⟩ (keep nd.1 r)
  .have z':¬kv.1=k:=λq=>z (e.symm.trans q);rw[mi z']at ev;rw[mF,f? z,qw,f? z];have hm:V.ref c∈aa.map (·.2):=Px ev;have IM:b≠c:=λq=>nd.1 (by rw[eb,q];exact hm);exact .cons ⟨e,b,eb,by rw[jd IM];exact hb⟩ (ih nd.2 ev)
noncomputable abbrev xE (J:It)(g:TG)(ti:TT)(te:TE)(U0:St)(H0:Hp)(Q:VK):Prop:=∃W:j?->j?->b? V->St->Hp->Prop,(∃m,W 0 m [] U0 H0)/\∀i m ys U H,W i m ys U H->ys.length<=k?/\((J.stop i H/\uP Q ys H)\/(J.go i H/\∃N:b? V->St->Hp->Prop,(∀ba U' H',N ba U' H'->∃m',m'<m/\W (i+1) m' ba U' H')/\∀x H',J.eF i H x H'->g x U H' λ U2 H2=>ti U2 H2 λb H3=>if b=true then te U2 H3 λy H4=>N (ys++[y]) U2 H4 else N ys U2 H3))
theorem BF {J:It}{g:TG}{ti:TT}{te:TE}{U0:St}{H0:Hp}{Q:VK}(n:j?)(Pv:j?->b? V->St->Hp->Prop)(h0:Pv 0 [] U0 H0)(hz:∀i ys U H,i<=n->Pv i ys U H->ys.length<=k?)(hg:∀i ys U H,i<n->Pv i ys U H->J.go i H/\∀x H',J.eF i H x H'->g x U H' λ U2 H2=>ti U2 H2 λb H3=>if b=true then te U2 H3 λy H4=>Pv (i+1) (ys++[y]) U2 H4 else Pv (i+1) ys U2 H3)(hd:∀ys U H,Pv n ys U H->J.stop n H/\uP Q ys H):xE J g ti te U0 H0 Q:=by
 refine⟨λi m ys U H=>m=n-i/\i<=n/\Pv i ys U H,⟨n,by simp,W_ _,h0⟩,?_⟩
 rintro i m ys U H ⟨rfl,hi,p⟩
 refine⟨hz i ys U H hi p,?_⟩;by_cases aA:i<n
 .obtain⟨a,b⟩:=hg i ys U H aA p;exact .inr ⟨a,Pv (i+1),λba U' H' p'=>⟨n-(i+1),by lia,a_,aA,p'⟩,b⟩
 .have e:i=n:=by lia
  subst e;exact .inl (hd ys U H p)
theorem IP {a:c_}{o:J_}{aa:b? (b? Key×V)}{g:TG}{ti:TT}{te:TE}{U0:St}{H0:Hp}{Q:VK}(Pv:j?->b? V->St->Hp->Prop)(h0:Pv 0 [] U0 H0)(hl:∀i ys U H,i<=aa.length->Pv i ys U H->H a=some (.az o (.dT aa))/\ys.length<=k?)(hs:∀i kv b ys U H,aa[i]?=some kv->H b=some (.tup (kv.1.map kV))->Pv i ys U H->g (.ref b) U H λ U2 H2=>ti U2 H2 λc H3=>if c=true then te U2 H3 λy H4=>Pv (i+1) (ys++[y]) U2 H4 else Pv (i+1) ys U2 H3)(hd:∀ys U H,Pv aa.length ys U H->∀p,H p=none->Q (.ref p) (upd H p (.lst ys))):
  xE (EK a o aa) g ti te U0 H0 Q:=BF aa.length Pv h0 (λi ys U H hi p=>(hl i ys U H hi p).2) (λi ys U H hi p=>⟨⟨hi,(hl i ys U H (Ć hi) p).1⟩,λx H' y=>by obtain⟨e,kv,b,ek,ex,eb⟩:=y;subst e ex;exact hs i kv b ys U _ ek eb p⟩) λys U H p=>⟨⟨s_ _,(hl _ ys U H (s_ _) p).1⟩,hd ys U H p⟩
noncomputable abbrev yz:=b? (b? i_×b? i_)
noncomputable def cG (t:b? i_):b? Key:=t.map Q?
noncomputable def bU (is:yz):gL:=is.map λp=>(cG p.1,p.2)
theorem xF (t:b? i_):(cG t).map kV=t.map V.int:=by unfold cG;rw[Ÿ];rfl
theorem IQ {t u:b? i_}(h:cG t=cG u):t=u:=(ř (λ_ _ z=>Q?.inj z)).mp h
noncomputable def yw (is:yz)(en:i_):b? (b? i_):=(is.filter λp=>p_ (en<=(p.2.length:Int))).map (·.1)
theorem IT:∀{is:yz}{i:j?}{p:b? i_×b? i_},(is.map (·.1)).Nodup->is[i]?=some p->qw (bU is) (cG p.1)=p.2
 |[],_,_,_,e=>by simp at e
 |x::is,0,p,_,e=>by cases o_ e;show(if cG x.1=cG x.1 then x.2 else _)=_;rw[j_ a_]
 |x::is,i+1,p,nd,e=>by rw[y?,X?]at nd;have hm:p∈is:=r? (by simpa using e);show(if cG x.1=cG p.1 then x.2 else qw (bU is) (cG p.1))=_;rw[f? λz=>nd.1 (by rw[IQ z];exact N_ hm)];exact IT nd.2 (by simpa using e)
noncomputable abbrev jx:=b? (Cut×b? i_)
noncomputable def k2 (k:Cut):K2:=(k.1.map Q?,k.2.map Q?)
theorem BG {a b:Cut}(h:k2 a=k2 b):a=b:=by have i:∀{x y:b? i_},x.map (Q?:i_->Key)=y.map Q?->x=y:=λz=>(ř λ_ _ z=>Q?.inj z).mp z;exact ű (i (T_ Prod.fst h)) (i (T_ Prod.snd h))
noncomputable def iH (H:Hp)(x:K2×c_×V)(p:Cut×b? i_):Prop:=x.1=k2 p.1/\∃b,x.2.2= .ref b/\H b=some (.lst (p.2.map V.int))
noncomputable def gM (P:n_)(w:z?)(H:Hp)(S:c_)(xs:P2):Prop:=(H S=some (dP P w S xs)\/xs=[]/\H S=some (.dT []))/\∀x∈xs,fU H x.1 x.2.1
theorem gM.at_ {P:n_}{w:z?}{H:Hp}{S:c_}{xs:P2}(h:gM P w H S xs):jR P w H S xs:=⟨h.1.imp .inl λz=>⟨z.1,.inl z.2⟩,h.2⟩
theorem gM.mut {P:n_}{w:z?}{H:Hp}{S:c_}{xs:P2}(h:gM P w H S xs):fO (H S):=by rcases h.1 with e|⟨_,e⟩<;>(rw[e];exact q_)
theorem Py {P:n_}{w:z?}{H H':Hp}{S:c_}{xs:P2}(s:xf H H')(h:jR P w H S xs):jR P w H' S xs:=⟨h.1.imp (sP s) λz=>⟨z.1,sP s z.2⟩,λx hx=>(h.2 x hx).keeps λ_ _ e=>s _ _ e⟩
theorem gM.same {P:n_}{w:z?}{H H':Hp}{S:c_}{xs:P2}(s:xf H H')(h:gM P w H S xs):gM P w H' S xs:=⟨h.1.imp (s _ _) λz=>⟨z.1,s _ _ z.2⟩,λx hx=>(h.2 x hx).keeps λ_ _ e=>s _ _ e⟩
theorem gM.ne {P:n_}{w:z?}{H:Hp}{S a:c_}{xs:P2}{ys:b? V}(h:gM P w H S xs)(e:H a=some (.tup ys)):a≠S:=λz=>by
 subst z;rcases h.1 with f|⟨_,f⟩
 .rw[e]at f;cases(show HO.tup ys=HO.ext _ from o_ f)
 .rw[e]at f;cases f
theorem gM.ny {P:n_}{w:z?}{H:Hp}{S a:c_}{xs:P2}{ys:b? V}(h:gM P w H S xs)(e:H a=some (.lst ys)):a≠S:=λz=>by
 subst z;rcases h.1 with f|⟨_,f⟩
 .rw[e]at f;cases(show HO.lst ys=HO.ext _ from o_ f)
 .rw[e]at f;cases f
structure jX (P:n_)(w:z?)(t:Ad)(H:Hp)(p dx S:c_)(en:i_)(xs:P2)(ps:jx):Prop where
 ob:H p=some (.ins t.y6 dx (iV S en))
 sg:gM P w H S xs
 hs:g? (iH H) xs ps
 un:(xs.map (·.2.2)).Nodup
theorem j8o {H H':Hp}{xs:P2}{ps:jx}(s:xf H H')(h:g? (iH H) xs ps):g? (iH H') xs ps:=Paired.gi h λ_ _ ⟨e,c,ec,q⟩=>⟨e,c,ec,s _ _ q⟩
theorem jX.same {P:n_}{w:z?}{t:Ad}{H H':Hp}{p dx S:c_}{en:i_}{xs:P2}{ps:jx}(s:xf H H')(b:jX P w t H p dx S en xs ps):jX P w t H' p dx S en xs ps:=⟨s _ _ b.ob,b.sg.same s,j8o s b.hs,b.un⟩
structure BH (P:n_)(w:z?)(t:Ad)(H:Hp)(p dx S:c_)(en:i_)(xs:P2)(ps:jx):Prop where
 ob:H p=some (.ins t.y6 dx (iV S en))
 sg:jR P w H S xs
 hs:g? (iH H) xs ps
theorem jX.rd {P:n_}{w:z?}{t:Ad}{H:Hp}{p dx S:c_}{en:i_}{xs:P2}{ps:jx}(b:jX P w t H p dx S en xs ps):BH P w t H p dx S en xs ps:=⟨b.ob,b.sg.at_,b.hs⟩
noncomputable def jv:jx->Cut->b? i_
 |[],_=>[]
 |p::ps,k=>if p.1=k then p.2 else jv ps k
noncomputable def jY:jx->Cut->i_->jx
 |[],k,h=>[(k,[h])]
 |p::ps,k,h=>if p.1=k then(p.1,p.2++[h])::ps else p::jY ps k h
theorem IU {x:K2×c_×V}{xs:P2}{k:K2}(e:x.1=k):cy (x::xs) k=some x.2.2:=by simp[cy,É,e]
theorem IV {x:K2×c_×V}{xs:P2}{k:K2}(e:¬x.1=k):cy (x::xs) k=cy xs k:=by simp[cy,É,e]
theorem ud {H:Hp}{k:Cut}{xs:P2}{ps:jx}(p:g? (iH H) xs ps):(cy xs (k2 k)=none/\jv ps k=[]/\k∉ps.map (·.1))\/∃b,cy xs (k2 k)=some (.ref b)/\H b=some (.lst ((jv ps k).map V.int)):=by
 induction p with
 |nil=>exact .inl ⟨a_,a_,by simp⟩
 | @cons x q xs ps h r ih=>
  obtain⟨e,b,eb,hb⟩:=h;by_cases z:q.1=k
  .exact .inr ⟨b,by rw[IU (by rw[e,z]),eb],by rw[jv,j_ z];exact hb⟩
  .rw[jv,f? z,IV (λy=>z (BG (e.symm.trans y)))];rcases ih with⟨h1,h2,h3⟩|h
   .exact .inl ⟨h1,h2,by rw[y?,B_];exact λy=>y.elim (λy=>z y.symm) h3⟩
   .exact .inr h
theorem IW {k:Cut}{h:i_}:∀{ps:jx},k∉ps.map (·.1)->jY ps k h=ps++[(k,[h])]
 |[],_=>a_
 |p::ps,z=>by rw[y?,B_]at z;rw[jY,f? (λe=>z (.inl e.symm)),IW λe=>z (.inr e)];rfl
theorem Pz {k:K2}{v:V}{xs:P2}(ev:cy xs k=some v):v∈xs.map (·.2.2):=by
 unfold cy at ev;cases hf:xs.find? (λx=>p_ (x.1=k))with
 |none=>rw[hf]at ev;cases ev
 |some q=>rw[hf]at ev;have e3:q.2.2=v:=o_ ev;rw[<-e3];exact N_ (į hf)
theorem j29 {H:Hp}{r:c_}(hr:H r=none){xs:P2}{ps:jx}(p:g? (iH H) xs ps):V.ref r∉xs.map (·.2.2):=by
 induction p with
 |nil=>simp
 |cons h _ ih=>
  obtain⟨_,b,eb,hb⟩:=h;rw[y?,B_]
  rintro(z|z)
  .rw[eb]at z;cases z;rw[hr]at hb;cases hb
  .exact ih z
theorem qam {H:Hp}{k:Cut}{h:i_}{c:c_}{xs:P2}{ps:jx}(p:g? (iH H) xs ps)(nd:(xs.map (·.2.2)).Nodup)(ev:cy xs (k2 k)=some (.ref c)):g? (iH (upd H c (.lst ((jv ps k++[h]).map V.int)))) xs (jY ps k h):=by
 have keep:∀{xs:P2}{ps:jx}{o:HO}{a:c_},V.ref a∉xs.map (·.2.2)->g? (iH H) xs ps->g? (iH (upd H a o)) xs ps:=λ{xs ps o a} ha r=>by
  induction r with
  |nil=>exact .nil
  |cons q _ ih=>rw[y?,B_]at ha;obtain⟨q1,b,q2,q3⟩:=q;refine .cons ⟨q1,b,q2,?_⟩ (ih λz=>ha (.inr z));rw[jd (λz=>ha (.inl (by rw[q2,z])))];exact q3
 induction p with
 |nil=>cases ev
 |@cons x q xs ps a r ih=>
  obtain⟨e,b,eb,hb⟩:=a;rw[y?,X?]at nd;by_cases z:q.1=k
  .rw[IU (by rw[e,z]),eb]at ev;cases ev;rw[jY,j_ z,jv,j_ z];rw[eb]at nd;exact .cons ⟨e,c,eb,ja⟩ (keep nd.1 r)
  .rw[IV (λy=>z (BG (e.symm.trans y)))]at ev;rw[jY,f? z,jv,f? z];have IM:b≠c:=λy=>nd.1 (by rw[eb,y];exact Pz ev);exact .cons ⟨e,b,eb,by rw[jd IM];exact hb⟩ (ih nd.2 ev)
noncomputable def lD (xs:P2)(c:c_):Prop:=∀x∈xs,x.2.2≠.ref c
noncomputable def jx8 (P:n_)(w:z?)(t:Ad):Sp:=λvs H Q _=>∃p dx S en xs ps b k,vs=[.ref p,.ref b]/\BH P w t H p dx S en xs ps/\fU H (k2 k) b/\∀H',xf H H'->Q (.bl (p_ (en<=((jv ps k).length:i_)))) H'
noncomputable def PB (P:n_)(w:z?)(t:Ad):Sp:=λvs H Q _=>∃p dx S en xs ps b k h,vs=[.ref p,.int h,.ref b]/\jX P w t H p dx S en xs ps/\fU H (k2 k) b/\xs.length<=1000/\(jv ps k).length<=1000/\(h∈jv ps k->∀H',xf H H'->Q (.bl false) H')/\(h∉jv ps k->∀aE H',jX P w t H' p dx S en aE (jY ps k h)->(∀c u,H c=some u->c≠S->lD xs c->H' c=some u)->(∀c u,H c=some u->lD xs c->lD aE c)->Q (.bl (p_ (((jv ps k).length:i_)+1=en))) H')
section
variable {P:n_}{w:z?}{K:e?}{mg:y_->f_ b_}{base:k_}{t:Ad}
theorem PD (T:Txt K mg t):zu P w K mg base CX0 1 t.vd t.vk ["self","thing"] (λvs H Q E=>Pr t vs H Q E\/jx8 P w t vs H Q E):=by
 refine T.ZZ.ok Zk (λvs H Q E h=>?_) (λaD A outer s H vs Q E hr h=>?_)
 .rcases h with⟨p,dx,S,en,aa,ps,b,k,rfl,_⟩|⟨p,dx,S,en,xs,ps,b,k,rfl,_⟩<;>rfl
 .refine⟨_,(@je _ _ _ (j5 (kP DD (jl jt a_ T.cB boot_len (jc (E9 (my hr) (j4 (pv 0) a_) (pv 1) (@zj _ _ _ _ jf) ⟨a_,a_,a_,a_⟩) jf)) (j4 (pv 0) a_) (qc _)))),?_⟩;rcases h with⟨p,dx,S,en,aa,ps,b,k,rfl,Bq,hb,q⟩|⟨p,dx,S,en,xs,ps,b,k,rfl,Bq,hb,q⟩;case inr=>
   refine⟨_,a_,xa3 p _ dx _ _ ⟨a_,Bq.ob,T.qj,T.qx,uh _ _,S,a_,.inr ⟨xs,Bq.sg⟩,_,a_,cz,λr hr=>?_⟩⟩;have s1:=jg (o:=.lst []) hr;refine⟨_,.inr (xa1 xs (k2 k) b ⟨Py s1 Bq.sg,a_,hb.keeps λ_ _ e=>s1 _ _ e,a_⟩),?_⟩;rcases ud (k:=k) Bq.hs with⟨h1,h2,h3⟩|⟨c,h1,h2⟩
   .rw[h1];refine⟨r,[],a_,.inl (ah.of ja),_,a_,p,_,dx,_,_,a_,s1 _ _ Bq.ob,T.qj,T.qk,wo _ _,_,_,a_,a_,?_⟩;have:=q _ s1;rw[h2]at this;exact this
   .rw[h1];refine(xa0 c _ ⟨a_,.inl (ah.of (s1 _ _ h2)),_,a_,xa3 p _ dx _ _ ⟨a_,s1 _ _ Bq.ob,T.qj,T.qk,wo _ _,xa0 _ _ ⟨a_,a_,?_⟩⟩⟩);rw[i?];exact q _ s1
  refine⟨_,a_,xa3 p _ dx _ _ ⟨a_,Bq.ob,T.qj,T.qx,uh _ _,S,a_,.inl (.inr ⟨aa,Bq.sg⟩),_,a_,cz,λr hr=>?_⟩⟩;have s1:=jg (o:=.lst []) hr;refine⟨_,.inl (.inr (xa1 aa k b ⟨sP s1 Bq.sg,a_,s1 _ _ hb,a_⟩)),?_⟩;rcases IL (k:=k) Bq.hs with⟨h1,h2,h3⟩|⟨c,h1,h2⟩
  .rw[h1];refine⟨r,[],a_,.inl (ah.of ja),_,a_,p,_,dx,_,_,a_,s1 _ _ Bq.ob,T.qj,T.qk,wo _ _,_,_,a_,a_,?_⟩;have:=q _ s1;rw[h2]at this;exact this
  .rw[h1];refine(xa0 c _ ⟨a_,.inl (ah.of (s1 _ _ h2)),_,a_,xa3 p _ dx _ _ ⟨a_,s1 _ _ Bq.ob,T.qj,T.qk,wo _ _,xa0 _ _ ⟨a_,a_,?_⟩⟩⟩);rw[i?];exact q _ s1
theorem PF (T:Txt K mg t):zu P w K mg base CX0 1 t.vd t.vk ["self","thing"] (Pr t):=(PD T).imp λ_ _ _ _ h=>.inl h
theorem PH (T:Txt K mg t):zu P w K mg base CX0 1 t.xB t.xC ["self","house","thing"] (λvs H Q E=>Pu t vs H Q E\/PB P w t vs H Q E):=by
 refine T.Z7.ok Od (λvs H Q E h=>?_) (λaD A outer s H vs Q E hr h=>?_)
 .rcases h with⟨p,dx,S,en,aa,ps,b,k,h,rfl,_⟩|⟨p,dx,S,en,xs,ps,b,k,h,rfl,_⟩<;>rfl
 .refine⟨_,(@jb _ _ _ _ _ (j9 (i:=3) Od.nd a_ (w_ a_) (Yd (my hr) (j4 (pv 0) a_) (pv 2) (@zj _ _ _ _ jf) ⟨a_,a_,a_,a_⟩)) (@jb _ _ _ _ _ (zo (ju LH (pv 1) (pv 3) (by with_unfolding_all rfl)) (@je _ _ _ (j5 gQ)) qe) (@jb _ _ _ _ _ (j8 (fT A? D_ E_ y3 (pv 3) (jc (pv 1) jf))) (@je _ _ _ (j5 (kP eI (jl jt a_ T.cB boot_len (jc (pv 3) jf)) (j4 (pv 0) a_) (qc _))))))),?_⟩;rcases h with⟨p,dx,S,en,aa,ps,b,k,h,rfl,Bq,hb,l1,l2,q1,q2⟩|⟨p,dx,S,en,xs,ps,b,k,h,rfl,Bq,hb,l1,l2,q1,q2⟩;case inr=>
   refine⟨_,a_,xa3 p _ dx _ _ ⟨a_,Bq.ob,T.qj,T.qx,uh _ _,S,a_,.inr ⟨xs,Bq.sg.at_⟩,_,a_,cz,λr hr=>?_⟩⟩;have s1:=jg (o:=.lst []) hr;have B1:=Bq.same s1;have hb1:=hb.keeps λ_ _ e=>s1 _ _ e;refine .inr (xa1 xs (k2 k) b ⟨B1.sg.mut,B1.sg.at_,a_,hb1,zq l1,λv hv=>?_,λhv=>?_⟩)
   .rcases ud (k:=k) B1.hs with⟨z,_⟩|⟨c,h1,h2⟩
    .rw[hv]at z;cases z
    cases o_ (hv.symm.trans h1);refine⟨_,a_,_,a_,c,_,a_,.inl (ah.of h2),a_,oB _,_,a_,bh (λz=>?_) (λz=>?_)⟩
    .rw[f? (by decide),w6]at z;exact q1 (w? z) _ s1
    rw[f? (by decide),w6]at z;have nh:h∉jv ps k:=λy=>z (j' y);have pc:p≠c:=gA B1.ob h2 (by intro z;cases z);have Sc:c≠S:=B1.sg.ny h2;refine⟨_,a_,.inl ⟨a_,_,ah.of h2⟩,_,a_,xa1 c _ _ ⟨a_,a_,h2,zq (by rw[i?];exact l2),?_⟩⟩;refine⟨_,a_,xa0 c _ ⟨a_,.inl (ah.of ja),_,a_,xa3 p _ dx _ _ ⟨a_,(by rw[jd pc];exact B1.ob),T.qj,T.qk,wo _ _,a_,?_⟩⟩⟩;have G:=qam (h:=h) B1.hs B1.un h1;rw[H_]at G;have e:p_ (V.int (((jv ps k).map V.int++[V.int h]).length:j?)=V.int en)=p_ (((jv ps k).length:i_)+1=en):=by rw[r_,i?];simp
    have cj:∀b ys,upd H r (.lst []) b=some (.tup ys)->upd (upd H r (.lst [])) c (.lst ((jv ps k).map V.int++[.int h])) b=some (.tup ys):=λb ys eb=>by rw[jd (gA eb h2 (by intro z;cases z))];exact eb
    have goal:=q2 nh xs _ ⟨by rw[jd pc];exact B1.ob,⟨B1.sg.1.imp (λz=>by rw[jd Sc.symm];exact z) λz=>⟨z.1,by rw[jd Sc.symm];exact z.2⟩,λx hx=>(B1.sg.2 x hx).keeps cj⟩,G,B1.un⟩ λc' u hc cS cN=>by
     have ne:c'≠c:=λy=>by obtain⟨x,hm,ek⟩:=O_.mp (Pz h1);exact cN x hm (by rw[ek,y])
     rw[jd ne];exact s1 _ _ hc
    have goal:=goal λ_ _ _ z=>z;rw[<-e]at goal;exact goal
   .rcases ud (k:=k) B1.hs with⟨_,h2,h3⟩|⟨c,z,_⟩;case inr=>rw[hv]at z;cases z
    have rS:r≠S:=(B1.sg.ny ja);have rp:r≠p:=(jh Bq.ob hr).symm;have pS:p≠S:=λz=>by
     have h0:=Bq.ob;rw[z]at h0;rcases Bq.sg.1 with f|⟨_,f⟩
     .rw[h0]at f;cases(show HO.ins _ _ _=HO.ext _ from o_ f)
     .rw[h0]at f;cases f
    have lE:upd (upd H r (.lst [])) S (dP P w S (xs++[(k2 k,b,.ref r)])) r=some (.lst []):=by rw[jd rS];exact ja
    refine⟨_,a_,_,a_,xa0 r [] ⟨a_,.inl (ah.of lE),a_,a_,_,a_,gd ?_⟩⟩;refine⟨_,a_,.inl ⟨a_,_,ah.of lE⟩,_,a_,xa1 r [] _ ⟨a_,a_,lE,(by show 0<k?;decide),?_⟩⟩;have xG:upd (upd (upd H r (.lst [])) S (dP P w S (xs++[(k2 k,b,.ref r)]))) r (.lst ([]++[.int h])) p=some (.ins t.y6 dx (iV S en)):=by rw[jd rp.symm,jd pS];exact B1.ob
    refine⟨_,a_,xa0 r _ ⟨a_,.inl (ah.of ja),_,a_,xa3 p _ dx _ _ ⟨a_,xG,T.qj,T.qk,wo _ _,a_,?_⟩⟩⟩;have up:∀a u,H a=some u->a≠S->upd (upd (upd H r (.lst [])) S (dP P w S (xs++[(k2 k,b,.ref r)]))) r (.lst ([]++[.int h])) a=some u:=λa u ea aS=>by rw[jd (jh ea hr),jd aS,jd (jh ea hr)];exact ea
    have cj:∀b' ys,H b'=some (.tup ys)->upd (upd (upd H r (.lst [])) S (dP P w S (xs++[(k2 k,b,.ref r)]))) r (.lst ([]++[.int h])) b'=some (.tup ys):=λb' ys eb=>by rw[jd (jh eb hr),jd (Bq.sg.ne eb),jd (jh eb hr)];exact eb
    have goal:=q2 (by rw[h2];simp) (xs++[(k2 k,b,.ref r)]) (upd (upd (upd H r (.lst [])) S (dP P w S (xs++[(k2 k,b,.ref r)]))) r (.lst ([]++[.int h]))) ⟨xG,⟨.inl (by rw[jd rS.symm];exact ja),λx hx=>?_⟩,?_,?_⟩ (λc' u hc cS _=>up c' u hc cS)
    .have goal:=goal λc u hc z x hm=>by
      rcases A_.mp hm with y|y
      .exact z x y
      .have y':x=(k2 k,b,.ref r):=by simpa using y
       rw[y'];intro w';have w2:r=c:=by simpa using w'
       rw[<-w2,hr]at hc;cases hc
     rw[h2]at goal;have e:p_ (V.int ((([]:b? V)++[V.int h]).length:j?)=V.int en)=p_ ((([]:b? i_).length:i_)+1=en):=by simp
     rw[<-e]at goal;exact goal
    .rcases A_.mp hx with hx|hx
     .obtain⟨c,d,e1,e2,e3⟩:=Bq.sg.2 x hx;exact(xa0 c d ⟨cj _ _ e1,cj _ _ e2,cj _ _ e3⟩)
     .have y':x=(k2 k,b,.ref r):=by simpa using hx
      rw[y'];obtain⟨c,d,e1,e2,e3⟩:=hb;exact(xa0 c d ⟨cj _ _ e1,cj _ _ e2,cj _ _ e3⟩)
    .rw[IW h3];refine qi (Paired.gi Bq.hs λx pp ⟨e1,c,e2,e3⟩=>⟨e1,c,e2,up c _ e3 (Bq.sg.ny e3)⟩) ⟨a_,r,a_,ja⟩
    .rw[H_,ä];refine⟨Bq.un,by simp,λx hx y hy e=>?_⟩;rw[y?,ī,m?]at hy;rw[e,hy]at hx;exact j29 hr Bq.hs hx
  refine⟨_,a_,xa3 p _ dx _ _ ⟨a_,Bq.ob,T.qj,T.qx,uh _ _,S,a_,.inl (.inr ⟨aa,.inl Bq.sg⟩),_,a_,cz,λr hr=>?_⟩⟩;have s1:=jg (o:=.lst []) hr;have B1:=Bq.same s1;refine .inl (xa1 aa k b ⟨B1.sg,a_,s1 _ _ hb,zq l1,λv hv=>?_,λhv=>?_⟩)
  .rcases IL (k:=k) B1.hs with⟨z,_⟩|⟨c,h1,h2⟩
   .rw[hv]at z;cases z
   cases o_ (hv.symm.trans h1);refine⟨_,a_,_,a_,c,_,a_,.inl (ah.of h2),a_,oB _,_,a_,bh (λz=>?_) (λz=>?_)⟩
   .rw[f? (by decide),w6]at z;exact q1 (w? z) _ s1
   rw[f? (by decide),w6]at z;have nh:h∉qw ps k:=λy=>z (j' y);have pc:p≠c:=gA B1.ob h2 (by intro z;cases z);have Sc:S≠c:=gA B1.sg h2 (by intro z;cases z);refine⟨_,a_,.inl ⟨a_,_,ah.of h2⟩,_,a_,xa1 c _ _ ⟨a_,a_,h2,zq (by rw[i?];exact l2),?_⟩⟩;refine⟨_,a_,xa0 c _ ⟨a_,.inl (ah.of ja),_,a_,xa3 p _ dx _ _ ⟨a_,(by rw[jd pc];exact B1.ob),T.qj,T.qk,wo _ _,a_,?_⟩⟩⟩;have G:=grown (h:=h) B1.hs B1.un h1;rw[H_]at G;have e:p_ (V.int (((qw ps k).map V.int++[V.int h]).length:j?)=V.int en)=p_ (((qw ps k).length:i_)+1=en):=by rw[r_,i?];simp
   have goal:=q2 nh aa _ ⟨by rw[jd pc];exact B1.ob,by rw[jd Sc];exact B1.sg,G,B1.un⟩ λc' u hc cS cN=>by
    have ne:c'≠c:=λy=>by obtain⟨kv,hm,ek⟩:=O_.mp (Px h1);exact cN kv hm (by rw[ek,y])
    rw[jd ne];exact s1 _ _ hc
   have goal:=goal λ_ _ _ z=>z;rw[<-e]at goal;exact goal
  .rcases IL (k:=k) B1.hs with⟨_,h2,h3⟩|⟨c,z,_⟩;case inr=>rw[hv]at z;cases z
   have rS:r≠S:=(jh Bq.sg hr).symm;have rp:r≠p:=(jh Bq.ob hr).symm;have Sp:S≠p:=gA Bq.sg Bq.ob (by intro z;cases z);rw[Aj _ hv];have lE:upd (upd H r (.lst [])) S (.dT (aa++[(k,.ref r)])) r=some (.lst []):=by rw[jd rS];exact ja
   refine⟨_,a_,_,a_,xa0 r [] ⟨a_,.inl (ah.of lE),a_,a_,_,a_,gd ?_⟩⟩;refine⟨_,a_,.inl ⟨a_,_,ah.of lE⟩,_,a_,xa1 r [] _ ⟨a_,a_,lE,(by show 0<k?;decide),?_⟩⟩;have xG:upd (upd (upd H r (.lst [])) S (.dT (aa++[(k,.ref r)]))) r (.lst ([]++[.int h])) p=some (.ins t.y6 dx (iV S en)):=by rw[jd rp.symm,jd Sp.symm];exact B1.ob
   refine⟨_,a_,xa0 r _ ⟨a_,.inl (ah.of ja),_,a_,xa3 p _ dx _ _ ⟨a_,xG,T.qj,T.qk,wo _ _,a_,?_⟩⟩⟩;have goal:=q2 (by rw[h2];simp) (aa++[(k,.ref r)]) (upd (upd (upd H r (.lst [])) S (.dT (aa++[(k,.ref r)]))) r (.lst ([]++[.int h]))) ⟨xG,by rw[jd rS.symm];exact ja,by
    rw[Pw h3];refine qi (Paired.gi Bq.hs λkv pp ⟨e1,c,e2,e3⟩=>⟨e1,c,e2,?_⟩) ⟨a_,r,a_,ja⟩;rw[jd (jh e3 hr),jd (gA e3 Bq.sg (by intro z;cases z)),jd (jh e3 hr)];exact e3,by
    rw[H_,ä];refine⟨Bq.un,by simp,λx hx y hy e=>?_⟩;rw[y?,ī,m?]at hy;rw[e,hy]at hx;exact j33 hr Bq.hs hx⟩ λc' u hc cS _=>by rw[jd (jh hc hr),jd cS,jd (jh hc hr)];exact hc
   have goal:=goal λc u hc z kv hm=>by
    rcases A_.mp hm with y|y
    .exact z kv y
    .have y':kv=(k,.ref r):=by simpa using y
     rw[y'];intro w;have w':r=c:=by simpa using w
     rw[<-w',hr]at hc;cases hc
   rw[h2]at goal;have e:p_ (V.int ((([]:b? V)++[V.int h]).length:j?)=V.int en)=p_ ((([]:b? i_).length:i_)+1=en):=by simp
   rw[<-e]at goal;exact goal
theorem jv2 (T:Txt K mg t):zu P w K mg base CX0 1 t.xB t.xC ["self","house","thing"] (Pu t):=(PH T).imp λ_ _ _ _ h=>.inl h
theorem PJ (T:Txt K mg t):zu P w K mg base CX0 1 t.xB t.xC ["self","house","thing"] (PB P w t):=(PH T).imp λ_ _ _ _ h=>.inr h
noncomputable def jZ (H:Hp)(v:V)(t:b? i_):Prop:=∃a,v= .ref a/\H a=some (.tup (t.map V.int))
theorem jZ.same {H H':Hp}(s:xf H H'){v:V}{t:b? i_}(h:jZ H v t):jZ H' v t:=let⟨a,e,q⟩:=h;⟨a,e,s _ _ q⟩
theorem jZ.at_ {K:e?}{H:Hp}{vs:b? V}{ts:b? (b? i_)}(h:g? (jZ H) vs ts):Ez K H vs ts:=Paired.gi h λ_ _ ⟨a,e,q⟩=>⟨a,e,ax.of q⟩
theorem PL {F:V->b? i_->Prop}{vs:b? V}{ts:b? (b? i_)}(p:g? F vs ts):∀{ix:b? j?},(∀i∈ix,i<vs.length)->g? F (ix.map λi=>vs.getD i .ar) (ix.map λi=>ts.getD i [])
 |[],_=>.nil
 |i::ix,h=>by obtain⟨t,e,q⟩:=qa p (n? (h i t?));rw[y?,y?];refine .cons ?_ (PL p λj hj=>h j (u_ _ hj));rw[J?,J?,e,n? (h i t?)];exact q
theorem PM (T:Txt K mg t):zu P w K mg base CX0 1 t.pf t.Gi ["self","enough"] (j2v t):=by
 refine T.ZY.aZ (N:=["self","enough"]) λ_ A _ s H vs Q E hr h=>?_;obtain⟨x,dx,en,rfl,hx,k⟩:=h;refine⟨_,(@jb _ _ _ _ _ (dN (pv 0) (pv 1) a_) (@je _ _ _ (dN (pv 0) Al a_))),?_⟩;refine⟨_,a_,_,a_,xa2 x _ dx _ ⟨a_,hx,T.qj,T.qk,(by show 0<1000;decide),λS hS=>?_⟩⟩;obtain⟨Sx,PN⟩:=BE hS;refine⟨_,a_,xa2 x _ dx _ ⟨a_,(by rw[jd (Í Sx),ja]),T.qj,T.qx,(by show 1<1000;decide),?_⟩⟩;refine k S _ PN ⟨ja,by rw[jd Sx];exact ja,.nil,.nil⟩ λb o e bx=>?_;rw[jd bx,jd (jh e PN),jd bx];exact e
noncomputable def cC (H:Hp)(k:Cut)(b:c_):Prop:=∃c d,H b=some (.tup [.ref c,.ref d])/\H c=some (.tup (k.1.map V.int))/\H d=some (.tup (k.2.map V.int))
theorem cC.pair {H:Hp}{k:Cut}{b:c_}(h:cC H k b):fU H (k2 k) b:=by obtain⟨c,d,h1,h2,h3⟩:=h;exact(xa0 c d ⟨h1,by rw[<-xF]at h2;exact h2,by rw[<-xF]at h3;exact h3⟩)
theorem PO {H:Hp}{k:Cut}{b:c_}(h:fU H (k2 k) b):cC H k b:=by obtain⟨c,d,h1,h2,h3⟩:=h;exact(xa0 c d ⟨h1,by rw[<-xF];exact h2,by rw[<-xF];exact h3⟩)
theorem cC.same {H H':Hp}{k:Cut}{b:c_}(s:xf H H')(h:cC H k b):cC H' k b:=let⟨c,d,h1,h2,h3⟩:=h;(xa0 c d ⟨s _ _ h1,s _ _ h2,s _ _ h3⟩)
theorem PQ {P:n_}{w:z?}{a:c_}{o:J_}{xs:P2}{g:TG}{ti:TT}{te:TE}{U0:St}{H0:Hp}{Q:VK}(Pv:j?->b? V->St->Hp->Prop)(h0:Pv 0 [] U0 H0)(hl:∀i ys U H,i<=xs.length->Pv i ys U H->H a=some (.az o (dP P w a xs))/\ys.length<=k?)(hs:∀i x ys U H,xs[i]?=some x->Pv i ys U H->g (.ref x.2.1) U H λ U2 H2=>ti U2 H2 λc H3=>if c=true then te U2 H3 λy H4=>Pv (i+1) (ys++[y]) U2 H4 else Pv (i+1) ys U2 H3)(hd:∀ys U H,Pv xs.length ys U H->∀p,H p=none->Q (.ref p) (upd H p (.lst ys))):
  xE (Fb P w a o xs) g ti te U0 H0 Q:=BF xs.length Pv h0 (λi ys U H hi p=>(hl i ys U H hi p).2) (λi ys U H hi p=>⟨⟨hi,(hl i ys U H (Ć hi) p).1⟩,λx H' y=>by obtain⟨e,z,ez,ex⟩:=y;subst e ex;exact hs i z ys U _ ez p⟩) λys U H p=>⟨⟨s_ _,(hl _ ys U H (s_ _) p).1⟩,hd ys U H p⟩
noncomputable def qq (ps:jx)(en:i_):b? Cut:=(ps.filter λp=>p_ (en<=(p.2.length:Int))).map (·.1)
theorem BI {x:Cut×b? i_}:∀{ps:jx}{i:j?},(ps.map (·.1)).Nodup->ps[i]?=some x->jv ps x.1=x.2
 |[],i,_,e=>by simp at e
 |p::ps,0,_,e=>by cases e;rw[jv,j_ a_]
 |p::ps,i+1,nd,e=>by rw[y?,X?]at nd;rw[acA]at e;rw[jv,f? (λz=>nd.1 (by rw[z];exact N_ (r? e)))];exact BI (i:=i) nd.2 e
theorem IY {K:e?}{H H':Hp}{a:c_}{xs:b? V}(s:xf H H')(h:ax K H a xs):ax K H' a xs:=h.imp (sP s) id
theorem eN.same {K:e?}{H H':Hp}{vs:b? V}{ks:b? Cut}(s:xf H H')(h:eN K H vs ks):eN K H' vs ks:=Paired.gi h λ_ _ ⟨a,c,d,e,h1,h2,h3⟩=>(xa1 a c d ⟨e,IY s h1,IY s h2,IY s h3⟩)
noncomputable def fB (H:Hp)(v:V)(k:Cut):Prop:=∃b,v= .ref b/\cC H k b
theorem fB.same {H H':Hp}{v:V}{k:Cut}(s:xf H H'):fB H v k->fB H' v k:=λ⟨b,e,h⟩=>⟨b,e,h.same s⟩
theorem fB.at_ {K:e?}{H:Hp}{vs:b? V}{ks:b? Cut}(h:g? (fB H) vs ks):eN K H vs ks:=Paired.gi h λ_ _ ⟨b,e,c,d,h1,h2,h3⟩=>(xa1 b c d ⟨e,ax.of h1,ax.of h2,ax.of h3⟩)
theorem jlm (T:Txt K mg t):zu P w K mg base CX0 1 t.Gj t.Gk ["self","thing"] (λvs H Q _=>∃p dx S en xs ps b k,vs=[.ref p,.ref b]/\BH P w t H p dx S en xs ps/\cC H k b/\(jv ps k).length<64/\∀H' r (ns:b? i_),xf H H'->H r=none->H' r=some (.lst (ns.map V.int))->ns.Perm (jv ps k)->ns.Pairwise (·<=·)->Q (.ref r) H'):=by
 refine T.je6.aZ (N:=["self","thing"]) λ_ A _ s H vs Q E hr h=>?_;obtain⟨p,dx,S,en,xs,ps,b,k,rfl,Bq,hb,l64,q⟩:=h;refine⟨_,(@je _ _ _ (j5 (jl WU a_ T.BD boot_sorted (jc (E9 (my hr) (j4 (pv 0) a_) (pv 1) (@zj _ _ _ _ jf) ⟨a_,a_,a_,a_⟩) jf)))),?_⟩;refine⟨_,a_,xa3 p _ dx _ _ ⟨a_,Bq.ob,T.qj,T.qx,uh _ _,S,a_,.inr ⟨xs,Bq.sg⟩,_,a_,cz,λr hr=>?_⟩⟩;have s1:=jg (o:=.lst []) hr;refine⟨_,.inr (xa1 xs (k2 k) b ⟨Py s1 Bq.sg,a_,hb.pair.keeps λ_ _ e=>s1 _ _ e,a_⟩),?_⟩;rcases ud (k:=k) Bq.hs with⟨h1,h2,h3⟩|⟨c,h1,h2⟩
 .rw[h1];refine⟨r,[],a_,ah.of ja,by decide,λq' ns hq pe pw=>?_⟩;refine q _ q' ns (s1.trans (jg hq)) ?_ ja (by rw[h2];exact pe) pw;cases e:H q' with
  |none=>rfl
  |some u=>exact v_ (s1 _ _ e) (by rw[hq];intro z;cases z)
 .rw[h1];refine(xa0 c _ ⟨a_,ah.of (s1 _ _ h2),l64,λq' ns hq pe pw=>?_⟩);refine q _ q' ns (s1.trans (jg hq)) ?_ ja pe pw;cases e:H q' with
  |none=>rfl
  |some u=>exact v_ (s1 _ _ e) (by rw[hq];intro z;cases z)
noncomputable def PR (t:Ad):Sp:=λvs H Q _=>∃p dx S en aa is,vs=[.ref p]/\y7 t H p dx S en aa (bU is)/\aa.length<64/\(is.map (·.1)).Nodup/\(∀x∈is,x.1≠[])/\∀(r:c_)(aV:b? V)(bE:b? (b? i_))(H':Hp),H r=none->xf H H'->bE.Perm (yw is en)->bE.Pairwise (λa b=>HT.lexLt a b=true)->g? (jZ H') aV bE->H' r=some (.lst aV)->Q (.ref r) H'
noncomputable def PU (P:n_)(w:z?)(K:e?)(t:Ad):Sp:=λvs H Q _=>∃p dx S en xs ps,vs=[.ref p]/\jX P w t H p dx S en xs ps/\ps.length<64/\(ps.map (·.1)).Nodup/\∀H' r us eD bI,xf H H'->H r=none->H' r=some (.lst eD)->g? (fB H') us (qq ps en)->eD.Perm us->eN K H' eD bI->bI.Perm (qq ps en)->bI.Pairwise (λa b=>eC a b=true)->Q (.ref r) H'
theorem PV (T:Txt K mg t):zu P w K mg base CX0 2 t.vt t.vz ["self"] (λvs H Q E=>PR t vs H Q E\/PU P w K t vs H Q E):=by
 refine T.jje.ok Zl (λvs H Q E h=>?_) (λaD A outer s H vs Q E hr h=>?_)
 .rcases h with⟨p,dx,S,en,aa,is,rfl,_⟩|⟨p,dx,S,en,xs,ps,rfl,_⟩<;>rfl
 .refine⟨_,(@je _ _ _ (j5 (jl (Yl WH (NJ (my hr))) a_ T.BD boot_sorted (jc (Ew (jI (N':=["thing","self"]) (ix:=[none,some 0]) (yg (by kernel_rfl)) a_ (NB (j4 (pv 0) a_)) (λ_ _ _ _=>(jw (i:=0) Zm a_ (w_ a_) (.inr a_))) (λ_ _ _ _=>(nW (zt (j7 (pv 1) T.qj T.yr (PD (P:=P) (w:=w) (base:=base) T) hr.dn T.vh .nil jq (jc (pv 0) jf))))) (λ_ _ _ _=>(pv 0)))) jf)))),?_⟩;rcases h with⟨p,dx,S,en,aa,is,rfl,Bq,l64,nd,ne,q⟩|⟨p,dx,S,en,xs,ps,rfl,Bq,l64,nd,q⟩;case inr=>
   have len:xs.length=ps.length:=q? Bq.hs;have pS:p≠S:=λz=>by
    have h0:=Bq.ob;rw[z]at h0;rcases Bq.sg.1 with f|⟨_,f⟩
    .rw[h0]at f;cases(show HO.ins _ _ _=HO.ext _ from o_ f)
    .rw[h0]at f;cases f
   refine⟨_,a_,p,_,dx,_,_,a_,Bq.ob,T.qj,T.qx,uh _ _,S,a_,?_⟩;rcases Bq.sg.1 with hS|⟨rfl,hS⟩
   .refine .inr ⟨xs,hS,λo=>PQ (λi ys U H'=>∃v,U=[v,some (.ref p)]/\xf (upd H S (.az o (dP P w S xs))) H'/\g? (fB H') ys (qq (ps.take i) en)) ⟨none,a_,xf.refl _,.nil⟩ ?_ ?_ ?_⟩
    .rintro i ys U H' hi ⟨v,rfl,sm,tu⟩
     refine⟨sm _ _ ja,?_⟩;rw[q? tu,qq,i?];exact hJ (K? (Q_ _ _) (by rw[ø];omega))
    .rintro i x ys U H' ex ⟨v,rfl,sm,tu⟩
     obtain⟨pp,ep,e1,c,e2,e3⟩:=qa Bq.hs ex;have gJ:∀c u,H c=some u->c≠S->H' c=some u:=λc u hc cS=>sm _ _ (by rw[jd cS];exact hc);have cY:H' S=some (.az o (dP P w S xs)):=sm _ _ ja;have R:BH P w t H' p dx S en xs ps:=⟨gJ _ _ Bq.ob pS,⟨.inl (.inr ⟨o,cY⟩),λx hx=>(Bq.sg.2 x hx).keeps λb ys e=>gJ _ _ e (Bq.sg.ne e)⟩,Paired.gi Bq.hs λ_ _ ⟨a1,c,a2,a3⟩=>⟨a1,c,a2,gJ _ _ a3 (Bq.sg.ny a3)⟩⟩;have pb:fU H' (k2 pp.1) x.2.1:=by have:=R.sg.2 x (r? ex);rwa[e1]at this
     have hh:=BI nd ep;have tk:qq (ps.take (i+1)) en=qq (ps.take i) en++(if en<=(pp.2.length:i_)then[pp.1]else[]):=by unfold qq;rw[take_snoc ep,Ĉ,H_];by_cases z:en<=(pp.2.length:i_)<;>simp[z]
     refine⟨_,a_,xa1 p dx _ ⟨a_,R.ob,lC _ _ (by decide+kernel) (by decide+kernel),_,a_,.inr (xa9 p dx S en xs ps x.2.1 pp.1 ⟨a_,R,pb,λH3 s3=>⟨_,a_,?_⟩⟩)⟩⟩;rw[hh];refine bh (λz=>?_) (λz=>?_)
     .refine⟨_,a_,_,a_,sm.trans s3,?_⟩;rw[tk,j_ (w? z)];exact qi (Paired.gi tu λ_ _ h=>h.same s3) ⟨_,a_,(PO pb).same s3⟩
     .refine⟨_,a_,sm.trans s3,?_⟩;rw[tk,f? (λy=>z (j' y)),å];exact Paired.gi tu λ_ _ h=>h.same s3
    .rintro ys U H' ⟨v,rfl,sm,tu⟩ r hr
     rw[len,Ò]at tu;have cY:H' S=some (.az o (dP P w S xs)):=sm _ _ ja;have rS:r≠S:=(jh cY hr).symm;have bq:∀c u,H' c=some u->c≠S->upd (upd H' r (.lst ys)) S (dP P w S xs) c=some u:=λc u hc cS=>by rw[jd cS,jd (jh hc hr)];exact hc
     have mG:xf H (upd (upd H' r (.lst ys)) S (dP P w S xs)):=λc u hc=>by
      by_cases z:c=S
      .subst z;rw[ja,<-hS,hc]
      .exact bq _ _ (sm _ _ (by rw[jd z];exact hc)) z
     have nS:∀{a zs},H' a=some (.tup zs)->a≠S:=λ{a zs} e z=>by subst z;rw[cY]at e;cases e
     have qR:g? (fB (upd (upd H' r (.lst ys)) S (dP P w S xs))) ys (qq ps en):=Paired.gi tu λ_ _ ⟨b,e,c,d,h1,h2,h3⟩=>⟨b,e,xa0 c d ⟨bq _ _ h1 (nS h1),bq _ _ h2 (nS h2),bq _ _ h3 (nS h3)⟩⟩;refine(xa1 S o (dP P w S xs) ⟨(by rw[jd rS.symm];exact cY),(λo' u' z=>?_),?_,.inr (xa1 r ys (qq ps en) ⟨a_,ah.of (by rw[jd rS];exact ja),fB.at_ qR,?_,?_,λq' aV bE hq pv pt ct pw=>?_⟩)⟩)
     .have z':H S=some (.az o' u'):=z;rw[hS]at z';cases(show HO.ext _=HO.az _ _ from o_ z')
     .exact q_
     .rw[q? tu,qq,i?];exact ė (Q_ _ _) l64
     .exact b?.Nodup.sublist (b?.Sublist.map _ aaQ) nd
     .have s3:=jg (o:=.lst aV) hq;refine q _ q' ys aV bE (mG.trans s3) ?_ ja (Paired.gi qR λ_ _ h=>h.same s3) pv ?_ pt pw
      .cases e:H q' with
       |none=>rfl
       |some u=>exact v_ (mG _ _ e) (by rw[hq];intro z;cases z)
      .exact eN.same s3 ct
   .cases Bq.hs;refine .inl ⟨[],hS,λo=>IP (λi ys U H'=>ys=[]/\xf (upd H S (.az o (.dT []))) H') ⟨a_,xf.refl _⟩ ?_ ?_ ?_⟩
    .rintro i ys U H' hi ⟨rfl,sm⟩
     exact⟨sm _ _ ja,by show 0<=k?;decide⟩
    .intro i kv b ys U H' ek;simp at ek
    .rintro ys U H' ⟨rfl,sm⟩ r hr
     have cY:H' S=some (.az o (.dT [])):=sm _ _ ja;have rS:r≠S:=(jh cY hr).symm;have mG:xf H (upd (upd H' r (.lst [])) S (.dT [])):=λc u hc=>by
      by_cases z:c=S
      .subst z;rw[ja,<-hS,hc]
      .rw[jd z];have e1:=sm c u (by rw[jd z];exact hc);rw[jd (jh e1 hr)];exact e1
     refine(xa1 S o (.dT []) ⟨(by rw[jd rS.symm];exact cY),(λo' u' z=>?_),q_,.inr (xa1 r [] [] ⟨a_,ah.of (by rw[jd rS];exact ja),.nil,by decide,.nil,λq' aV bE hq pv pt ct pw=>?_⟩)⟩)
     .have z':H S=some (.az o' u'):=z;rw[hS]at z';cases z'
     .have s3:=jg (o:=.lst aV) hq;refine q _ q' [] aV bE (mG.trans s3) ?_ ja .nil pv (eN.same s3 ct) pt pw;cases e:H q' with
      |none=>rfl
      |some u=>exact v_ (mG _ _ e) (by rw[hq];intro z;cases z)
  have len:aa.length=is.length:=by have:=q? Bq.hs;rwa[bU,i?]at this
  refine⟨_,a_,xa3 p _ dx _ _ ⟨a_,Bq.ob,T.qj,T.qx,uh _ _,S,a_,.inl ⟨aa,Bq.sg,λo=>IP (λi ys U H'=>∃v,U=[v,some (.ref p)]/\xf (upd H S (.az o (.dT aa))) H'/\g? (jZ H') ys (yw (is.take i) en)) ⟨none,a_,xf.refl _,.nil⟩ ?_ ?_ ?_⟩⟩⟩
  .rintro i ys U H' hi ⟨v,rfl,sm,tu⟩
   refine⟨sm _ _ ja,?_⟩;rw[q? tu,yw,i?];exact hJ (K? (Q_ _ _) (by rw[ø];omega))
  .rintro i kv b ys U H' ek eb ⟨v,rfl,sm,tu⟩
   obtain⟨pp,ep,e1,c,e2,e3⟩:=qa Bq.hs ek;obtain⟨x,ex,rfl⟩:∃x,is[i]?=some x/\(cG x.1,x.2)=pp:=by
    rw[bU,J']at ep;cases hx:is[i]? with
    |none=>rw[hx]at ep;cases ep
    |some x=>rw[hx]at ep;exact⟨x,a_,o_ ep⟩
   have gJ:∀c u,H c=some u->c≠S->H' c=some u:=λc u hc cS=>sm _ _ (by rw[jd cS];exact hc);have cY:H' S=some (.az o (.dT aa)):=sm _ _ ja;have R:IK t H' p dx S en aa (bU is):=⟨gJ _ _ Bq.ob (gA Bq.ob Bq.sg (by intro z;cases z)),.inr ⟨o,cY⟩,Paired.gi Bq.hs λ_ _ ⟨a1,c,a2,a3⟩=>⟨a1,c,a2,gJ _ _ a3 (gA a3 Bq.sg (by intro z;cases z))⟩⟩;have hk:kv.1=cG x.1:=e1;rw[hk]at eb;have hh:=IT nd ex;have tk:yw (is.take (i+1)) en=yw (is.take i) en++(if en<=(x.2.length:i_)then[x.1]else[]):=by unfold yw;rw[take_snoc ex,Ĉ,H_];by_cases z:en<=(x.2.length:i_)<;>simp[z]
   refine⟨_,a_,xa1 p dx _ ⟨a_,R.ob,lC _ _ (by decide+kernel) (by decide+kernel),_,a_,.inl (xa9 p dx S en aa (bU is) b (cG x.1) ⟨a_,R,eb,λH3 s3=>⟨_,a_,?_⟩⟩)⟩⟩;rw[hh];have eb3:H3 b=some (.tup (x.1.map V.int)):=by have:=s3 _ _ eb;rwa[xF]at this
   refine bh (λz=>?_) (λz=>?_)
   .refine⟨_,a_,_,a_,sm.trans s3,?_⟩;rw[tk,j_ (w? z)];exact qi (Paired.gi tu λ_ _ h=>h.same s3) ⟨b,a_,eb3⟩
   .refine⟨_,a_,sm.trans s3,?_⟩;rw[tk,f? (λy=>z (j' y)),å];exact Paired.gi tu λ_ _ h=>h.same s3
  .rintro ys U H' ⟨v,rfl,sm,tu⟩ r hr
   rw[len,Ò]at tu;have cY:H' S=some (.az o (.dT aa)):=sm _ _ ja;have rS:r≠S:=(jh cY hr).symm;have bq:∀c u,H' c=some u->c≠S->upd (upd H' r (.lst ys)) S (.dT aa) c=some u:=λc u hc cS=>by rw[jd cS,jd (jh hc hr)];exact hc
   have qR:g? (jZ (upd (upd H' r (.lst ys)) S (.dT aa))) ys (yw is en):=Paired.gi tu λ_ _ ⟨a,e,h⟩=>⟨a,e,bq _ _ h (gA h cY (by intro z;cases z))⟩;refine(xa1 S o (.dT aa) ⟨(by rw[jd rS.symm];exact cY),(λo' u' z=>?_),q_,.inl (xa1 r ys (yw is en) ⟨a_,ah.of (by rw[jd rS];exact ja),jZ.at_ qR,?_,?_,?_,λq' aV bE ix hq pix ev et _ pt _ pw=>?_⟩)⟩)
   .have z':H S=some (.az o' u'):=z;rw[Bq.sg]at z';cases z'
   .rw[q? tu,yw,i?];exact ė (Q_ _ _) (by omega)
   .exact nd.sublist (aaQ.map _)
   .intro u hu;obtain⟨x,hx,rfl⟩:=O_.mp hu;exact ne x (Č.mp hx).1
   .obtain⟨n1,n2⟩:=BE hq;obtain⟨n3,n4⟩:=BE n2;have h0:=(BE (sm.free n4)).2;have tu3:g? (jZ (upd (upd (upd H' r (.lst ys)) S (.dT aa)) q' (.lst aV))) aV bE:=by
     have:=PL (Paired.gi qR λ_ _ h=>h.same (jg (o:=.lst aV) hq)) (ix:=ix) (λi hi=>ħ.mp (pix.mem_iff.mp hi));rw[ev,et];rw[ev]at this;exact this
    refine q q' aV bE _ h0 (λc u hc=>?_) pt pw tu3 ja;rw[jd (jh hc h0)];by_cases cS:c=S
    .subst cS;rw[ja,<-hc,Bq.sg]
    .exact bq c u (sm _ _ (by rw[jd cS];exact hc)) cS
theorem jpy (T:Txt K mg t):zu P w K mg base CX0 2 t.vt t.vz ["self"] (PR t):=(PV T).imp λ_ _ _ _ h=>.inl h
theorem jop (T:Txt K mg t):zu P w K mg base CX0 2 t.vt t.vz ["self"] (PU P w K t):=(PV T).imp λ_ _ _ _ h=>.inr h
theorem jl3 (T:Txt K mg t):zu P w K mg base CX0 1 t.Gb t.Gd ["self","purse"] (λvs H Q _=>∃x v,vs=[.ref x,v]/\H x=some (vN x t.xo)/\∀d,H d=none->Q .ar (upd (upd H x (qF x t.xo d)) d (.xd [("purse",v)]))):=by refine T.ZS.aZ (N:=["self","purse"]) λ_ A _ s H vs Q E hr h=>?_;obtain⟨x,v,rfl,hx,k⟩:=h;refine⟨_,(@je _ _ _ (Xu T.Oy a_ (pv 0) (pv 1) a_)),?_⟩;exact⟨_,a_,_,a_,x,a_,hx,k⟩
theorem qcn {H:Hp}{ea d:c_}{X Yq Zq:HO}(h:H ea=none)(hd:upd H ea X d=none):H d=none/\upd (upd (upd H ea X) ea Yq) d Zq ea=some Yq/\xf H (λb=>if b=ea then none else upd (upd (upd H ea X) ea Yq) d Zq b)/\(λb=>if b=ea then none else upd (upd (upd H ea X) ea Yq) d Zq b) d=some Zq:=by
 have n1:d≠ea:=λz=>by rw[z,ja]at hd;cases hd
 have n2:H d=none:=by rw[jd n1]at hd;exact hd
 refine⟨n2,by rw[jd (Í n1),ja],λb u e=>?_,?_⟩
 .have be:=jh e h;show(if b=ea then none else upd (upd (upd H ea X) ea Yq) d Zq b)=some u;rw[f? be,jd (jh e n2),jd be,jd be];exact e
 .show(if d=ea then none else upd (upd (upd H ea X) ea Yq) d Zq d)=some Zq;rw[f? n1,ja]
theorem bF {a b:TS}{D:Ends}{U:St}{H:Hp}(h:∀N:St->Hp->Prop,(∀U' H',b D U' H'->N U' H')->a {D with nx:=N} U H):KO a b D U H:=h _ λ_ _ x=>x
theorem sQ {c:TT}{a b:TS}{D:Ends}{U:St}{H:Hp}(h:∀N:s?->Hp->Prop,(∀k H',(if k=true then a D U H' else b D U H')->N k H')->c U H N):KP c a b D U H:=h _ λ_ _ x=>x
structure Kp where
 held:b? i_
 zm:b? i_
 done:b? O
 eO:b? O
 bf:b? O
 cho:b? ((i_×i_)×O)
 wait:b? O
noncomputable def gI (xs:b? i_)(i:i_):i_:=(xs[i.toNat]?).getD 0
noncomputable def aO (xs:b? i_)(i d:i_):b? i_:=xs.set i.toNat (gI xs i+d)
theorem xH (xs:b? i_)(i d:i_):(aO xs i d).length=xs.length:=aaX ..
theorem BJ {xs:b? i_}{i:i_}(h0:0<=i)(h:i<xs.length):xs[i.toNat]?=some (gI xs i):=by unfold gI;rw[n? (by lia)];rfl
noncomputable def Kp.past (k:Kp)(o:O):s?:=p_ (o.n<gI k.zm o.p)
noncomputable def Kp.iI (k:Kp)(o:O):s?:=p_ (o.n=gI k.zm o.p)&&p_ (o.m<=gI k.held o.p)
noncomputable def Kp.settle (k:Kp)(o:O):Kp:={k with held:=aO (aO k.held o.p (-o.m)) o.g o.m,zm:=aO k.zm o.p 1,done:=k.done++[o]}
noncomputable def mH (c:b? ((i_×i_)×O))(o:O):s?:=c.any λx=>p_ (x.1=(o.p,o.n))
noncomputable abbrev Gv:=b? ((i_×i_)×O)×b? O×b? O
noncomputable def dR (k:Kp)(o:O)(a:Gv):Gv:=if(k.iI o&&!mH a.1 o)=true then(a.1++[((o.p,o.n),o)],a.2.1++[o],a.2.2)else if(!k.past o&&!mH a.1 o)=true then(a.1,a.2.1,a.2.2++[o])else a
noncomputable def gv (k:Kp)(os:b? O)(a:Gv):Gv:=os.foldl (λa o=>dR k o a) a
noncomputable def Kp.xr (k:Kp):Kp×b? O:=({k with cho:=(gv k k.bf (k.cho,[],[])).1,bf:=(gv k k.bf (k.cho,[],[])).2.2},(gv k k.bf (k.cho,[],[])).2.1)
noncomputable def Kp.first (k:Kp):f_ O:=k.wait.find? k.iI
noncomputable def Kp.step (k:Kp)(o:O):Kp:={k with wait:=k.wait.erase o}.settle o
noncomputable def Kp.go:j?->Kp->Kp
 |0,k=>k
 |n+1,k=>match k.first with
  |none=>k
  |some o=>Kp.go n (k.step o)
noncomputable def Kp.BK (k:Kp):Kp:=Kp.go k.wait.length k
noncomputable def Kp.qS (k:Kp)(o:O):Kp×b? O:=if o∈k.eO then(k,[])else Kp.xr {k with eO:=k.eO++[o],bf:=k.bf++[o]}
noncomputable def Kp.mI (k:Kp)(o:O):Kp×b? O:=if(k.past o||decide (o∈k.wait))=true then(k,[])else(Kp.BK {k with wait:=k.wait++[o]}).xr
structure Kp.Ok (n:j?)(k:Kp):Prop where
 h:k.held.length=n
 x:k.zm.length=n
 u:∀o∈k.bf,vp n o=true
 w:∀o∈k.wait,vp n o=true
 nd:k.wait.Nodup
theorem Kp.Ok.settle {n:j?}{k:Kp}(q:k.Ok n)(o:O):(k.settle o).Ok n:=⟨by show(aO (aO _ _ _) _ _).length=n;rw[xH,xH];exact q.h,by show(aO _ _ _).length=n;rw[xH];exact q.x,q.u,q.w,q.nd⟩
theorem Kp.Ok.step {n:j?}{k:Kp}(q:k.Ok n)(o:O):(k.step o).Ok n:=Kp.Ok.settle (k:={k with wait:=k.wait.erase o}) ⟨q.h,q.x,q.u,λo' h=>q.w o' (ac7 h),q.nd.erase o⟩ o
theorem IZ (k:Kp){P:O->Prop}:∀(os:b? O)(a:Gv),(∀o∈os,P o)->(∀o∈a.2.2,P o)->∀o∈(gv k os a).2.2,P o
 |[],a,_,h=>h
 | o::os,a,h1,h2=>by
  unfold gv;rw[ż];refine IZ k os _ (λo' h=>h1 o' (u_ _ h)) ?_;unfold dR;split
  .exact h2
  .split
   .intro o' h;rcases A_.mp h with h|h
    .exact h2 o' h
    .rw[m?.mp h];exact h1 o t?
   .exact h2
theorem Kp.Ok.xr {n:j?}{k:Kp}(q:k.Ok n):k.xr.1.Ok n:=⟨q.h,q.x,IZ k k.bf _ q.u (λo h=>by cases h),q.w,q.nd⟩
set_option genInjectivity true in
inductive Part where
 | x | wy | ak | bd | sd | sg | kd
 | row (i:j?)
 | kp (h:i_) (f:j?)
 | own (i:j?)
 deriving DecidableEq
noncomputable abbrev Role:=j?×Part
noncomputable abbrev aq:=c_->f_ Role
noncomputable def oE:HO->Prop
 | .tup _=>v?
 | .az _ (.tup _)=>v?
 |_=>I?
noncomputable def aw (Z:aq)(H:Hp):Prop:=∀a r,Z a=some r->∃u,H a=some u/\oE u
noncomputable def Fr (P:Role->Prop)(Z:aq)(H:Hp)(Z':aq)(H':Hp):Prop:=∀a u,H a=some u->(∀r,Z a=some r->¬P r)->H' a=some u/\Z' a=Z a
noncomputable def aB (Z:aq)(p:c_)(r:Role):aq:=λa=>if a=p then some r else Z a
theorem qu {Z:aq}{p:c_}{r:Role}:aB Z p r p=some r:=j_ a_
theorem qv {Z:aq}{p a:c_}{r:Role}(h:a≠p):aB Z p r a=Z a:=f? h
theorem Fr.refl {P:Role->Prop}{Z:aq}{H:Hp}:Fr P Z H Z H:=λ_ _ e _=>⟨e,a_⟩
theorem Fr.trans {P:Role->Prop}{Z Z' PX:aq}{H H' sR:Hp}(f:Fr P Z H Z' H')(g:Fr P Z' H' PX sR):Fr P Z H PX sR:=λa u e n=>by obtain⟨e1,r1⟩:=f a u e n;obtain⟨e2,r2⟩:=g a u e1 (λr h=>n r (r1 ▸ h));exact⟨e2,r2.trans r1⟩
theorem Fr.mono {P P':Role->Prop}{Z Z':aq}{H H':Hp}(h:∀r,P r->P' r)(f:Fr P Z H Z' H'):Fr P' Z H Z' H':=λa u e n=>f a u e λr hr p=>n r hr (h r p)
theorem Fr.same {P:Role->Prop}{Z:aq}{H H':Hp}(s:xf H H'):Fr P Z H Z H':=λ_ _ e _=>⟨s _ _ e,a_⟩
theorem aw.same {Z:aq}{H H':Hp}(s:xf H H')(o:aw Z H):aw Z H':=λa r h=>let⟨u,e,n⟩:=o a r h;⟨u,s _ _ e,n⟩
theorem aw.none {Z:aq}{H:Hp}{p:c_}(o:aw Z H)(h:H p=none):Z p= .none:=by
 cases e:Z p with
 |none=>rfl
 |some r=>obtain⟨u,q,_⟩:=o p r e;rw[h]at q;cases q
theorem aw.tup {Z:aq}{H:Hp}{p:c_}{xs:b? V}(o:aw Z H)(h:H p=some (.tup xs)):Z p= .none:=by
 cases e:Z p with
 |none=>rfl
 |some r=>obtain⟨u,q,n⟩:=o p r e;rw[h]at q;cases q;exact n.elim
theorem Fr.put {P:Role->Prop}{Z:aq}{H:Hp}{a:c_}{r:Role}{o:HO}(h:Z a=some r)(p:P r):Fr P Z H Z (upd H a o):=λb u e n=>by have:b≠a:=λz=>n r (z ▸ h) p;exact⟨by rw[jd this];exact e,a_⟩
theorem aw.put {Z:aq}{H:Hp}{a:c_}{o:HO}(k:aw Z H)(ho:e_ (oE o) aP7):aw Z (upd H a o):=λb r h=>by
 by_cases z:b=a
 .subst z;exact⟨_,ja,ho⟩
 .obtain⟨u,e,n⟩:=k b r h;exact⟨u,by rw[jd z];exact e,n⟩
theorem Fr.bY {P:Role->Prop}{Z:aq}{H:Hp}{p:c_}{r:Role}{o:HO}(n:H p=none):Fr P Z H (aB Z p r) (upd H p o):=λb u e _=>by have:b≠p:=jh e n;exact⟨by rw[jd this];exact e,qv this⟩
theorem aw.bY {Z:aq}{H:Hp}{p:c_}{r:Role}{o:HO}(k:aw Z H)(ho:e_ (oE o) aP7):aw (aB Z p r) (upd H p o):=λb r' h=>by
 by_cases z:b=p
 .subst z;exact⟨_,ja,ho⟩
 .rw[qv z]at h;obtain⟨u,e,n⟩:=k b r' h;exact⟨u,by rw[jd z];exact e,n⟩
theorem fW {Z:aq}{a b:c_}{r r':Role}(ha:Z a=some r)(hb:Z b=some r')(n:r≠r'):a≠b:=λz=>by subst z;rw[ha]at hb;exact n (o_ hb)
theorem BL {Z:aq}{a b:c_}{r:Role}(ha:Z a=none)(hb:Z b=some r):a≠b:=λz=>by subst z;rw[ha]at hb;cases hb
noncomputable def xq (H:Hp)(Z:aq)(x:V)(o:O):Prop:=∃a,x= .ref a/\Z a=none/\H a=some (.tup (cL o))
theorem xq.fr {P:Role->Prop}{Z Z':aq}{H H':Hp}{x:V}{o:O}(f:Fr P Z H Z' H')(h:xq H Z x o):xq H' Z' x o:=by
 obtain⟨a,e,n,q⟩:=h;obtain⟨q',n'⟩:=f a _ q λr hr=>by rw[n]at hr;cases hr
 exact⟨a,e,n'.trans n,q'⟩
theorem xq.at_ {H:Hp}{Z:aq}{x:V}{o:O}(h:xq H Z x o):qbn H x o:=let⟨a,e,_,q⟩:=h;⟨a,e,q⟩
noncomputable def cM (o:O):b? Key:=[.inl o.p,.inl o.n,.inl o.g,.inl o.m]
theorem j40 {o u:O}(h:cM o=cM u):o=u:=by cases o;cases u;unfold cM at h;simp at h;simp[h]
noncomputable def kA (he nn dn:c_):b? (y_×V):=wm "done" (.ref dn) (wm "next_numbers" (.ref nn) (wm "held" (.ref he) []))
noncomputable def kf (he nn dn hd un cs wt:c_):b? (y_×V):=wm "waiting" (.ref wt) (wm "choices" (.ref cs) (wm "unvoted" (.ref un) (wm "heard" (.ref hd) (kA he nn dn))))
noncomputable abbrev fE (A:j?->c_):b? (y_×V):=kf (A 1) (A 2) (A 3) (A 4) (A 5) (A 6) (A 7)
noncomputable def eP (H:Hp)(Z:aq)(B:Kp)(f:j?)(u:HO):Prop:=match f with
 |1=>u= .lst (B.held.map V.int)
 |2=>u= .lst (B.zm.map V.int)
 |3=>∃xs,u= .lst xs/\g? (xq H Z) xs B.done
 |4=>∃aa,u= .dT aa/\aa.map (·.1)=B.eO.map cM
 |5=>∃xs,u= .lst xs/\g? (xq H Z) xs B.bf
 |6=>∃aa,u= .dT aa/\g? (λkv (c:(i_×i_)×O)=>kv.1=[.inl c.1.1,.inl c.1.2]/\xq H Z kv.2 c.2) aa B.cho
 |7=>∃xs,u= .lst xs/\g? (xq H Z) xs B.wait
 |_=>I?
theorem eP.fr {P:Role->Prop}{Z Z':aq}{H H':Hp}{B:Kp}{f:j?}{u:HO}(fr:Fr P Z H Z' H')(h:eP H Z B f u):eP H' Z' B f u:=by
 unfold eP at h⊢;split at h
 .exact h
 .exact h
 .obtain⟨xs,e,p⟩:=h;exact⟨xs,e,Paired.gi p λ_ _=>xq.fr fr⟩
 .exact h
 .obtain⟨xs,e,p⟩:=h;exact⟨xs,e,Paired.gi p λ_ _=>xq.fr fr⟩
 .obtain⟨xs,e,p⟩:=h;exact⟨xs,e,Paired.gi p λ_ _ ⟨a,b⟩=>⟨a,b.fr fr⟩⟩
 .obtain⟨xs,e,p⟩:=h;exact⟨xs,e,Paired.gi p λ_ _=>xq.fr fr⟩
 .trivial
structure xm (t:Ad)(H:Hp)(Z:aq)(id:j?)(h:i_)(k:c_)(A:j?->c_)(dk:c_)(B:Kp):Prop where
 ob:H k=some (.ins t.j6 dk (fE A))
 r0:Z k=some (id,.kp h 0)
 fl:∀f,1<=f->f<=7->Z (A f)=some (id,.kp h f)/\∃u,H (A f)=some u/\eP H Z B f u
noncomputable def bz (id:j?)(h:i_):Role->Prop:=λr=>∃f,r=(id,.kp h f)
section
variable {t:Ad}{H H':Hp}{Z Z':aq}{id:j?}{h:i_}{k dk:c_}{A:j?->c_}{B κ':Kp}{P:Role->Prop}
theorem xm.fr (hP:∀f,¬P (id,.kp h f))(f:Fr P Z H Z' H')(K:xm t H Z id h k A dk B):xm t H' Z' id h k A dk B:=by
 obtain⟨e1,r1⟩:=f _ _ K.ob λr hr=>by rw[K.r0]at hr;cases hr;exact hP 0
 refine⟨e1,r1.trans K.r0,λi h1 h7=>?_⟩;obtain⟨ri,u,hu,q⟩:=K.fl i h1 h7;obtain⟨e2,r2⟩:=f _ _ hu λr hr=>by rw[ri]at hr;cases hr;exact hP i
 exact⟨r2.trans ri,u,e2,q.fr f⟩
theorem xm.put (K:xm t H Z id h k A dk B){f0:j?}(h1:1<=f0)(h7:f0<=7){u0:HO}(q0:eP (upd H (A f0) u0) Z κ' f0 u0)(hs:∀f u,f≠f0->eP H Z B f u->eP H Z κ' f u):xm t (upd H (A f0) u0) Z id h k A dk κ'/\Fr (bz id h) Z H Z (upd H (A f0) u0):=by
 obtain⟨r0,_⟩:=K.fl f0 h1 h7;have fr:Fr (bz id h) Z H Z (upd H (A f0) u0):=Fr.put r0 ⟨f0,a_⟩;refine⟨⟨?_,K.r0,λf a b=>?_⟩,fr⟩
 .rw[jd (fW K.r0 r0 (by intro z;cases z;lia))];exact K.ob
 .obtain⟨rf,u,hu,q⟩:=K.fl f a b;by_cases z:f=f0
  .subst z;exact⟨rf,_,ja,q0⟩
  .refine⟨rf,u,?_,(hs f u z q).fr fr⟩;rw[jd (fW rf r0 (by intro y;cases y;exact z a_))];exact hu
end
theorem xb (A:j?->c_):(fE A).lookup ("held":y_)=some (.ref (A 1))/\(fE A).lookup ("next_numbers":y_)=some (.ref (A 2))/\(fE A).lookup ("done":y_)=some (.ref (A 3))/\(fE A).lookup ("heard":y_)=some (.ref (A 4))/\(fE A).lookup ("unvoted":y_)=some (.ref (A 5))/\(fE A).lookup ("choices":y_)=some (.ref (A 6))/\(fE A).lookup ("waiting":y_)=some (.ref (A 7)):=by unfold fE kf kA;refine⟨?_,?_,?_,?_,?_,?_,?_⟩<;>repeat(first|rw[jj,j_ a_]|rw[jj,f? (by decide+kernel)])
theorem fX (A:j?->c_){m:y_}(h:e_ (¬m="waiting"/\¬m="choices"/\¬m="unvoted"/\¬m="heard"/\¬m="done"/\¬m="next_numbers"/\¬m="held") aP4):(fE A).lookup m=none:=by obtain⟨h1,h2,h3,h4,h5,h6,h7⟩:=h;unfold fE kf kA;rw[jj,f? h1,jj,f? h2,jj,f? h3,jj,f? h4,jj,f? h5,jj,f? h6,jj,f? h7];rfl
theorem xm.he {t:Ad}{H:Hp}{Z:aq}{id:j?}{h:i_}{k dk:c_}{A:j?->c_}{B:Kp}(K:xm t H Z id h k A dk B):H (A 1)=some (.lst (B.held.map V.int)):=by obtain⟨_,u,hu,q⟩:=K.fl 1 (by decide) (by decide);rw[hu,show u=_ from q]
theorem xm.nn {t:Ad}{H:Hp}{Z:aq}{id:j?}{h:i_}{k dk:c_}{A:j?->c_}{B:Kp}(K:xm t H Z id h k A dk B):H (A 2)=some (.lst (B.zm.map V.int)):=by obtain⟨_,u,hu,q⟩:=K.fl 2 (by decide) (by decide);rw[hu,show u=_ from q]
theorem xm.dn {t:Ad}{H:Hp}{Z:aq}{id:j?}{h:i_}{k dk:c_}{A:j?->c_}{B:Kp}(K:xm t H Z id h k A dk B):∃xs,H (A 3)=some (.lst xs)/\g? (xq H Z) xs B.done:=by obtain⟨_,u,hu,xs,rfl,q⟩:=K.fl 3 (by decide) (by decide);exact⟨xs,hu,q⟩
theorem xm.hd {t:Ad}{H:Hp}{Z:aq}{id:j?}{h:i_}{k dk:c_}{A:j?->c_}{B:Kp}(K:xm t H Z id h k A dk B):∃aa,H (A 4)=some (.dT aa)/\aa.map (·.1)=B.eO.map cM:=by obtain⟨_,u,hu,xs,rfl,q⟩:=K.fl 4 (by decide) (by decide);exact⟨xs,hu,q⟩
theorem xm.un {t:Ad}{H:Hp}{Z:aq}{id:j?}{h:i_}{k dk:c_}{A:j?->c_}{B:Kp}(K:xm t H Z id h k A dk B):∃xs,H (A 5)=some (.lst xs)/\g? (xq H Z) xs B.bf:=by obtain⟨_,u,hu,xs,rfl,q⟩:=K.fl 5 (by decide) (by decide);exact⟨xs,hu,q⟩
theorem xm.cs {t:Ad}{H:Hp}{Z:aq}{id:j?}{h:i_}{k dk:c_}{A:j?->c_}{B:Kp}(K:xm t H Z id h k A dk B):∃aa,H (A 6)=some (.dT aa)/\g? (λkv (c:(i_×i_)×O)=>kv.1=[.inl c.1.1,.inl c.1.2]/\xq H Z kv.2 c.2) aa B.cho:=by obtain⟨_,u,hu,xs,rfl,q⟩:=K.fl 6 (by decide) (by decide);exact⟨xs,hu,q⟩
theorem xm.wt {t:Ad}{H:Hp}{Z:aq}{id:j?}{h:i_}{k dk:c_}{A:j?->c_}{B:Kp}(K:xm t H Z id h k A dk B):∃xs,H (A 7)=some (.lst xs)/\g? (xq H Z) xs B.wait:=by obtain⟨_,u,hu,xs,rfl,q⟩:=K.fl 7 (by decide) (by decide);exact⟨xs,hu,q⟩
theorem xI {n:j?}{o:O}{xs:b? i_}(h:vp n o=true)(l:xs.length=n):xs[o.p.toNat]?=some (gI xs o.p)/\0<=o.p/\o.p<n:=by obtain⟨a1,a2,_⟩:=qQ.mp h;exact⟨BJ a1 (by lia),a1,by lia⟩
theorem Ja (T:Txt K mg t):zu P w K mg base CX0 1 t.Bx t.Gp ["self","order"] (λvs H Q _=>∃Z id h k A dk B n q o,vs=[.ref k,.ref q]/\xm t H Z id h k A dk B/\H q=some (.tup (cL o))/\vp (n:j?) o=true/\B.zm.length=n/\Q (.bl (B.past o)) H):=by refine T.jkm.aZ (N:=["self","order"]) λ_ A _ s H vs Q E hr h=>?_;obtain⟨Z,id,h,k,A',dk,B,n,q,o,rfl,R,hq,ho,l,g⟩:=h;refine⟨_,(@je _ _ _ (j5 (kP zU (cx kR (pv 1) jn (λ_ _=>a_)) (cx gT (j4 (pv 0) a_) (cx kR (pv 1) jn (λ_ _=>a_)) (λ_ _=>a_)) (qc _)))),?_⟩;obtain⟨e,p0,_⟩:=xI ho l;refine⟨_,a_,xa2 q (cL o) 1 (.int o.n) ⟨a_,a_,ax.of hq,a_,_,a_,xa3 k _ dk _ _ ⟨a_,R.ob,T.jo,T.qt,(xb A').2.1,_,a_,xa2 q (cL o) 0 (.int o.p) ⟨a_,a_,ax.of hq,a_,xa2 (A' 2) _ o.p (.int (gI B.zm o.p)) ⟨a_,a_,ah.of R.nn,mE p0 (by rw[J',e];rfl),xa0 _ _ ⟨a_,a_,g⟩⟩⟩⟩⟩⟩
theorem PY (T:Txt K mg t):zu P w K mg base CX0 1 t.By t.Gq ["self","order"] (λvs H Q _=>∃Z id h k A dk B n q o,vs=[.ref k,.ref q]/\xm t H Z id h k A dk B/\H q=some (.tup (cL o))/\vp (n:j?) o=true/\B.zm.length=n/\B.held.length=n/\Q (.bl (B.iI o)) H):=by
 refine T.jnl.dO ka λ_ A _ s H vs Q E hr h=>?_;obtain⟨Z,id,h,k,A',dk,B,n,q,o,rfl,R,hq,ho,l,l2,g⟩:=h;refine⟨_,(@jb _ _ _ _ _ (lU (pv 1) (pE a_ (qf (jw (i:=2) ka.nd a_ (w_ a_)) (qf (jw (i:=3) ka.nd a_ (w_ a_)) (qf (jw (i:=4) ka.nd a_ (w_ a_)) (qf (jw (i:=5) ka.nd a_ (w_ a_)) pD)))))) (@je _ _ _ (j5 (lT (kP eI (pv 3) (cx gT (j4 (pv 0) a_) (pv 2) (λ_ _=>a_)) (qc _)) (pA (kP zV (pv 5) (cx gT (j4 (pv 0) a_) (pv 2) (λ_ _=>a_)) (qc _))))))),?_⟩;obtain⟨e,p0,_⟩:=xI ho l;obtain⟨e2,_,_⟩:=xI ho l2;refine⟨_,a_,xa0 q _ ⟨a_,ax.of hq,a_,xa0 _ _ ⟨a_,xa0 _ _ ⟨a_,xa0 _ _ ⟨a_,xa0 _ _ ⟨a_,a_,?_⟩⟩⟩⟩⟩⟩;refine⟨_,a_,_,a_,xa3 k _ dk _ _ ⟨a_,R.ob,T.jo,T.qt,(xb A').2.1,_,a_,xa2 (A' 2) _ o.p (.int (gI B.zm o.p)) ⟨a_,a_,ah.of R.nn,mE p0 (by rw[J',e];rfl),a_,_,a_,?_⟩⟩⟩;unfold Kp.iI at g;refine bh (λz=>?_) (λz=>?_)
 .refine⟨_,a_,_,a_,xa3 k _ dk _ _ ⟨a_,R.ob,T.jo,T.xc,(xb A').1,_,a_,xa2 (A' 1) _ o.p (.int (gI B.held o.p)) ⟨a_,a_,ah.of R.he,mE p0 (by rw[J',e2];rfl),xa0 _ _ ⟨a_,a_,?_⟩⟩⟩⟩;rw[j' (V.int.inj (w? z)),afF]at g;exact g
 .rw[t_ (λy=>z (by rw[y];exact j' a_)),aff]at g;exact g
theorem jsh (T:Txt K mg t):zu P w K mg base CX0 1 t.Bz t.Gr ["self","order"] (λvs H Q _=>∃Z id h k A dk B n q o,vs=[.ref k,.ref q]/\xm t H Z id h k A dk B/\xq H Z (.ref q) o/\vp (n:j?) o=true/\B.zm.length=n/\B.held.length=n/\B.done.length<=1000/\aw Z H/\∀H',xm t H' Z id h k A dk (B.settle o)->Fr (bz id h) Z H Z H'->aw Z H'->Q .ar H'):=by
 refine T.jm7.dO kb λ_ A _ s H vs Q E hr h=>?_;obtain⟨Z,id,h,k,A',dk,B,n,q,o,rfl,R,uq,ho,l,l2,ld,kr,g⟩:=h;refine⟨_,(@jb _ _ _ _ _ (lU (pv 1) (pE a_ (qf (jw (i:=2) kb.nd a_ (w_ a_)) (qf (jw (i:=3) kb.nd a_ (w_ a_)) (qf (jw (i:=4) kb.nd a_ (w_ a_)) (qf (jw (i:=5) kb.nd a_ (w_ a_)) pD)))))) (@jb _ _ _ _ _ (Dx (j4 (pv 0) a_) (pv 2) Em (pv 5) SQ set_list) (@jb _ _ _ _ _ (Dx (j4 (pv 0) a_) (pv 4) Em (pv 5) KW set_list) (@jb _ _ _ _ _ (Dx (j4 (pv 0) a_) (pv 2) Em jn KW set_list) (@je _ _ _ (j8 (fT A? D_ E_ y3 (j4 (pv 0) a_) (jc (pv 1) jf)))))))),?_⟩;obtain⟨_,eq,nq,hq⟩:=uq;cases eq;obtain⟨e,p0,p1⟩:=xI ho l;obtain⟨e2,_,_⟩:=xI ho l2;refine⟨_,a_,xa0 q _ ⟨a_,ax.of hq,a_,xa0 _ _ ⟨a_,xa0 _ _ ⟨a_,xa0 _ _ ⟨a_,xa0 _ _ ⟨a_,a_,?_⟩⟩⟩⟩⟩⟩;obtain⟨g0,g1⟩:=(λa=>⟨a.2.2.1,a.2.2.2.1⟩:_->0<=o.g/\o.g<=(n:i_)-1) (qQ.mp ho);refine⟨_,a_,xa3 k _ dk _ _ ⟨a_,R.ob,T.jo,T.xc,(xb A').1,_,a_,xa2 (A' 1) _ o.p (.int (gI B.held o.p)) ⟨a_,a_,ah.of R.he,p0,(by rw[J',e2];rfl),_,a_,xa0 _ _ ⟨a_,a_,xa2 (A' 1) _ o.p _ ⟨a_,a_,R.he,xD p0 (by rw[i?];omega),?_⟩⟩⟩⟩⟩;have m1:((B.held.map V.int).set o.p.toNat (.int (gI B.held o.p-o.m)))=(aO B.held o.p (-o.m)).map V.int:=by
  rw[aO,aem];rfl
 dsimp only;rw[m1];obtain⟨R1,f1⟩:=R.put (κ':={B with held:=aO B.held o.p (-o.m)}) (f0:=1) (by decide) (by decide) (u0:=.lst ((aO B.held o.p (-o.m)).map V.int)) a_ (λf u hf q=>by unfold eP at q⊢;split at q<;>first|exact q|exact v_ a_ hf);have bJ:=kr.put (a:=A' 1) (o:=.lst ((aO B.held o.p (-o.m)).map V.int));generalize upd H (A' 1) (.lst ((aO B.held o.p (-o.m)).map V.int))=H1 at R1 f1 bJ;have l3:(aO B.held o.p (-o.m)).length=n:=(xH ..).trans l2;have e3:(aO B.held o.p (-o.m))[o.g.toNat]?=some (gI (aO B.held o.p (-o.m)) o.g):=BJ g0 (by omega);refine⟨_,a_,xa3 k _ dk _ _ ⟨a_,R1.ob,T.jo,T.xc,(xb A').1,_,a_,xa2 (A' 1) _ o.g (.int (gI (aO B.held o.p (-o.m)) o.g)) ⟨a_,a_,ah.of R1.he,g0,(by rw[J',e3];rfl),_,a_,xa0 _ _ ⟨a_,a_,xa2 (A' 1) _ o.g _ ⟨a_,a_,R1.he,xD g0 (by rw[i?];show o.g.toNat<(aO B.held o.p (-o.m)).length;omega),?_⟩⟩⟩⟩⟩;have m2:((aO B.held o.p (-o.m)).map V.int).set o.g.toNat (.int (gI (aO B.held o.p (-o.m)) o.g+o.m))=(aO (aO B.held o.p (-o.m)) o.g o.m).map V.int:=by rw[aO.eq_def (aO B.held o.p (-o.m)),aem]
 dsimp only;rw[m2];obtain⟨R2,f2⟩:=R1.put (κ':={B with held:=aO (aO B.held o.p (-o.m)) o.g o.m}) (f0:=1) (by decide) (by decide) (u0:=.lst ((aO (aO B.held o.p (-o.m)) o.g o.m).map V.int)) a_ (λf u hf q=>by unfold eP at q⊢;split at q<;>first|exact q|exact v_ a_ hf);have bV:=bJ.put (a:=A' 1) (o:=.lst ((aO (aO B.held o.p (-o.m)) o.g o.m).map V.int));generalize upd H1 (A' 1) (.lst ((aO (aO B.held o.p (-o.m)) o.g o.m).map V.int))=H2 at R2 f2 bV;refine⟨_,a_,xa3 k _ dk _ _ ⟨a_,R2.ob,T.jo,T.qt,(xb A').2.1,_,a_,xa2 (A' 2) _ o.p (.int (gI B.zm o.p)) ⟨a_,a_,ah.of R2.nn,p0,(by rw[J',e];rfl),xa0 _ _ ⟨a_,a_,xa2 (A' 2) _ o.p _ ⟨a_,a_,R2.nn,xD p0 (by rw[i?];show o.p.toNat<B.zm.length;rw[l];omega),?_⟩⟩⟩⟩⟩;have m3:(B.zm.map V.int).set o.p.toNat (.int (gI B.zm o.p+1))=(aO B.zm o.p 1).map V.int:=by rw[aO,aem]
 dsimp only;rw[m3];obtain⟨R3,f3⟩:=R2.put (κ':={B with held:=aO (aO B.held o.p (-o.m)) o.g o.m,zm:=aO B.zm o.p 1}) (f0:=2) (by decide) (by decide) (u0:=.lst ((aO B.zm o.p 1).map V.int)) a_ (λf u hf q=>by unfold eP at q⊢;split at q<;>first|exact q|exact v_ a_ hf);have gN:=bV.put (a:=A' 2) (o:=.lst ((aO B.zm o.p 1).map V.int));generalize upd H2 (A' 2) (.lst ((aO B.zm o.p 1).map V.int))=H3 at R3 f3 gN;obtain⟨xs,hx,px⟩:=R3.dn;have fr:=(f1.trans f2).trans f3;have uq3:xq H3 Z (.ref q) o:=xq.fr fr ⟨q,a_,nq,hq⟩;have lx:xs.length<=1000:=by rw[q? px];exact ld
 refine⟨_,a_,xa3 k _ dk _ _ ⟨a_,R3.ob,T.jo,T.ID,(xb A').2.2.1,.inl ⟨a_,_,ah.of hx⟩,_,a_,xa1 (A' 3) xs (.ref q) ⟨a_,a_,hx,zq lx,?_⟩⟩⟩;obtain⟨r3,_⟩:=R3.fl 3 (by decide) (by decide);obtain⟨R4,f4⟩:=R3.put (κ':=B.settle o) (f0:=3) (by decide) (by decide) (u0:=.lst (xs++[.ref q])) ⟨_,a_,qi (Paired.gi px λ_ _=>xq.fr (Fr.put (P:=bz id h) r3 ⟨3,a_⟩)) (uq3.fr (Fr.put (P:=bz id h) r3 ⟨3,a_⟩))⟩ (λf u hf q=>by unfold eP at q⊢;split at q<;>first|exact q|exact v_ a_ hf);exact g _ R4 (fr.trans f4) gN.put
theorem xq.ref {H:Hp}{Z:aq}{x:V}{o:O}(h:xq H Z x o):∃q,x= .ref q/\H q=some (.tup (cL o)):=let⟨q,e,_,h⟩:=h;⟨q,e,h⟩
theorem PZ (T:Txt K mg t):zu P w K mg base CX0 2 t.Gz t.GA ["self"] (λvs H Q _=>∃Z id h k A dk B n,vs=[.ref k]/\xm t H Z id h k A dk B/\B.Ok n/\∀v,((B.first=none/\v= .ar)\/∃o,B.first=some o/\xq H Z v o)->Q v H):=by
 refine T.jeu.dO Oe λ_ A _ s H vs Q E hr h=>?_;obtain⟨Z,id,h,k,A',dk,B,n,rfl,R,ag,g⟩:=h;refine⟨_,(@jb _ _ _ _ _ (pI Ŗ a_ (@kO _ _ _ _ (j4 (pv 0) a_)) (jw (i:=1) Oe.nd a_ (w_ a_)) (@je _ _ _ (zo (zt (j7 (pv 0) T.jo T.Pl (PY T) hr.dn T.OH .nil jq (jc (pv 1) jf))) (@je _ _ _ (j5 (pv 1))) qe))) (@je _ _ _ (j5 i7))),?_⟩;obtain⟨xs,hx,px⟩:=R.wt;refine⟨_,a_,xa3 k _ dk _ _ ⟨a_,R.ob,T.jo,T.xh,(xb A').2.2.2.2.2.2,A' 7,a_,⟨_,ah.of hx⟩,zP (K:=K) (a:=A' 7) (xs:=xs) (λi U H'=>∃v,U=[some (.ref k),v]/\H'=H/\(B.wait.take i).find? B.iI=none) ⟨none,a_,a_,a_⟩ (λi U H' _ ⟨_,_,e,_⟩=>ah.of (by rw[e];exact hx)) ?_ ?_⟩⟩
 .rintro i x U H' ex ⟨v,rfl,rfl,hf⟩
  obtain⟨o,eo,uo⟩:=qa px ex;obtain⟨q,rfl,hq⟩:=uo.ref;have om:o∈B.wait:=r? eo;refine⟨_,a_,xa1 k dk _ ⟨a_,R.ob,fX A',_,a_,xb1 Z id h k A' dk B n q o ⟨a_,R,hq,ag.w o om,ag.x,ag.h,_,a_,?_⟩⟩⟩;cases hd:B.iI o with
  |true=>
   refine cb ⟨_,a_,g _ (.inr ⟨o,?_,uo⟩)⟩;have:(B.wait.take (i+1)).find? B.iI=some o:=by rw[take_snoc eo,abo,hf,É,hd];rfl
   unfold Kp.first;rw[<-aal (i+1) B.wait,abo,this];rfl
  |false=>refine gd ⟨_,a_,a_,?_⟩;rw[take_snoc eo,abo,hf,É,hd];rfl
 .rintro U H' ⟨v,rfl,rfl,hf⟩
  refine g _ (.inl ⟨?_,a_⟩);rw[q? px,Ò]at hf;exact hf
theorem Fr.Jb {P:Role->Prop}{Z:aq}{H:Hp}{a:c_}{r r':Role}(h:Z a=some r)(p:P r):Fr P Z H (aB Z a r') H:=λb u e n=>by have:b≠a:=λz=>n r (z ▸ h) p;exact⟨e,qv this⟩
theorem aw.Jb {Z:aq}{H:Hp}{a:c_}{r r':Role}(h:Z a=some r)(k:aw Z H):aw (aB Z a r') H:=λb r'' hb=>by
 by_cases z:b=a
 .subst z;exact k _ _ h
 .rw[qv z]at hb;exact k _ _ hb
theorem j8j {H:Hp}{Z:aq}{o:O}:∀{aa:b? (b? Key×V)}{c:b? ((i_×i_)×O)},g? (λkv (c:(i_×i_)×O)=>kv.1=[.inl c.1.1,.inl c.1.2]/\xq H Z kv.2 c.2) aa c->(br aa [.inl o.p,.inl o.n]).isSome=mH c o:=λ{aa c} q=>by
 induction q with
 |nil=>rfl
 |@cons kv c aa cs a r ih=>
  obtain⟨e,_⟩:=a;unfold mH at ih⊢;rw[Ō];by_cases z:c.1=(o.p,o.n)
  .rw[mh (show kv.1=_ by rw[e,z]),j' z];rfl
  .rw[mi (λy=>z ?_),ih,t_ z,afG];rw[e]at y;have y1:=(Ĵ y).1;have y2:=(Ĵ (Ĵ y).2).1;exact ű (Q?.inj y1) (Q?.inj y2)
theorem qd8 {n:j?}{o:O}(h:vp n o=true)(l:n<=8):vp 8 o=true:=by rw[qQ]at h⊢;lia
theorem j7z (B:Kp){os:b? O}{i:j?}{o:O}(e:os[i]?=some o)(a:Gv):gv B (os.take (i+1)) a=dR B o (gv B (os.take i) a):=by unfold gv;rw[take_snoc e,adZ];rfl
theorem j8p (B:Kp)(o:O)(a:Gv):(dR B o a).1.length<=a.1.length+1/\(dR B o a).2.1.length<=a.2.1.length+1/\(dR B o a).2.2.length<=a.2.2.length+1:=by
 unfold dR;split
 .simp
 .split
  .simp
  .simp
theorem Jc (B:Kp):∀(os:b? O)(a:Gv),(gv B os a).1.length<=a.1.length+os.length/\(gv B os a).2.1.length<=a.2.1.length+os.length/\(gv B os a).2.2.length<=a.2.2.length+os.length
 |[],a=>by simp[gv]
 |o::os,a=>by have h1:=Jc B os (dR B o a);have h2:=j8p B o a;unfold gv at h1⊢;rw[ż,E?];lia
structure iJ (t:Ad)(Z:aq)(id:j?)(h:i_)(k:c_)(A:j?->c_)(dk:c_)(B:Kp)(Vt Lt:c_)(xs:b? V)(H0:Hp)(a:Gv)(H:Hp):Prop where
 fr:Fr (bz id h) Z H0 Z H
 kr:aw Z H
 R:xm t H Z id h k A dk {B with cho:=a.1}
 hv:∃vs,H Vt=some (.lst vs)/\g? (xq H Z) vs a.2.1
 hl:∃ls,H Lt=some (.lst ls)/\g? (xq H Z) ls a.2.2
 hx:H (A 5)=some (.lst xs)
 px:g? (xq H Z) xs B.bf
theorem iJ.same {t:Ad}{Z:aq}{id:j?}{h:i_}{k:c_}{A:j?->c_}{dk:c_}{B:Kp}{Vt Lt:c_}{xs:b? V}{H0 H H':Hp}{a:Gv}(s:xf H H')(J:iJ t Z id h k A dk B Vt Lt xs H0 a H):iJ t Z id h k A dk B Vt Lt xs H0 a H':=by have f:Fr (λ_=>v?) Z H Z H':=Fr.same s;obtain⟨vs,v1,v2⟩:=J.hv;obtain⟨ls,l1,l2⟩:=J.hl;exact⟨J.fr.trans (Fr.same s),J.kr.same s,J.R.fr (λ_ z=>z) f,⟨vs,s _ _ v1,Paired.gi v2 λ_ _=>xq.fr f⟩,⟨ls,s _ _ l1,Paired.gi l2 λ_ _=>xq.fr f⟩,s _ _ J.hx,Paired.gi J.px λ_ _=>xq.fr f⟩
theorem iJ.putL {t:Ad}{Z:aq}{id:j?}{h:i_}{k:c_}{A:j?->c_}{dk:c_}{B:Kp}{Vt Lt:c_}{xs ls sS:b? V}{H0 H:Hp}{a:Gv}{later:b? O}(J:iJ t Z id h k A dk B Vt Lt xs H0 a H)(hl:H Lt=some (.lst ls))(rL:Z Lt=some (id,.kp h 9))(rV:Z Vt=some (id,.kp h 8))(LV:Lt≠Vt)(fL:Fr (bz id h) Z H Z (upd H Lt (.lst sS)))(pl:g? (xq (upd H Lt (.lst sS)) Z) sS later):iJ t Z id h k A dk B Vt Lt xs H0 (a.1,a.2.1,later) (upd H Lt (.lst sS)):=by
 have f9:Fr (λr=>r=(id,.kp h 9)) Z H Z (upd H Lt (.lst sS)):=Fr.put rL a_;obtain⟨vs,v1,v2⟩:=J.hv;have nf:∀{f:j?},f<=7->∀{b:c_},Z b=some (id,.kp h f)->b≠Lt:=λ{f} hf {b} hb=>fW hb rL (by intro z;cases z;lia);refine⟨J.fr.trans fL,J.kr.put,⟨?_,J.R.r0,λf a1 b1=>?_⟩,⟨vs,?_,Paired.gi v2 λ_ _=>xq.fr fL⟩,⟨sS,ja,pl⟩,?_,Paired.gi J.px λ_ _=>xq.fr fL⟩
 .rw[jd (nf (by decide) J.R.r0)];exact J.R.ob
 .obtain⟨rf,u,hu,q⟩:=J.R.fl f a1 b1;exact⟨rf,u,by rw[jd (nf b1 rf)];exact hu,q.fr fL⟩
 .rw[jd LV.symm];exact v1
 .rw[jd (nf (by decide) (J.R.fl 5 (by decide) (by decide)).1)];exact J.hx
theorem iJ.qee {t:Ad}{Z:aq}{id:j?}{h:i_}{k:c_}{A:j?->c_}{dk:c_}{B:Kp}{Vt Lt:c_}{xs aV:b? V}{H0 H:Hp}{a:Gv}{xr:b? O}(J:iJ t Z id h k A dk B Vt Lt xs H0 a H)(rV:Z Vt=some (id,.kp h 8))(LV:Lt≠Vt)(fL:Fr (bz id h) Z H Z (upd H Vt (.lst aV)))(pv:g? (xq (upd H Vt (.lst aV)) Z) aV xr):iJ t Z id h k A dk B Vt Lt xs H0 (a.1,xr,a.2.2) (upd H Vt (.lst aV)):=by
 obtain⟨ls,l1,l2⟩:=J.hl;have nf:∀{f:j?},f<=7->∀{b:c_},Z b=some (id,.kp h f)->b≠Vt:=λ{f} hf {b} hb=>fW hb rV (by intro z;cases z;lia);refine⟨J.fr.trans fL,J.kr.put,⟨?_,J.R.r0,λf a1 b1=>?_⟩,⟨aV,ja,pv⟩,⟨ls,?_,Paired.gi l2 λ_ _=>xq.fr fL⟩,?_,Paired.gi J.px λ_ _=>xq.fr fL⟩
 .rw[jd (nf (by decide) J.R.r0)];exact J.R.ob
 .obtain⟨rf,u,hu,q⟩:=J.R.fl f a1 b1;exact⟨rf,u,by rw[jd (nf b1 rf)];exact hu,q.fr fL⟩
 .rw[jd LV];exact l1
 .rw[jd (nf (by decide) (J.R.fl 5 (by decide) (by decide)).1)];exact J.hx
theorem iJ.qef {t:Ad}{Z:aq}{id:j?}{h:i_}{k:c_}{A:j?->c_}{dk:c_}{B:Kp}{Vt Lt:c_}{xs:b? V}{H0 H:Hp}{a:Gv}{cho:b? ((i_×i_)×O)}{aa:b? (b? Key×V)}(J:iJ t Z id h k A dk B Vt Lt xs H0 a H)(rL:Z Lt=some (id,.kp h 9))(rV:Z Vt=some (id,.kp h 8))(pc:g? (λkv (c:(i_×i_)×O)=>kv.1=[.inl c.1.1,.inl c.1.2]/\xq (upd H (A 6) (.dT aa)) Z kv.2 c.2) aa cho):iJ t Z id h k A dk B Vt Lt xs H0 (cho,a.2.1,a.2.2) (upd H (A 6) (.dT aa)):=by
 obtain⟨R,fL⟩:=J.R.put (κ':={B with cho:=cho}) (f0:=6) (by decide) (by decide) (u0:=.dT aa) ⟨aa,a_,pc⟩ (λf u hf q=>by unfold eP at q⊢;split at q<;>first|exact q|exact v_ a_ hf);obtain⟨vs,v1,v2⟩:=J.hv;obtain⟨ls,l1,l2⟩:=J.hl;have r6:=(J.R.fl 6 (by decide) (by decide)).1;refine⟨J.fr.trans fL,J.kr.put,R,⟨vs,?_,Paired.gi v2 λ_ _=>xq.fr fL⟩,⟨ls,?_,Paired.gi l2 λ_ _=>xq.fr fL⟩,?_,Paired.gi J.px λ_ _=>xq.fr fL⟩
 .rw[jd (fW rV r6 (by intro z;cases z))];exact v1
 .rw[jd (fW rL r6 (by intro z;cases z))];exact l1
 .rw[jd (fW (J.R.fl 5 (by decide) (by decide)).1 r6 (by intro z;cases z))];exact J.hx
theorem j9b (A:j?->c_)(p:c_):wm "unvoted" (.ref p) (fE A)=fE (λf=>if f=5 then p else A f):=by unfold fE kf kA;rfl
theorem P0 (T:Txt K mg t):zu P w K mg base CX0 5 t.ua t.ur ["self"] (λvs H Q _=>∃Z id h k A dk B n,vs=[.ref k]/\xm t H Z id h k A dk B/\B.Ok n/\n<=8/\B.bf.length+B.cho.length<=1000/\aw Z H/\∀Z' H' A' r xs,xm t H' Z' id h k A' dk B.xr.1->Fr (bz id h) Z H Z' H'->aw Z' H'->Z' r=some (id,.kp h 8)->H' r=some (.lst xs)->g? (xq H' Z') xs B.xr.2->Q (.ref r) H'):=by
 refine T.jdm.dO yc λ_ A _ s H vs Q E hr h=>?_;obtain⟨Z,id,h,k,A',dk,B,n,rfl,R,ag,n8,ll,kr,g⟩:=h;refine⟨_,(@jb _ _ _ _ _ (@j9 _ _ 1 _ _ _ _ yc.nd a_ (w_ a_) (@zj _ _ _ _ jf) (by rfl) (by first|exact .inl a_|exact .inr rfl)) (@jb _ _ _ _ _ (@j9 _ _ 2 _ _ _ _ yc.nd a_ (w_ a_) (@zj _ _ _ _ jf) (by rfl) (by first|exact .inl a_|exact .inr rfl)) (@jb _ _ _ _ _ (pI Ŗ a_ (@kO _ _ _ _ (j4 (pv 0) a_)) (jw (i:=3) yc.nd a_ (w_ a_)) (@je _ _ _ (zo (PW.pt (kJ (zt (j7 (pv 0) T.jo T.Pl (PY T) hr.dn T.OH .nil jq (jc (pv 3) jf))) (lS (zI (D6 (mf hr) (jm (IJ T) hr.dn a_ T.Ij T.BC.kp T.Ik .nil jq (jc (pv 3) jf)) (j4 (pv 0) a_)))))) (@jb _ _ _ _ _ (LX (mf hr) (j4 (pv 0) a_) (jm (IJ T) hr.dn a_ T.Ij T.BC.kp T.Ik .nil jq (jc (pv 3) jf)) (pv 3) a_) (@je _ _ _ (j8 (fT A? D_ E_ y3 (pv 1) (jc (pv 3) jf))))) (@je _ _ _ (zo (PW.pt (kJ (xw (zt (j7 (pv 0) T.jo T.w4 (Ja T) hr.dn T.Ip .nil jq (jc (pv 3) jf)))) (lS (zI (D6 (mf hr) (jm (IJ T) hr.dn a_ T.Ij T.BC.kp T.Ik .nil jq (jc (pv 3) jf)) (j4 (pv 0) a_)))))) (@je _ _ _ (j8 (fT A? D_ E_ y3 (pv 2) (jc (pv 3) jf)))) qe))))) (@jb _ _ _ _ _ (dN (pv 0) (pv 2) a_) (@je _ _ _ (j5 (pv 1))))))),?_⟩;refine⟨cz,λVt nV=>⟨cz,λLt nL=>?_⟩⟩;have kf0:∀f,bz id h (id,.kp h f):=λf=>⟨f,a_⟩;have f1:Fr (bz id h) Z H (aB Z Vt (id,.kp h 8)) (upd H Vt (.lst [])):=Fr.bY nV;have bJ:aw (aB Z Vt (id,.kp h 8)) (upd H Vt (.lst [])):=kr.bY;have f2:Fr (bz id h) (aB Z Vt (id,.kp h 8)) (upd H Vt (.lst [])) (aB (aB Z Vt (id,.kp h 8)) Lt (id,.kp h 9)) (upd (upd H Vt (.lst [])) Lt (.lst [])):=Fr.bY nL;have bV:aw (aB (aB Z Vt (id,.kp h 8)) Lt (id,.kp h 9)) (upd (upd H Vt (.lst [])) Lt (.lst [])):=bJ.bY;generalize eZ:aB (aB Z Vt (id,.kp h 8)) Lt (id,.kp h 9)=Z2 at f2 bV;have eE:=f1.trans f2;have LV:Lt≠Vt:=λz=>by
  rw[z,ja]at nL;cases nL
 have rV:Z2 Vt=some (id,.kp h 8):=by rw[<-eZ,qv LV.symm,qu]
 have rL:Z2 Lt=some (id,.kp h 9):=by rw[<-eZ,qu]
 have P4:upd (upd H Vt (.lst [])) Lt (.lst []) Vt=some (.lst []):=by rw[jd LV.symm,ja]
 have P5:upd (upd H Vt (.lst [])) Lt (.lst []) Lt=some (.lst []):=ja;have R2:xm t (upd (upd H Vt (.lst [])) Lt (.lst [])) Z2 id h k A' dk B:=by
  have s2:=(jg (o:=.lst []) nV).trans (jg (o:=.lst []) nL);have P6:∀{a:c_}{u:HO},H a=some u->Z2 a=Z a:=λ{a u} e=>by rw[<-eZ,qv (jh ((jg (o:=.lst []) nV) _ _ e) nL),qv (jh e nV)]
  refine⟨s2 _ _ R.ob,(P6 R.ob).trans R.r0,λf a b=>?_⟩;obtain⟨rf,u,hu,q⟩:=R.fl f a b;exact⟨(P6 hu).trans rf,u,s2 _ _ hu,q.fr eE⟩
 generalize upd (upd H Vt (.lst [])) Lt (.lst [])=H2 at eE bV R2 P4 P5;obtain⟨xs,hx,px⟩:=R2.un;have lx:xs.length=B.bf.length:=q? px;clear f1 f2 bJ nV nL R;refine⟨_,a_,xa3 k _ dk _ _ ⟨a_,R2.ob,T.jo,T.yl,(xb A').2.2.2.2.1,A' 5,a_,⟨_,ah.of hx⟩,zP (K:=K) (a:=A' 5) (xs:=xs) (λi U H'=>∃v,U=[some (.ref k),some (.ref Vt),some (.ref Lt),v]/\iJ t Z2 id h k A' dk B Vt Lt xs H2 (gv B (B.bf.take i) (B.cho,[],[])) H') ⟨none,a_,Fr.refl,bV,R2,⟨_,P4,.nil⟩,⟨_,P5,.nil⟩,hx,px⟩ (λi U H' _ ⟨_,_,J⟩=>ah.of J.hx) ?_ ?_⟩⟩
 .rintro i x U H3 ex ⟨v,rfl,J⟩
  obtain⟨o,eo,uo⟩:=qa J.px ex;have gl:=Jc B (B.bf.take i) (B.cho,[],[]);have li:(B.bf.take i).length<=B.bf.length:=by rw[ø];omega
  rw[j7z B eo];generalize gv B (B.bf.take i) (B.cho,[],[])=a at J gl⊢;obtain⟨q,rfl,hq⟩:=uo.ref;have om:o∈B.bf:=r? eo;have ho:=ag.u o om;have BM:=qd8 ho n8;obtain⟨aa,hk,pk⟩:=J.R.cs;have ck:=j8j (o:=o) pk;refine⟨_,a_,xa1 k dk _ ⟨a_,J.R.ob,fX A',_,a_,xb1 Z2 id h k A' dk _ n q o ⟨a_,J.R,hq,ho,ag.x,ag.h,_,a_,?_⟩⟩⟩;show(if B.iI o=true then _ else _);have Js:xf H3 H3:=xf.refl _;cases hd:B.iI o with
  | false=>
   refine gd ?_;have no:¬(B.iI o&&!mH a.1 o)=true:=by simp[hd]
   refine⟨_,a_,xa1 k dk _ ⟨a_,J.R.ob,fX A',_,a_,xb1 Z2 id h k A' dk _ n q o ⟨a_,J.R,hq,ho,ag.x,_,a_,?_⟩⟩⟩;show(if(!B.past o)=true then _ else _);cases hp:B.past o with
   |true=>refine gd ⟨_,a_,?_⟩;rw[dR,f? no,f? (by simp[hp])];exact J
   | false=>
    refine cb ⟨_,a_,xa0 q o ⟨a_,hq,BM,λp np=>?_⟩⟩;have sp:=jg (o:=.tup [.int o.p,.int o.n]) np;have Jp:=J.same sp;refine⟨_,a_,xa3 k _ dk _ _ ⟨a_,Jp.R.ob,T.jo,T.xi,(xb A').2.2.2.2.2.1,xa0 (A' 6) (br aa [.inl o.p,.inl o.n]) ⟨a_,.inr (xa1 aa [.inl o.p,.inl o.n] p ⟨.inl (sp _ _ hk),a_,ja,a_⟩),_,a_,?_⟩⟩⟩;rw[ck];cases hc:mH a.1 o with
    |true=>refine gd ⟨_,a_,?_⟩;rw[dR,f? no,f? (by rw[hc,abh,Ť];decide)];exact Jp
    |false=>
     obtain⟨ls,hl,pl⟩:=Jp.hl;have Jd:ls.length<=1000:=by rw[q? pl];have:=gl.2.2;simp at this;omega
     refine cb ⟨_,a_,.inl ⟨a_,_,ah.of hl⟩,_,a_,xa1 Lt ls (.ref q) ⟨a_,a_,hl,zq Jd,⟨_,a_,?_⟩⟩⟩;rw[dR,f? no,j_ (by rw[hp,hc];rfl)];have fL:Fr (bz id h) Z2 (upd H3 p (.tup [.int o.p,.int o.n])) Z2 (upd (upd H3 p (.tup [.int o.p,.int o.n])) Lt (.lst (ls++[.ref q]))):=Fr.put rL ⟨9,a_⟩;have uq:=(uo.fr (Fr.same (P:=λ_=>v?) ((Js).trans sp))).fr fL;exact Jp.putL hl rL rV LV fL (qi (Paired.gi pl λ_ _=>xq.fr fL) uq)
  | true=>
   refine cb ⟨_,a_,xa0 q o ⟨a_,hq,BM,λp0 mJ=>?_⟩⟩;have sT:=jg (o:=.tup [.int o.p,.int o.n]) mJ;have J0:=J.same sT;have xJ:=sT;have xK:=sT _ _ hk;have qT:=sT _ _ hq;refine⟨_,a_,xa3 k _ dk _ _ ⟨a_,J0.R.ob,T.jo,T.xi,(xb A').2.2.2.2.2.1,xa0 (A' 6) (br aa [.inl o.p,.inl o.n]) ⟨a_,.inr (xa1 aa [.inl o.p,.inl o.n] p0 ⟨.inl xK,a_,ja,a_⟩),_,a_,?_⟩⟩⟩;rw[ck];cases Je:mH a.1 o with
   | true=>
    refine gd ?_;have no:¬(B.iI o&&!mH a.1 o)=true:=by rw[Je,abh,Ť];decide
    generalize upd H3 p0 (.tup [.int o.p,.int o.n])=H4 at sT J0 xJ xK qT;refine⟨_,a_,xa1 k dk _ ⟨a_,J0.R.ob,fX A',_,a_,xb1 Z2 id h k A' dk _ n q o ⟨a_,J0.R,qT,ho,ag.x,_,a_,?_⟩⟩⟩;show(if(!B.past o)=true then _ else _);cases hp:B.past o with
    |true=>refine gd ⟨_,a_,?_⟩;rw[dR,f? no,f? (by simp[hp])];exact J0
    | false=>
     refine cb ⟨_,a_,xa0 q o ⟨a_,qT,BM,λp np=>?_⟩⟩;have sp:=jg (o:=.tup [.int o.p,.int o.n]) np;have Jp:=J0.same sp;refine⟨_,a_,xa3 k _ dk _ _ ⟨a_,Jp.R.ob,T.jo,T.xi,(xb A').2.2.2.2.2.1,xa0 (A' 6) (br aa [.inl o.p,.inl o.n]) ⟨a_,.inr (xa1 aa [.inl o.p,.inl o.n] p ⟨.inl (sp _ _ xK),a_,ja,a_⟩),_,a_,?_⟩⟩⟩;rw[ck];cases hc:mH a.1 o with
     |true=>refine gd ⟨_,a_,?_⟩;rw[dR,f? no,f? (by rw[hc,abh,Ť];decide)];exact Jp
     |false=>
      obtain⟨ls,hl,pl⟩:=Jp.hl;have Jd:ls.length<=1000:=by rw[q? pl];have:=gl.2.2;simp at this;omega
      refine cb ⟨_,a_,.inl ⟨a_,_,ah.of hl⟩,_,a_,xa1 Lt ls (.ref q) ⟨a_,a_,hl,zq Jd,⟨_,a_,?_⟩⟩⟩;rw[dR,f? no,j_ (by rw[hp,hc];rfl)];have fL:Fr (bz id h) Z2 (upd H4 p (.tup [.int o.p,.int o.n])) Z2 (upd (upd H4 p (.tup [.int o.p,.int o.n])) Lt (.lst (ls++[.ref q]))):=Fr.put rL ⟨9,a_⟩;have uq:=(uo.fr (Fr.same (P:=λ_=>v?) ((xJ).trans sp))).fr fL;exact Jp.putL hl rL rV LV fL (qi (Paired.gi pl λ_ _=>xq.fr fL) uq)
   | false=>
    refine cb ?_;generalize upd H3 p0 (.tup [.int o.p,.int o.n])=H4 at sT J0 xJ xK qT;refine⟨_,a_,_,a_,xa3 k _ dk _ _ ⟨a_,J0.R.ob,T.jo,T.xi,(xb A').2.2.2.2.2.1,_,a_,xa0 q o ⟨a_,qT,BM,λp np=>?_⟩⟩⟩;have sp:=jg (o:=.tup [.int o.p,.int o.n]) np;have Jp:=J0.same sp;have lk:aa.length<=1000:=by rw[q? pk];have:=gl.1;show a.1.length<=1000;simp at this;omega
    have nk:br aa [.inl o.p,.inl o.n]=none:=by
     cases e:br aa [.inl o.p,.inl o.n]with
     |none=>rfl
     |some v=>rw[e,Je]at ck;cases ck
    refine(xa0 (A' 6) _ ⟨a_,iO.t (k:=[.inl o.p,.inl o.n]) (sp _ _ xK) ja (zq lk),?_⟩);rw[Aj _ nk];have r6:=(Jp.R.fl 6 (by decide) (by decide)).1;have f6:Fr (bz id h) Z2 (upd H4 p (.tup [.int o.p,.int o.n])) Z2 (upd (upd H4 p (.tup [.int o.p,.int o.n])) (A' 6) (.dT (aa++[([.inl o.p,.inl o.n],.ref q)]))):=Fr.put r6 ⟨6,a_⟩;have u4:=uo.fr (Fr.same (P:=λ_=>v?) (xJ.trans sp));have pk4:=Paired.gi pk λ_ _ ⟨e,b⟩=>(⟨e,(b.fr (Fr.same (P:=λ_=>v?) (xJ.trans sp))).fr f6⟩:_/\xq _ Z2 _ _);have J5:=Jp.qef rL rV (cho:=a.1++[((o.p,o.n),o)]) (qi pk4 ⟨a_,u4.fr f6⟩);have u5:=u4.fr f6;generalize upd (upd H4 p (.tup [.int o.p,.int o.n])) (A' 6) (.dT (aa++[([.inl o.p,.inl o.n],.ref q)]))=H5 at J5 u5;obtain⟨vs,hv,pv⟩:=J5.hv;have lv:vs.length<=1000:=by rw[q? pv];have:=gl.2.1;show a.2.1.length<=1000;simp at this;omega
    refine⟨_,a_,.inl ⟨a_,_,ah.of hv⟩,_,a_,xa1 Vt vs (.ref q) ⟨a_,a_,hv,zq lv,⟨_,a_,?_⟩⟩⟩;rw[dR,j_ (by simp[hd,Je])];have fV:Fr (bz id h) Z2 H5 Z2 (upd H5 Vt (.lst (vs++[.ref q]))):=Fr.put rV ⟨8,a_⟩;exact J5.qee rV LV fV (qi (Paired.gi pv λ_ _=>xq.fr fV) (u5.fr fV))
 .rintro U H3 ⟨v,rfl,J⟩
  rw[lx,Ò]at J;obtain⟨vs,hv,pv⟩:=J.hv;obtain⟨ls,hl,pl⟩:=J.hl;refine⟨_,a_,_,a_,xa2 k _ dk _ ⟨a_,J.R.ob,T.jo,T.yl,(by show 7<1000;decide),⟨_,a_,?_⟩⟩⟩;rw[j9b];have fo:Fr (bz id h) Z2 H3 Z2 (upd H3 k (.ins t.j6 dk (fE λf=>if f=5 then Lt else A' f))):=Fr.put J.R.r0 ⟨0,a_⟩;have fo':Fr (bz id h) Z2 (upd H3 k (.ins t.j6 dk (fE λf=>if f=5 then Lt else A' f))) (aB Z2 Lt (id,.kp h 5)) (upd H3 k (.ins t.j6 dk (fE λf=>if f=5 then Lt else A' f))):=Fr.Jb rL ⟨9,a_⟩;have ff:=fo.trans fo';have kL:Lt≠k:=fW rL J.R.r0 (by intro z;cases z);have Vk:Vt≠k:=fW rV J.R.r0 (by intro z;cases z);refine g (aB Z2 Lt (id,.kp h 5)) _ (λf=>if f=5 then Lt else A' f) Vt vs ⟨ja,?_,λf a1 b1=>?_⟩ (eE.trans (J.fr.trans ff)) ?_ ?_ ?_ (Paired.gi pv λ_ _=>xq.fr ff)
  .rw[qv kL.symm];exact J.R.r0
  .by_cases z:f=5
   .subst z;exact⟨qu,.lst ls,(by show upd H3 k _ Lt=_;rw[jd kL];exact hl),ls,a_,Paired.gi pl λ_ _=>xq.fr ff⟩
   .obtain⟨rf,u,hu,q⟩:=J.R.fl f a1 b1;have nL:A' f≠Lt:=fW rf rL (by intro y;cases y;omega);show aB Z2 Lt (id,.kp h 5) (if f=5 then Lt else A' f)=_/\∃u,upd H3 k _ (if f=5 then Lt else A' f)=_/\_;rw[f? z];refine⟨by rw[qv nL];exact rf,u,by rw[jd (fW rf J.R.r0 (by intro y;cases y;omega))];exact hu,?_⟩;have q':=q.fr ff;unfold eP at q'⊢;split at q'<;>first|exact q'|exact v_ a_ z
  .exact aw.Jb rL J.kr.put
  .rw[qv LV.symm];exact rV
  .rw[jd Vk];exact hv
theorem Jf {α β:Type}{F:α->β->Prop}:∀{xs:b? α}{ys:b? β}{j:j?},g? F xs ys->g? F (xs.eraseIdx j) (ys.eraseIdx j)
 |_,_,_,.nil=>.nil
 |_,_,0,.cons _ t=>t
 |_,_,j+1,.cons h t=>.cons h (Jf t)
theorem P7 {α:Type}[İ α](a:α):∀l:b? α,l.erase a=l.eraseIdx (l.idxOf a)
 |[]=>a_
 | b::l=>by
  by_cases z:b=a
  .subst z;simp
  .have e:(b::l).idxOf a=l.idxOf a+1:=by
    rw[abR,show(b==a)=false by simpa using z];rfl
   rw[b?.erase_cons_tail (by simpa using z),e,b?.eraseIdx_cons_succ,P7 a l]
noncomputable def bb (o:O):b? i_:=[o.p,o.n,o.g,o.m]
theorem P8 {o u:O}(h:bb o=bb u):o=u:=by cases o;cases u;unfold bb at h;simp at h;simp[h]
theorem P9 (o:O):∀l:b? O,(l.map bb).idxOf (bb o)=l.idxOf o
 |[]=>a_
 |b::l=>by
  rw[y?];by_cases z:b=o
  .subst z;simp
  .rw[abR,abR,show(b==o)=false by simpa using z,show(bb b==bb o)=false by simpa using λy=>z (P8 y),P9 o l]
theorem Qa {K:e?}{H:Hp}{Z:aq}:∀{xs:b? V}{os:b? O},g? (xq H Z) xs os->g? (lq K H) xs (os.map bb):=λ{xs os} q=>by
 induction q with
 |nil=>exact .nil
 |cons a _ ih=>obtain⟨a,e,_,h⟩:=a;exact .cons ⟨a,e,ax.of h⟩ ih
theorem xM {B:Kp}{o:O}(h:B.first=some o):o∈B.wait:=į h
theorem j68 {B:Kp}(h:B.first=none):∀m,Kp.go m B=B
 |0=>a_
 |m+1=>by unfold Kp.go;rw[h]
theorem j7i {B:Kp}{o:O}(h:B.first=some o):Kp.go B.wait.length B=Kp.go (B.step o).wait.length (B.step o):=by have e:(B.step o).wait.length=B.wait.length-1:=þ (xM h);have p:0<B.wait.length:=ę (xM h);obtain⟨m,hm⟩:∃m,B.wait.length=m+1:=⟨B.wait.length-1,by lia⟩;rw[e,hm];show(match B.first with|none=>B|some o=>Kp.go m (B.step o))=_;rw[h];rfl
theorem jq4 (T:Txt K mg t):zu P w K mg base CX0 6 t.GB t.GC ["self"] (λvs H Q _=>∃Z id h k A dk B n,vs=[.ref k]/\xm t H Z id h k A dk B/\B.Ok n/\n<=8/\B.bf.length+B.cho.length<=1000/\B.done.length+B.wait.length<=1000/\aw Z H/\∀Z' H' A' r xs,xm t H' Z' id h k A' dk B.BK.xr.1->Fr (bz id h) Z H Z' H'->aw Z' H'->Z' r=some (id,.kp h 8)->H' r=some (.lst xs)->g? (xq H' Z') xs B.BK.xr.2->Q (.ref r) H'):=by
 refine T.jko.dO FA λ_ A _ s H vs Q E hr h=>?_;obtain⟨Z,id,h,k,A',dk,B,n,rfl,R,ag,n8,ll,ld,kr,g⟩:=h;refine⟨_,(@jb _ _ _ _ _ (j9 (i:=1) FA.nd a_ (w_ a_) (vg (pv 0) T.jo T.uz (PZ T) hr.dn T.OI .nil jq)) (@jb _ _ _ _ _ (SR Ŗ (ju Le (pv 1) i7 (qc _)) (@jb _ _ _ _ _ (j8 (fT A? acb PySem.F.type_list_remove (X0 hr.units) (j4 (pv 0) a_) (jc (pv 1) jf))) (@jb _ _ _ _ _ (j8 (j7 (pv 0) T.jo T.jh5 (jsh T) hr.dn T.jnb .nil jq (jc (pv 1) jf))) (@je _ _ _ (j9 (i:=1) FA.nd a_ (w_ a_) (vg (pv 0) T.jo T.uz (PZ T) hr.dn T.OI .nil jq)))))) (@je _ _ _ (j5 (vg (pv 0) T.jo T.gy (P0 T) hr.dn T.ub .nil jq))))),?_⟩;refine⟨_,a_,xa1 k dk _ ⟨a_,R.ob,fX A',xa9 Z id h k A' dk B n ⟨a_,R,ag,λv0 h0=>?_⟩⟩⟩;refine Tc (λ U H'=>∃κ' v,U=[some (.ref k),some v]/\xm t H' Z id h k A' dk κ'/\κ'.Ok n/\Fr (bz id h) Z H Z H'/\aw Z H'/\Kp.go κ'.wait.length κ'=B.BK/\κ'.bf=B.bf/\κ'.cho=B.cho/\κ'.done.length+κ'.wait.length<=1000/\((κ'.first=none/\v= .ar)\/∃o,κ'.first=some o/\xq H' Z v o)) (λ_ H'=>match H' (A' 7)with|some (.lst xs)=>xs.length|_=>0) (xa0 B v0 ⟨a_,R,ag,Fr.refl,kr,a_,a_,a_,ld,h0⟩) ?_ ?_
 .rintro U H1 ⟨κ',v,rfl,R1,kB,f1,bJ,eg,eu,ec,ld1,hv⟩
  refine⟨_,a_,a_,_,a_,?_⟩;rcases hv with⟨e,rfl⟩|⟨o,e,uo⟩
  .refine gd ?_;rw[j68 e]at eg;subst eg;refine⟨_,a_,k,dk,_,a_,R1.ob,fX A',Z,id,h,k,A',dk,_,n,a_,R1,kB,n8,by rw[eu,ec];exact ll,bJ,λ Z' H' xN r xs q1 q2 q3 q4 q5 q6=>g Z' H' xN r xs q1 (f1.trans q2) q3 q4 q5 q6⟩
  .obtain⟨q,rfl,nq,hq⟩:=uo;refine cb ?_;obtain⟨xs,hx,px⟩:=R1.wt;have om:=xM e;refine⟨_,a_,xa3 k _ dk _ _ ⟨a_,R1.ob,T.jo,T.xh,(xb A').2.2.2.2.2.2,.inl ⟨a_,_,ah.of hx⟩,_,a_,xa3 (A' 7) xs (.ref q) (bb o) (κ'.wait.map bb) ⟨a_,a_,hx,⟨q,a_,ax.of hq⟩,Qa px,N_ om,?_⟩⟩⟩;rw[P9];obtain⟨r7,_⟩:=R1.fl 7 (by decide) (by decide);obtain⟨R2,f2⟩:=R1.put (κ':={κ' with wait:=κ'.wait.erase o}) (f0:=7) (by decide) (by decide) (u0:=.lst (xs.eraseIdx (κ'.wait.idxOf o))) ⟨_,a_,by show g? _ _ (κ'.wait.erase o);rw[P7];exact Jf (Paired.gi px λ_ _=>xq.fr (Fr.put (P:=bz id h) r7 ⟨7,a_⟩))⟩ (λf u hf q=>by unfold eP at q⊢;split at q<;>first|exact q|exact v_ a_ hf);have bV:=bJ.put (a:=A' 7) (o:=.lst (xs.eraseIdx (κ'.wait.idxOf o)));have sU:xq (upd H1 (A' 7) (.lst (xs.eraseIdx (κ'.wait.idxOf o)))) Z (.ref q) o:=xq.fr f2 ⟨q,a_,nq,hq⟩;have ho:=kB.w o om;generalize upd H1 (A' 7) (.lst (xs.eraseIdx (κ'.wait.idxOf o)))=H2 at R2 f2 bV sU;refine⟨_,a_,xa1 k dk _ ⟨a_,R2.ob,fX A',_,a_,xb1 Z id h k A' dk _ n q o ⟨a_,R2,sU,ho,kB.x,kB.h,by show κ'.done.length<=1000;omega,bV,λH3 R3 f3 gN=>?_⟩⟩⟩;have Qb:(κ'.step o).Ok n:=kB.step o;refine⟨_,a_,xa1 k dk _ ⟨a_,R3.ob,fX A',xa9 Z id h k A' dk (κ'.step o) n ⟨a_,R3,Qb,λv1 hv1=>⟨(xa0 (κ'.step o) v1 ⟨a_,R3,Qb,(f1.trans f2).trans f3,gN,by rw[<-j7i e];exact eg,eu,ec,?_,hv1⟩),?_⟩⟩⟩⟩
   .have l1:(κ'.step o).done.length=κ'.done.length+1:=by show(κ'.done++[o]).length=_;rw[r_];rfl
    have l2:(κ'.step o).wait.length=κ'.wait.length-1:=þ om;have:=ę om;omega
   .obtain⟨ys,hy,py⟩:=R3.wt;have l2:(κ'.step o).wait.length=κ'.wait.length-1:=þ om;have:=ę om;have e1:=q? px;have e2:ys.length=(κ'.step o).wait.length:=q? py;rw[hy,hx];show ys.length<xs.length;omega
 .intro U H Q Q' hQ h;obtain⟨v,e1,e2,c,e3,q⟩:=h;exact⟨v,e1,e2,c,e3,hQ _ _ q⟩
theorem j14 {o:O}:∀{aa:b? (b? Key×V)}{os:b? O},aa.map (·.1)=os.map cM->(br aa (cM o)).isSome=p_ (o∈os):=λ{aa os} e=>by
 induction aa generalizing os with
 |nil=>
  cases os with
  |nil=>rfl
  |cons _ _=>simp at e
 | cons kv aa ih=>
  cases os with
  |nil=>simp at e
  |cons u os=>
   rw[y?,y?]at e;obtain⟨e1,e2⟩:=Ĵ e;have ih:=ih e2;by_cases z:u=o
   .subst z;rw[mh e1];simp
   .rw[mi (λy=>z (j40 (e1.symm.trans y))),ih];simp[Í z]
theorem xm.bY {t:Ad}{H:Hp}{Z:aq}{id:j?}{h:i_}{k dk:c_}{A:j?->c_}{B:Kp}{r:c_}{ro:Role}{o:HO}(R:xm t H Z id h k A dk B)(kr:aw Z H)(nr:H r=none):xm t (upd H r o) (aB Z r ro) id h k A dk B:=R.fr (P:=λ_=>v?) (λ_ z=>z) (Fr.bY nr)
noncomputable def Qd (t:Ad)(κ':Kp->O->Kp×b? O):Sp:=λvs H Q _=>∃Z id h k A dk B n q o,vs=[.ref k,.ref q]/\xm t H Z id h k A dk B/\xq H Z (.ref q) o/\B.Ok n/\n<=8/\vp (n:j?) o=true/\B.eO.length<=900/\B.bf.length+B.cho.length<=900/\B.done.length+B.wait.length<=900/\aw Z H/\∀Z' H' A' r xs,xm t H' Z' id h k A' dk (κ' B o).1->Fr (bz id h) Z H Z' H'->aw Z' H'->Z' r=some (id,.kp h 8)->H' r=some (.lst xs)->g? (xq H' Z') xs (κ' B o).2->Q (.ref r) H'
theorem jsj (T:Txt K mg t):zu P w K mg base CX0 6 t.GD t.GF ["self","order"] (Qd t Kp.qS):=by
 refine T.jno.aZ (N:=["self","order"]) λ_ A _ s H vs Q E hr h=>?_;obtain⟨Z,id,h,k,A',dk,B,n,q,o,rfl,R,uq,ag,n8,ho,lh,lu,ld,kr,g⟩:=h;refine⟨_,(@jb _ _ _ _ _ (zo (zI (UW (mf hr) (pv 1) (j4 (pv 0) a_))) (@je _ _ _ (j5 (@zj _ _ _ _ jf))) qe) (@jb _ _ _ _ _ (LX (mf hr) (j4 (pv 0) a_) (pv 1) gQ a_) (@jb _ _ _ _ _ (j8 (fT A? D_ E_ y3 (j4 (pv 0) a_) (jc (pv 1) jf))) (@je _ _ _ (j5 (vg (pv 0) T.jo T.gy (P0 T) hr.dn T.ub .nil jq)))))),?_⟩;obtain⟨_,eq,nq,hq⟩:=uq;cases eq;obtain⟨aa,hk,ek⟩:=R.hd;have hv:=j14 (o:=o) ek;refine⟨_,a_,_,a_,xa3 k _ dk _ _ ⟨a_,R.ob,T.jo,T.IE,(xb A').2.2.2.1,xa0 (A' 4) (br aa (cM o)) ⟨a_,.inr (xa1 aa (cM o) q ⟨.inl hk,a_,hq,a_⟩),_,a_,?_⟩⟩⟩;rw[hv];unfold Kp.qS at g;refine bh (λz=>?_) (λz=>?_)
 .have z':o∈B.eO:=w? z;rw[j_ z']at g;refine⟨cz,λr nr=>?_⟩;have f1:Fr (bz id h) Z H (aB Z r (id,.kp h 8)) (upd H r (.lst [])):=Fr.bY nr;refine g _ _ A' r [] (xm.bY R kr nr) f1 kr.bY qu ja .nil
 .have z':¬o∈B.eO:=λy=>z (j' y);rw[f? z']at g;have nk:br aa (cM o)=none:=by
   cases e:br aa (cM o)with
   |none=>rfl
   |some v=>rw[e,t_ z']at hv;cases hv
  have lk:aa.length<=1000:=by have:=T_ ć ek;rw[i?,i?]at this;omega
  refine⟨_,a_,xa3 k _ dk _ _ ⟨a_,R.ob,T.jo,T.IE,(xb A').2.2.2.1,_,a_,xa0 (A' 4) _ ⟨a_,iO.t (k:=cM o) hk hq (zq lk),?_⟩⟩⟩;rw[Aj _ nk];obtain⟨R1,f1⟩:=R.put (κ':={B with eO:=B.eO++[o]}) (f0:=4) (by decide) (by decide) (u0:=.dT (aa++[(cM o,.bl true)])) ⟨_,a_,by rw[H_,ek,H_];rfl⟩ (λf u hf q=>by unfold eP at q⊢;split at q<;>first|exact q|exact v_ a_ hf);have bJ:=kr.put (a:=A' 4) (o:=.dT (aa++[(cM o,.bl true)]));have oF:xq _ Z (.ref q) o:=xq.fr f1 ⟨q,a_,nq,hq⟩;generalize upd H (A' 4) (.dT (aa++[(cM o,.bl true)]))=H1 at R1 f1 bJ oF;obtain⟨xs,hx,px⟩:=R1.un;have lx:xs.length<=1000:=by rw[q? px];show B.bf.length<=1000;omega
  refine⟨_,a_,xa3 k _ dk _ _ ⟨a_,R1.ob,T.jo,T.yl,(xb A').2.2.2.2.1,.inl ⟨a_,_,ah.of hx⟩,_,a_,xa1 (A' 5) xs (.ref q) ⟨a_,a_,hx,zq lx,?_⟩⟩⟩;obtain⟨r5,_⟩:=R1.fl 5 (by decide) (by decide);obtain⟨R2,f2⟩:=R1.put (κ':={B with eO:=B.eO++[o],bf:=B.bf++[o]}) (f0:=5) (by decide) (by decide) (u0:=.lst (xs++[.ref q])) ⟨_,a_,qi (Paired.gi px λ_ _=>xq.fr (Fr.put (P:=bz id h) r5 ⟨5,a_⟩)) (oF.fr (Fr.put (P:=bz id h) r5 ⟨5,a_⟩))⟩ (λf u hf q=>by unfold eP at q⊢;split at q<;>first|exact q|exact v_ a_ hf);have bV:=bJ.put (a:=A' 5) (o:=.lst (xs++[.ref q]));dsimp only;generalize upd H1 (A' 5) (.lst (xs++[.ref q]))=H2 at R2 f2 bV;have Jg:Kp.Ok n {B with eO:=B.eO++[o],bf:=B.bf++[o]}:=⟨ag.h,ag.x,λu hu=>by
   rcases A_.mp hu with hu|hu
   .exact ag.u u hu
   .rw[m?.mp hu];exact ho,ag.w,ag.nd⟩;exact⟨_,a_,k,dk,_,a_,R2.ob,fX A',Z,id,h,k,A',dk,_,n,a_,R2,Jg,n8,by show(B.bf++[o]).length+B.cho.length<=1000;rw[r_];show B.bf.length+1+B.cho.length<=1000;omega,bV,λ Z' H' xN r ys q1 q2 q3 q4 q5 q6=>g Z' H' xN r ys q1 ((f1.trans f2).trans q2) q3 q4 q5 q6⟩
theorem jkd (T:Txt K mg t):zu P w K mg base CX0 7 t.uw t.pz ["self","order"] (Qd t Kp.mI):=by
 refine T.jd6.aZ (N:=["self","order"]) λ_ A _ s H vs Q E hr h=>?_;obtain⟨Z,id,h,k,A',dk,B,n,q,o,rfl,R,uq,ag,n8,ho,lh,lu,ld,kr,g⟩:=h;refine⟨_,(@jb _ _ _ _ _ (zo (PW.pt (eX (zt (j7 (pv 0) T.jo T.w4 (Ja T) hr.dn T.Ip .nil jq (jc (pv 1) jf))) (fQ (ju (WI hr.units) (pv 1) (j4 (pv 0) a_) (by with_unfolding_all rfl))))) (@je _ _ _ (j5 (@zj _ _ _ _ jf))) qe) (@jb _ _ _ _ _ (j8 (fT A? D_ E_ y3 (j4 (pv 0) a_) (jc (pv 1) jf))) (@je _ _ _ (j5 (vg (pv 0) T.jo T.jjb (jq4 T) hr.dn T.jku .nil jq))))),?_⟩;obtain⟨_,eq,nq,hq⟩:=uq;cases eq;obtain⟨xs,hx,px⟩:=R.wt;unfold Kp.mI at g;have none_:(B.past o||decide (o∈B.wait))=true->∀r H1,xf H H1->H1 r=none->Q (.ref r) (upd H1 r (.lst [])):=λz r H1 s1 nr=>by
  rw[j_ z]at g;have f0:Fr (bz id h) Z H Z H1:=Fr.same s1;have f1:Fr (bz id h) Z H1 (aB Z r (id,.kp h 8)) (upd H1 r (.lst [])):=Fr.bY nr;exact g _ _ A' r [] (xm.bY (R.fr (P:=λ_=>v?) (λ_ z=>z) (Fr.same s1)) (kr.same s1) nr) (f0.trans f1) (kr.same s1).bY qu ja .nil
 refine⟨_,a_,xa1 k dk _ ⟨a_,R.ob,fX A',_,a_,xb1 Z id h k A' dk B n q o ⟨a_,R,hq,ho,ag.x,_,a_,?_⟩⟩⟩;cases hp:B.past o with
 |true=>refine cb (cb ⟨cz,λr nr=>none_ (by rw[hp];rfl) r H (xf.refl _) nr⟩)
 | false=>
  refine gd ⟨_,a_,_,a_,xa3 k _ dk _ _ ⟨a_,R.ob,T.jo,T.xh,(xb A').2.2.2.2.2.2,xa2 (A' 7) xs (bb o) (B.wait.map bb) ⟨a_,ah.of hx,⟨q,a_,ax.of hq⟩,Qa px,_,a_,bh (λz=>?_) (λz=>?_)⟩⟩⟩
  .have z':o∈B.wait:=by
    obtain⟨u,hu,e⟩:=O_.mp (w? z);rw[<-P8 e];exact hu
   exact⟨cz,λr nr=>none_ (by rw[j' z',aaC]) r H (xf.refl _) nr⟩
  .have z':¬o∈B.wait:=λy=>z (j' (N_ y));rw[f? (by rw[hp,t_ z'];decide)]at g;have lx:xs.length<=1000:=by rw[q? px];omega
   refine⟨_,a_,xa3 k _ dk _ _ ⟨a_,R.ob,T.jo,T.xh,(xb A').2.2.2.2.2.2,.inl ⟨a_,_,ah.of hx⟩,_,a_,xa1 (A' 7) xs (.ref q) ⟨a_,a_,hx,zq lx,?_⟩⟩⟩;obtain⟨r7,_⟩:=R.fl 7 (by decide) (by decide);obtain⟨R2,f2⟩:=R.put (κ':={B with wait:=B.wait++[o]}) (f0:=7) (by decide) (by decide) (u0:=.lst (xs++[.ref q])) ⟨_,a_,qi (Paired.gi px λ_ _=>xq.fr (Fr.put (P:=bz id h) r7 ⟨7,a_⟩)) (xq.fr (Fr.put (P:=bz id h) r7 ⟨7,a_⟩) ⟨q,a_,nq,hq⟩)⟩ (λf u hf q=>by unfold eP at q⊢;split at q<;>first|exact q|exact v_ a_ hf);have bV:=kr.put (a:=A' 7) (o:=.lst (xs++[.ref q]));dsimp only;generalize upd H (A' 7) (.lst (xs++[.ref q]))=H2 at R2 f2 bV;have Jg:Kp.Ok n {B with wait:=B.wait++[o]}:=⟨ag.h,ag.x,ag.u,λu hu=>by
    rcases A_.mp hu with hu|hu
    .exact ag.w u hu
    .rw[m?.mp hu];exact ho,ä.mpr ⟨ag.nd,by simp,λx hx y hy e=>by rw[m?.mp hy]at e;subst e;exact z' hx⟩⟩;exact⟨_,a_,xa1 k dk _ ⟨a_,R2.ob,fX A',xa9 Z id h k A' dk _ n ⟨a_,R2,Jg,n8,by show B.bf.length+B.cho.length<=1000;omega,by show B.done.length+(B.wait++[o]).length<=1000;rw[r_];show B.done.length+(B.wait.length+1)<=1000;omega,bV,λ Z' H' xN r ys q1 q2 q3 q4 q5 q6=>g Z' H' xN r ys q1 (f2.trans q2) q3 q4 q5 q6⟩⟩⟩
noncomputable def cZ (n aJ:i_)(ly ch kd bd ak wy:c_):b? (y_×V):=wm "on_way" (.ref wy) (wm "asked" (.ref ak) (wm "board" (.ref bd) (wm "keepers" (.ref kd) (wm "cheating" (.ref ch) (wm "lying" (.ref ly) (wm "total" (.int aJ) (wm "purses" (.int n) [])))))))
theorem BN {n aJ:i_}{ly ch kd bd ak wy:c_}:(cZ n aJ ly ch kd bd ak wy).lookup ("purses":y_)=some (.int n):=by unfold cZ;repeat(first|rw[jj,j_ a_]|rw[jj,f? (by decide+kernel)])
theorem j1l {n aJ:i_}{ly ch kd bd ak wy:c_}:(cZ n aJ ly ch kd bd ak wy).lookup ("lying":y_)=some (.ref ly):=by unfold cZ;repeat(first|rw[jj,j_ a_]|rw[jj,f? (by decide+kernel)])
theorem Jh {n aJ:i_}{ly ch kd bd ak wy:c_}:(cZ n aJ ly ch kd bd ak wy).lookup ("cheating":y_)=some (.ref ch):=by unfold cZ;repeat(first|rw[jj,j_ a_]|rw[jj,f? (by decide+kernel)])
theorem xO {n aJ:i_}{ly ch kd bd ak wy:c_}:(cZ n aJ ly ch kd bd ak wy).lookup ("keepers":y_)=some (.ref kd):=by unfold cZ;repeat(first|rw[jj,j_ a_]|rw[jj,f? (by decide+kernel)])
theorem xP {n aJ:i_}{ly ch kd bd ak wy:c_}:(cZ n aJ ly ch kd bd ak wy).lookup ("board":y_)=some (.ref bd):=by unfold cZ;repeat(first|rw[jj,j_ a_]|rw[jj,f? (by decide+kernel)])
theorem Qe {n aJ:i_}{ly ch kd bd ak wy:c_}:(cZ n aJ ly ch kd bd ak wy).lookup ("asked":y_)=some (.ref ak):=by unfold cZ;repeat(first|rw[jj,j_ a_]|rw[jj,f? (by decide+kernel)])
theorem sV {n aJ:i_}{ly ch kd bd ak wy:c_}:(cZ n aJ ly ch kd bd ak wy).lookup ("on_way":y_)=some (.ref wy):=by unfold cZ;repeat(first|rw[jj,j_ a_]|rw[jj,if_neg (by decide+kernel)])
theorem xn {n aJ:i_}{ly ch kd bd ak wy:c_}{m:y_}(h:e_ (¬m="on_way"/\¬m="asked"/\¬m="board"/\¬m="keepers"/\¬m="cheating"/\¬m="lying"/\¬m="total"/\¬m="purses") aP4):(cZ n aJ ly ch kd bd ak wy).lookup m=none:=by obtain⟨h1,h2,h3,h4,h5,h6,h7,h8⟩:=h;unfold cZ;rw[jj,f? h1,jj,f? h2,jj,f? h3,jj,f? h4,jj,f? h5,jj,f? h6,jj,f? h7,jj,f? h8];rfl
structure Wd where
 n:j?
 fF:b? i_
 ks:b? (i_×Kp)
 bd:yz
 en:i_
 asked:b? (b? O)
 way:b? (s?×i_×O)
noncomputable def cO (ks:b? (i_×Kp))(h:i_)(B:Kp):b? (i_×Kp):=ks.map λc=>if c.1=h then(h,B)else c
noncomputable def Wd.post (w:Wd)(b:s?)(o:O):Wd:={w with way:=w.way++w.ks.map λc=>(b,c.1,o)}
noncomputable def za:yz->b? i_->b? i_
 |[],_=>[]
 |p::ps,k=>if p.1=k then p.2 else za ps k
noncomputable def dG:yz->b? i_->i_->yz
 |[],k,h=>[(k,[h])]
 |p::ps,k,h=>if p.1=k then(p.1,p.2++[h])::ps else p::dG ps k h
noncomputable def Wd.put (w:Wd)(h:i_)(o:O):Wd×s?:=if h∈za w.bd (bb o)then(w,false)else({w with bd:=dG w.bd (bb o) h},p_ (((za w.bd (bb o)).length:i_)+1=w.en))
noncomputable def Wd.bW (h:i_)(w:Wd)(o:O):Wd:=if(w.put h o).2=true then(w.put h o).1.post false o else(w.put h o).1
noncomputable def Wd.xr (w:Wd)(h:i_)(os:b? O):Wd:=os.foldl (Wd.bW h) w
noncomputable def Wd.keep (w:Wd)(h:i_):f_ Kp:=(w.ks.find? λc=>p_ (c.1=h)).map (·.2)
noncomputable def Kp.take (B:Kp)(b:s?)(o:O):Kp×b? O:=if b=true then B.qS o else B.mI o
noncomputable def Wd.xQ (w:Wd)(i:j?)(l:s?×i_×O)(B:Kp):Wd:=Wd.xr {w with way:=w.way.eraseIdx i,ks:=cO w.ks l.2.1 (B.take l.1 l.2.2).1} l.2.1 (B.take l.1 l.2.2).2
theorem xR (k:b? i_):∀is:yz,qw (bU is) (cG k)=za is k
 |[]=>a_
 |p::ps=>by
  show(if cG p.1=cG k then p.2 else qw (bU ps) (cG k))=if p.1=k then p.2 else za ps k;by_cases z:p.1=k
  .rw[j_ z,j_ (by rw[z])]
  .rw[f? z,f? (λy=>z (IQ y)),xR k ps]
theorem Qf (k:b? i_)(h:i_):∀is:yz,mF (bU is) (cG k) h=bU (dG is k h)
 |[]=>a_
 |p::ps=>by
  show(if cG p.1=cG k then(cG p.1,p.2++[h])::bU ps else(cG p.1,p.2)::mF (bU ps) (cG k) h)=bU (if p.1=k then(p.1,p.2++[h])::ps else p::dG ps k h);by_cases z:p.1=k
  .rw[j_ z,j_ (by rw[z])];rfl
  .rw[f? z,f? (λy=>z (IQ y)),Qf k h ps];rfl
noncomputable def sW (b:s?):V:=.str (if b=true then"order"else"paper")
noncomputable def de (H:Hp)(Z:aq)(x:V)(l:s?×i_×O):Prop:=∃a q,x= .ref a/\Z a=none/\H a=some (.tup [sW l.1,.int l.2.1,.ref q])/\xq H Z (.ref q) l.2.2
theorem de.fr {P:Role->Prop}{Z Z':aq}{H H':Hp}{x:V}{l:s?×i_×O}(f:Fr P Z H Z' H')(h:de H Z x l):de H' Z' x l:=by
 obtain⟨a,q,e,n,h1,h2⟩:=h;obtain⟨gY,n'⟩:=f a _ h1 λr hr=>by rw[n]at hr;cases hr
 exact(xa0 a q ⟨e,n'.trans n,gY,h2.fr f⟩)
structure WA where
 x:c_
 dx:c_
 aJ:i_
 ly:c_
 ch:c_
 kd:c_
 bd:c_
 ak:c_
 wy:c_
 db:c_
 S:c_
noncomputable abbrev WA.fs (W:WA)(n:j?):b? (y_×V):=cZ n W.aJ W.ly W.ch W.kd W.bd W.ak W.wy
noncomputable def yk (t:Ad)(H:Hp)(Z:aq)(id:j?)(aa:b? (Key×V))(ks:b? (i_×Kp)):Prop:=g? (λkv (c:i_×Kp)=>kv.1= .inl c.1/\∃k A dk,kv.2= .ref k/\xm t H Z id c.1 k A dk c.2) aa ks
noncomputable def mK (H:Hp)(Z:aq)(id:j?)(rs:b? c_)(asked:b? (b? O)):Prop:=rs.length=asked.length/\∀(i:j?)(r:c_)(os:b? O),rs[i]?=some r->asked[i]?=some os->Z r=some (id,.row i)/\∃xs,H r=some (.lst xs)/\g? (xq H Z) xs os
noncomputable def mL (Z:aq)(id:j?)(aa:b? (b? Key×V)):Prop:=∀kv∈aa,∃c,kv.2= .ref c/\Z c=some (id,.sg)
structure qo (t:Ad)(H:Hp)(Z:aq)(id:j?)(W:WA)(w:Wd):Prop where
 ob:H W.x=some (.ins t.j3 W.dx (W.fs w.n))/\Z W.x=some (id,.x)
 ch:H W.ch=some (.lst (w.fF.map V.int))/\Z W.ch=none
 kd:Z W.kd=some (id,.kd)/\∃aa,H W.kd=some (.dK aa)/\yk t H Z id aa w.ks
 bd:Z W.bd=some (id,.bd)/\Z W.S=some (id,.sd)/\∃aa,y7 t H W.bd W.db W.S w.en aa (bU w.bd)/\mL Z id aa
 ak:Z W.ak=some (id,.ak)/\∃rs,H W.ak=some (.lst (rs.map V.ref))/\mK H Z id rs w.asked
 wy:Z W.wy=some (id,.wy)/\∃xs,H W.wy=some (.lst xs)/\g? (de H Z) xs w.way
section
variable {t:Ad}{H H':Hp}{Z Z':aq}{id:j?}{W:WA}{w:Wd}{P:Role->Prop}
theorem cq {a:c_}{u:HO}{r:Role}(f:Fr P Z H Z' H')(e:H a=some u)(er:Z a=some r)(n:¬P r):H' a=some u/\Z' a=some r:=by
 obtain⟨e1,r1⟩:=f a u e λr' hr=>by rw[er]at hr;cases hr;exact n
 exact⟨e1,r1.trans er⟩
theorem dS {a:c_}{u:HO}(f:Fr P Z H Z' H')(e:H a=some u)(er:Z a=none):H' a=some u/\Z' a=none:=by
 obtain⟨e1,r1⟩:=f a u e λr' hr=>by rw[er]at hr;cases hr
 exact⟨e1,r1.trans er⟩
theorem yk.fr {aa:b? (Key×V)}{ks:b? (i_×Kp)}(f:Fr P Z H Z' H')(hP:∀h i,¬P (id,.kp h i))(k:yk t H Z id aa ks):yk t H' Z' id aa ks:=Paired.gi k λ_ c ⟨e,k,A,dk,ek,q⟩=>⟨e,xa1 k A dk ⟨ek,q.fr (hP c.1) f⟩⟩
theorem mK.fr {rs:b? c_}{asked:b? (b? O)}(f:Fr P Z H Z' H')(hP:∀i,¬P (id,.row i))(k:mK H Z id rs asked):mK H' Z' id rs asked:=⟨k.1,λi r os e1 e2=>by obtain⟨rr,xs,h,p⟩:=k.2 i r os e1 e2;obtain⟨h',r'⟩:=cq f h rr (hP i);exact⟨r',xs,h',Paired.gi p λ_ _=>xq.fr f⟩⟩
theorem y7.fr {p dx S:c_}{en:i_}{aa:b? (b? Key×V)}{ps:gL}(f:Fr P Z H Z' H')(rp:Z p=some (id,.bd))(rS:Z S=some (id,.sd))(sg:mL Z id aa)(n1:¬P (id,.bd))(n2:¬P (id,.sd))(n3:¬P (id,.sg))(Bq:y7 t H p dx S en aa ps):y7 t H' p dx S en aa ps/\Z' p=some (id,.bd)/\Z' S=some (id,.sd)/\mL Z' id aa:=by
 obtain⟨e1,r1⟩:=cq f Bq.ob rp n1;obtain⟨e2,r2⟩:=cq f Bq.sg rS n2;have hs:∀{kv:b? Key×V}{q:b? Key×b? i_},kv∈aa->iW H kv q->iW H' kv q/\∃c,kv.2= .ref c/\Z' c=some (id,.sg):=λ{kv q} m ⟨a,c,ec,hc⟩=>by obtain⟨c',Qg,rc⟩:=sg kv m;rw[ec]at Qg;cases Qg;obtain⟨h1,h2⟩:=cq f hc rc n3;exact⟨⟨a,c,ec,h1⟩,c,ec,h2⟩
 have all:∀{xs:b? (b? Key×V)}{ys:gL},(∀x∈xs,x∈aa)->g? (iW H) xs ys->g? (iW H') xs ys/\mL Z' id xs:=λ{xs ys} m q=>by
  induction q with
  |nil=>exact⟨.nil,λ_ z=>by cases z⟩
  |cons h _ ih=>
   obtain⟨i1,i2⟩:=ih λx hx=>m x (u_ _ hx);obtain⟨j1,j2⟩:=hs (m _ t?) h;refine⟨.cons j1 i1,λx hx=>?_⟩;rcases B_.mp hx with rfl|hx
   .exact j2
   .exact i2 x hx
 obtain⟨a1,a2⟩:=all (λ_ h=>h) Bq.hs;exact⟨⟨e1,e2,a1,Bq.un⟩,r1,r2,a2⟩
theorem qo.fr (hP:∀p,¬P (id,p))(f:Fr P Z H Z' H')(w1:qo t H Z id W w):qo t H' Z' id W w:=by obtain⟨rk,aa,hk,ks⟩:=w1.kd;obtain⟨rb,rS,xS,Bq,sg⟩:=w1.bd;obtain⟨ra,rs,ha,rows⟩:=w1.ak;obtain⟨eQ,xs,hw,pw⟩:=w1.wy;obtain⟨qU,rk'⟩:=cq f hk rk (hP _);obtain⟨B',BO,BP,Ji⟩:=Bq.fr f rb rS sg (hP _) (hP _) (hP _);obtain⟨Jj,Jk⟩:=cq f ha ra (hP _);obtain⟨qV,cI⟩:=cq f hw eQ (hP _);exact⟨cq f w1.ob.1 w1.ob.2 (hP _),dS f w1.ch.1 w1.ch.2,⟨rk',aa,qU,ks.fr f λ_ _=>hP _⟩,⟨BO,BP,xS,B',Ji⟩,⟨Jk,rs,Jj,rows.fr f λ_=>hP _⟩,⟨cI,xs,qV,Paired.gi pw λ_ _=>de.fr f⟩⟩
theorem qo.but (f:Fr P Z H Z' H')(w1:qo t H Z id W w)(w':Wd)(n1:¬P (id,.x))(en:w'.n=w.n)(ec:w'.fF=w.fF)(kd:(Z W.kd=some (id,.kd)->(∃aa,H W.kd=some (.dK aa)/\yk t H Z id aa w.ks)->Z' W.kd=some (id,.kd)/\∃aa,H' W.kd=some (.dK aa)/\yk t H' Z' id aa w'.ks))(bd:(Z W.bd=some (id,.bd)->Z W.S=some (id,.sd)->(∃aa,y7 t H W.bd W.db W.S w.en aa (bU w.bd)/\mL Z id aa)->Z' W.bd=some (id,.bd)/\Z' W.S=some (id,.sd)/\∃aa,y7 t H' W.bd W.db W.S w'.en aa (bU w'.bd)/\mL Z' id aa))(ak:(Z W.ak=some (id,.ak)->(∃rs,H W.ak=some (.lst (rs.map V.ref))/\mK H Z id rs w.asked)->Z' W.ak=some (id,.ak)/\∃rs,H' W.ak=some (.lst (rs.map V.ref))/\mK H' Z' id rs w'.asked))(wy:(Z W.wy=some (id,.wy)->(∃xs,H W.wy=some (.lst xs)/\g? (de H Z) xs w.way)->Z' W.wy=some (id,.wy)/\∃xs,H' W.wy=some (.lst xs)/\g? (de H' Z') xs w'.way)):qo t H' Z' id W w':=by
 refine⟨?_,?_,kd w1.kd.1 w1.kd.2,bd w1.bd.1 w1.bd.2.1 w1.bd.2.2,ak w1.ak.1 w1.ak.2,wy w1.wy.1 w1.wy.2⟩
 .rw[en];exact cq f w1.ob.1 w1.ob.2 n1
 .rw[ec];exact dS f w1.ch.1 w1.ch.2
theorem hU (f:Fr P Z H Z' H')(n1:¬P (id,.kd))(n2:∀h i,¬P (id,.kp h i)){kd:c_}{ks:b? (i_×Kp)}(r:Z kd=some (id,.kd))(h:∃aa,H kd=some (.dK aa)/\yk t H Z id aa ks):Z' kd=some (id,.kd)/\∃aa,H' kd=some (.dK aa)/\yk t H' Z' id aa ks:=by obtain⟨aa,hk,q⟩:=h;obtain⟨h',r'⟩:=cq f hk r n1;exact⟨r',aa,h',q.fr f n2⟩
theorem iX (f:Fr P Z H Z' H')(n1:¬P (id,.bd))(n2:¬P (id,.sd))(n3:¬P (id,.sg)){b db S:c_}{en:i_}{is:yz}(rb:Z b=some (id,.bd))(rS:Z S=some (id,.sd))(h:∃aa,y7 t H b db S en aa (bU is)/\mL Z id aa):Z' b=some (id,.bd)/\Z' S=some (id,.sd)/\∃aa,y7 t H' b db S en aa (bU is)/\mL Z' id aa:=by obtain⟨aa,Bq,sg⟩:=h;obtain⟨B',BO,BP,Ji⟩:=Bq.fr f rb rS sg n1 n2 n3;exact⟨BO,BP,aa,B',Ji⟩
theorem mM (f:Fr P Z H Z' H')(n1:¬P (id,.ak))(n2:∀i,¬P (id,.row i)){ak:c_}{asked:b? (b? O)}(r:Z ak=some (id,.ak))(h:∃rs,H ak=some (.lst (rs.map V.ref))/\mK H Z id rs asked):Z' ak=some (id,.ak)/\∃rs,H' ak=some (.lst (rs.map V.ref))/\mK H' Z' id rs asked:=by obtain⟨rs,hk,q⟩:=h;obtain⟨h',r'⟩:=cq f hk r n1;exact⟨r',rs,h',q.fr f n2⟩
theorem Jl (f:Fr P Z H Z' H')(n1:¬P (id,.wy)){wy:c_}{way:b? (s?×i_×O)}(r:Z wy=some (id,.wy))(h:∃xs,H wy=some (.lst xs)/\g? (de H Z) xs way):Z' wy=some (id,.wy)/\∃xs,H' wy=some (.lst xs)/\g? (de H' Z') xs way:=by obtain⟨rs,hk,q⟩:=h;obtain⟨h',r'⟩:=cq f hk r n1;exact⟨r',rs,h',Paired.gi q λ_ _=>de.fr f⟩
end
theorem j05 {α β:Type}{F:α->β->Prop}:∀{xs aE:b? α}{ys ba:b? β},g? F xs ys->g? F aE ba->g? F (xs++aE) (ys++ba):=λ{xs aE ys ba} q h=>by
 induction q with
 |nil=>exact h
 |cons a _ ih=>exact .cons a ih
theorem big {n:j?}(h:n<=1000000):n<k?:=ė h (by decide)
theorem BQ {n:j?}(h:n<=1000000):n<=k?:=Ć (big h)
noncomputable abbrev BR (H:Hp)(x:c_)(G:Hp):Prop:=∀b u,H b=some u->b≠x->G b=some u
theorem Fr.Jm {P:Role->Prop}{Z:aq}{H G:Hp}{x:c_}{r:Role}(h:Z x=some r)(p:P r)(f:BR H x G):Fr P Z H Z G:=λb u e n=>⟨f b u e λz=>n r (z ▸ h) p,a_⟩
theorem aw.Jm {Z:aq}{H G:Hp}{x:c_}{u:HO}(k:aw Z H)(f:BR H x G)(hx:G x=some u)(nu:oE u):aw Z G:=λb r h=>by
 by_cases z:b=x
 .subst z;exact⟨u,hx,nu⟩
 .obtain⟨v,e,n⟩:=k b r h;exact⟨v,f b v e z,n⟩
noncomputable def fY (id:j?)(p:Part):Role->Prop:=λr=>r=(id,p)
theorem jz {id:j?}{p q:Part}(h:q≠p:=by intro z;cases z):¬fY id p (id,q):=λz=>h (Ô z).2
theorem j9m {a:c_}{o:J_}{aa:b? (Key×V)}{g:TG}{tb:TS}{D:Ends}{U:St}{H:Hp}(Pv:j?->St->Hp->Prop)(h0:Pv 0 U H)(hl:∀i U H,i<=aa.length->Pv i U H->H a=some (.az o (.dK aa)))(hs:∀i kv U H,aa[i]?=some kv->Pv i U H->g (kV kv.1) U H λ U2 H2=>tb {D with nx:=Pv (i+1),ct:=Pv (i+1),bk:=D.nx} U2 H2)(hd:∀U H,Pv aa.length U H->D.nx U H):∃W:j?->j?->St->Hp->Prop,(∃m,W 0 m U H)/\∀i m U H,W i m U H->((vF a o aa).stop i H/\D.nx U H)\/((vF a o aa).go i H/\∃N:St->Hp->Prop,(∀U' H',N U' H'->∃m',m'<m/\W (i+1) m' U' H')/\∀x H',(vF a o aa).eF i H x H'->g x U H' λ U2 H2=>tb {D with nx:=N,ct:=N,bk:=D.nx} U2 H2):=by
 refine⟨λi m U H=>m=aa.length-i/\i<=aa.length/\Pv i U H,⟨aa.length,by simp,W_ _,h0⟩,?_⟩
 rintro i m U H ⟨rfl,hi,p⟩
 have q:=hl i U H hi p;by_cases aA:i<aa.length
 .refine .inr ⟨⟨aA,q⟩,Pv (i+1),λ U' H' p'=>⟨aa.length-(i+1),by lia,a_,aA,p'⟩,λx H' y=>?_⟩;obtain⟨e,kv,ek,ex⟩:=y;subst e ex;exact hs i kv U _ ek p
 .have e:i=aa.length:=by lia
  subst e;exact .inl ⟨⟨s_ _,q⟩,hd U H p⟩
theorem Jn (T:Txt K mg t):zu P w K mg base CX0 1 t.GH t.GI ["self"] (λvs H Q _=>∃Z id W Y,vs=[.ref W.x]/\qo t H Z id W Y/\Y.way.length<=100000/\∀r xs,H r=none->g? (de H Z) xs Y.way->Q (.ref r) (upd H r (.lst xs))):=by refine T.jji.aZ (N:=["self"]) λ_ A _ s H vs Q E hr h=>?_;obtain⟨Z,id,W,Y,rfl,O,l,k⟩:=h;refine⟨_,(@je _ _ _ (j5 (y4 we a_ T.mD boot_list (jc (j4 (pv 0) a_) jf)))),?_⟩;obtain⟨eQ,xs,hw,pw⟩:=O.wy;exact⟨_,a_,xa3 W.x _ W.dx _ _ ⟨a_,O.ob.1,T.jk,T.zr,sV,xa0 W.wy xs ⟨a_,.inl (ah.of hw),λr nr=>k r xs nr pw⟩⟩⟩
theorem Qh (T:Txt K mg t):zu P w K mg base CX0 1 t.gq t.gh ["self","word","order"] (λvs H Q _=>∃Z id W Y b q o,vs=[.ref W.x,sW b,.ref q]/\qo t H Z id W Y/\aw Z H/\xq H Z (.ref q) o/\Y.way.length<=100000/\Y.ks.length<=16/\∀H',qo t H' Z id W (Y.post b o)->Fr (fY id .wy) Z H Z H'->aw Z H'->Q .ar H'):=by
 refine T.jct.dO Of λ_ A _ s H vs Q E hr h=>?_;obtain⟨Z,id,W,Y,b,q,o,rfl,O,kr,uq,l,l2,k⟩:=h;refine⟨_,(@je _ _ _ (Wg (pI Ŗ a_ (Wm (j4 (pv 0) a_)) (jw (i:=3) Of.nd a_ (w_ a_)) (@je _ _ _ (j8 (fT A? D_ E_ y3 (j4 (pv 0) a_) (jc (@gR _ _ _ _ _ (@cA _ _ _ _ _ _ _ (pv 1) (pv 3) (pv 2) a_ a_ a_)) jf))))))),?_⟩;obtain⟨rk,aa,kd,ks⟩:=O.kd;obtain⟨eQ,way,wy,pw⟩:=O.wy;have ob:=O.ob.1;have kw:W.kd≠W.wy:=fW rk eQ (by intro z;cases z);have kx:W.x≠W.kd:=fW O.ob.2 rk (by intro z;cases z);have wx:W.x≠W.wy:=fW O.ob.2 eQ (by intro z;cases z);have lk:aa.length=Y.ks.length:=q? ks;have lw:way.length=Y.way.length:=q? pw;refine⟨_,a_,xa3 W.x _ W.dx _ _ ⟨a_,ob,T.jk,T.zw,xO,xa0 W.kd aa ⟨a_,kd,λoo=>j9m (λi U H'=>∃v ts,U=[some (.ref W.x),some (sW b),some (.ref q),v]/\ts.length=i/\H' W.wy=some (.lst (way++ts))/\BR (upd H W.kd (.az oo (.dK aa))) W.wy H'/\g? (λx (c:i_×Kp)=>∃a,x= .ref a/\H a=none/\H' a=some (.tup [sW b,.int c.1,.ref q])) ts (Y.ks.take i)) ?_ ?_ ?_ ?_⟩⟩⟩
 .exact(xa0 none [] ⟨a_,a_,(by rw[å,jd kw.symm];exact wy),(λb u e _=>e),.nil⟩)
 .rintro i U H' _ ⟨v,ts,_,_,_,f,_⟩
  exact f _ _ ja kw
 .rintro i kv U H' ek ⟨v,ts,rfl,lt,hw,f,pt⟩
  obtain⟨c,ec,e1,_⟩:=qa ks ek;have ob':H' W.x=some (.ins t.j3 W.dx (W.fs Y.n)):=f _ _ (by rw[jd kx];exact ob) wx;have hi:=(xv.mp ek).1;refine⟨_,a_,xa3 W.x _ W.dx _ _ ⟨a_,ob',T.jk,T.zr,sV,.inl ⟨a_,_,ah.of hw⟩,_,a_,_,a_,_,a_,oz,λp np=>?_⟩⟩;have sp:=jg (o:=.tup [sW b,kV kv.1,.ref q]) np;have mJ:H p=none:=by
   cases e:H p with
   |none=>rfl
   | some u=>
    exfalso;by_cases z:p=W.wy
    .rw[z,hw]at np;cases np
    .by_cases z2:p=W.kd
     .rw[z2,f _ _ ja kw]at np;cases np
     .have:=f p u (by rw[jd z2];exact e) z;rw[np]at this;cases this
  have pw_:p≠W.wy:=λz=>by rw[z,hw]at np;cases np
  refine(xa1 W.wy _ _ ⟨a_,a_,sp _ _ hw,big (by rw[r_,lt];omega),xa0 _ (ts++[.ref p]) ⟨a_,?_,?_,λb' u e bw=>?_,?_⟩⟩)
  .rw[r_,lt];rfl
  .rw[ja,abp]
  .rw[jd bw];exact sp _ _ (f _ _ e bw)
  .rw[take_snoc ec];refine qi (Paired.gi pt λ_ _ ⟨a,e,n,h'⟩=>⟨a,e,n,?_⟩) ⟨p,a_,mJ,?_⟩
   .rw[jd (λz=>by rw[z,hw]at h';cases h')];exact sp _ _ h'
   .rw[jd pw_,ja,e1];rfl
 .rintro U H' ⟨v,ts,rfl,lt,hw,f,pt⟩
  have fin:BR H W.wy (upd H' W.kd (.dK aa)):=λb' u e bw=>by
   by_cases z:b'=W.kd
   .subst z;rw[kd]at e;rw[ja,<-e]
   .rw[jd z];exact f _ _ (by rw[jd z];exact e) bw
  have qV:upd H' W.kd (.dK aa) W.wy=some (.lst (way++ts)):=by rw[jd kw.symm];exact hw
  refine(xa1 W.kd oo (.dK aa) ⟨f _ _ ja kw,λo' u' z=>?_,q_,?_⟩)
  .have z':H W.kd=some (.az o' u'):=z;rw[kd]at z';cases z'
  have fr:Fr (fY id .wy) Z H Z (upd H' W.kd (.dK aa)):=Fr.Jm eQ a_ fin;rw[lk,Ò]at pt;refine k _ (O.but fr (Y.post b o) jz a_ a_ (hU fr jz (λ_ _=>jz)) (iX fr jz jz jz) (mM fr jz (λ_=>jz)) (λ_ _=>⟨eQ,_,qV,?_⟩)) fr (kr.Jm fin qV (by exact q_));have up:=uq.fr fr;have q2:g? (de (upd H' W.kd (.dK aa)) Z) ts (Y.ks.map λc=>(b,c.1,o)):=by
   clear qV lt hw;have gen:∀{xs:b? V}{cs:b? (i_×Kp)},g? (λx (c:i_×Kp)=>∃a,x= .ref a/\H a=none/\H' a=some (.tup [sW b,.int c.1,.ref q])) xs cs->g? (de (upd H' W.kd (.dK aa)) Z) xs (cs.map λc=>(b,c.1,o)):=λ{xs cs} h=>by
    induction h with
    |nil=>exact .nil
    |cons a _ ih=>obtain⟨p,e,n,hp⟩:=a;refine .cons (xa0 p q ⟨e,kr.none n,?_,up⟩) ih;rw[jd (λz=>by rw[z,kd]at n;cases n)];exact hp
   exact gen pt
  exact j05 (Paired.gi pw λ_ _=>de.fr fr) q2
noncomputable def sX (id:j?):Role->Prop:=λr=>r=(id,.wy)\/r=(id,.sd)\/r=(id,.sg)
theorem qW {id:j?}{p:Part}(h1:p≠.wy)(h2:p≠.sd)(h3:p≠.sg):¬sX id (id,p):=λz=>by
 rcases z with z|z|z
 .exact h1 (Ô z).2
 .exact h2 (Ô z).2
 .exact h3 (Ô z).2
structure Sz (Y:Wd)(a b c:j?):Prop where
 bd:Y.bd.length<=a
 hs:∀x∈Y.bd,x.2.length<=b
 wy:Y.way.length<=c
 ks:Y.ks.length<=16
theorem Qi {k:b? i_}{h:i_}:∀{is:yz}{a b:j?},is.length<=a->(∀x∈is,x.2.length<=b)->(dG is k h).length<=a+1/\∀x∈dG is k h,x.2.length<=b+1
 |[],a,b,_,_=>⟨by show 1<=a+1;lia,λx hx=>by rw[m?.mp hx];show 1<=b+1;lia⟩
 | p::ps,a,b,h1,h2=>by
  unfold dG;split
  .refine⟨by rw[E?]at h1⊢;lia,λx hx=>?_⟩;rcases B_.mp hx with rfl|hx
   .have:=h2 p t?;show(p.2++[h]).length<=b+1;rw[r_];show p.2.length+1<=b+1;lia
   .have:=h2 x (u_ _ hx);lia
  .rw[E?]at h1;obtain⟨i1,i2⟩:=Qi (k:=k) (h:=h) (is:=ps) (a:=a-1) (b:=b) (by lia) (λx hx=>h2 x (u_ _ hx));refine⟨by rw[E?];lia,λx hx=>?_⟩;rcases B_.mp hx with rfl|hx
   .have:=h2 x t?;lia
   .exact i2 x hx
theorem Sz.put {Y:Wd}{a b c:j?}(z:Sz Y a b c)(h:i_)(o:O):Sz (Y.put h o).1 (a+1) (b+1) c:=by
 unfold Wd.put;split
 .exact⟨Ã z.bd,λx hx=>Ã (z.hs x hx),z.wy,z.ks⟩
 .obtain⟨i1,i2⟩:=Qi (k:=bb o) (h:=h) z.bd z.hs;exact⟨i1,i2,z.wy,z.ks⟩
theorem Sz.bW {Y:Wd}{a b c:j?}(z:Sz Y a b c)(h:i_)(o:O):Sz (Y.bW h o) (a+1) (b+1) (c+16):=by
 have p:=z.put h o;unfold Wd.bW;split
 .refine⟨p.bd,p.hs,?_,p.ks⟩;show((Y.put h o).1.way++_).length<=c+16;rw[r_,i?];have:=p.wy;have:=p.ks;lia
 .exact⟨p.bd,p.hs,by have:=p.wy;lia,p.ks⟩
theorem Sz.mono {Y:Wd}{a b c a' b' c':j?}(z:Sz Y a b c)(h1:a<=a')(h2:b<=b')(h3:c<=c'):Sz Y a' b' c':=⟨K? z.bd h1,λx hx=>K? (z.hs x hx) h2,K? z.wy h3,z.ks⟩
theorem Qj (Y:Wd)(h:i_){os:b? O}{i:j?}{o:O}(e:os[i]?=some o):Y.xr h (os.take (i+1))=(Y.xr h (os.take i)).bW h o:=by unfold Wd.xr;rw[take_snoc e,adZ];rfl
theorem Sz.xr {Y:Wd}{a b c:j?}(z:Sz Y a b c)(h:i_){os:b? O}:∀i,i<=os.length->Sz (Y.xr h (os.take i)) (a+i) (b+i) (c+16*i)
 |0,_=>z
 |i+1,hi=>by rw[Qj Y h (n? (show i<os.length by lia))];exact((Sz.xr z h i (by lia)).bW h _).mono (by lia) (by lia) (by lia)
theorem Qk {k:b? i_}:∀{is:yz},za is k=[]\/∃x∈is,za is k=x.2
 |[]=>.inl a_
 | p::ps=>by
  unfold za;split
  .exact .inr ⟨p,t?,a_⟩
  .rcases Qk (k:=k) (is:=ps)with h|⟨x,hx,e⟩
   .exact .inl h
   .exact .inr ⟨x,u_ _ hx,e⟩
theorem Sz.hl {Y:Wd}{a b c:j?}(z:Sz Y a b c)(k:b? i_):(za Y.bd k).length<=b:=by
 rcases Qk (k:=k) (is:=Y.bd)with h|⟨x,hx,e⟩
 .rw[h];exact W_ _
 .rw[e];exact z.hs x hx
open Classical in
noncomputable def lF (Z : aq) (id:j?) (aa bL:b? (b? Key × V)) : aq:=λa=>if ∃ kv ∈ bL,kv.2 = .ref a then some (id,.sg) else if ∃ kv ∈ aa,kv.2 = .ref a then none else Z a
theorem Jo (T:Txt K mg t):zu P w K mg base CX0 2 t.GV t.GW ["self","house","orders"] (λvs H Q _=>∃Z id W Y h r xs os a b c,vs=[.ref W.x,.int h,.ref r]/\qo t H Z id W Y/\aw Z H/\H r=some (.lst xs)/\(∀ro,Z r=some ro->¬sX id ro)/\g? (xq H Z) xs os/\Sz Y a b c/\a+os.length<=1000/\b+os.length<=1000/\c+16*os.length<=100000/\∀Z' H',qo t H' Z' id W (Y.xr h os)->Fr (sX id) Z H Z' H'->aw Z' H'->Q .ar H'):=by
 refine T.jf7.dO Og λ_ A _ s H vs Q E hr h=>?_;obtain⟨Z,id,W,Y,h,r,xs,os,a,b,c,rfl,O,kr,hx,nr,px,sz,la,lb,lc,k⟩:=h;refine⟨_,(@je _ _ _ (pI Ŗ a_ (@kO _ _ _ _ (pv 2)) (jw (i:=3) Og.nd a_ (w_ a_)) (@je _ _ _ (zo (zt (j7 (j4 (pv 0) a_) T.qj T.Im (jv2 T) hr.dn T.Io .nil jq (@ye _ _ _ _ _ (pv 1) (pv 3) a_ a_))) (@je _ _ _ (j8 (j7 (pv 0) T.jk T.wa (Qh T) hr.dn T.gw .nil jq (@ye _ _ _ _ _ (zk (v:=.str "paper") a_ T.Pf.choose_spec ⟨_,a_⟩) (pv 3) a_ a_)))) qe)))),?_⟩;have lx:xs.length=os.length:=q? px;refine⟨_,a_,r,a_,⟨_,ah.of hx⟩,zP (K:=K) (a:=r) (xs:=xs) (λi U H'=>∃v Z',U=[some (.ref W.x),some (.int h),some (.ref r),v]/\qo t H' Z' id W (Y.xr h (os.take i))/\Fr (sX id) Z H Z' H'/\aw Z' H') (xa0 none Z ⟨a_,O,Fr.refl,kr⟩) (λi U H' _ ⟨_,Z',_,_,f,_⟩=>ah.of (f _ _ hx nr).1) ?_ ?_⟩
 .rintro i x U H1 ex ⟨v,Z1,rfl,O1,f1,bJ⟩
  obtain⟨o,eo,uo⟩:=qa px ex;have uo1:=uo.fr f1;obtain⟨q,rfl,nq,hq⟩:=uo1;have hi:=(xv.mp eo).1;have z1:=sz.xr h (os:=os) i (by omega);rw[Qj Y h eo];generalize Y.xr h (os.take i)=Y1 at O1 z1⊢;obtain⟨rb,rS,aa,Bq,sg⟩:=O1.bd;have ek:qw (bU Y1.bd) (cM o)=za Y1.bd (bb o):=xR (bb o) Y1.bd;have lk:aa.length<=1000:=by rw[q? Bq.hs,bU,i?];have:=z1.bd;omega
  have lh:=z1.hl (bb o);refine⟨_,a_,xa3 W.x _ W.dx _ _ ⟨a_,O1.ob.1,T.jk,T.x9,xP,xa1 W.bd W.db _ ⟨a_,Bq.ob,lC _ _ (by decide+kernel) (by decide+kernel),_,a_,_,a_,xa4 W.bd W.db W.S Y1.en aa (bU Y1.bd) q (cM o) h ⟨a_,Bq,hq,lk,by rw[ek];omega,λhm H2 s2=>?_,λhm bL H2 B2 k2 iY=>?_⟩⟩⟩⟩
  .rw[ek]at hm;refine⟨_,a_,gd (xa0 _ Z1 ⟨a_,?_,f1.trans (Fr.same s2),bJ.same s2⟩)⟩;have e:Y1.bW h o=Y1:=by
    unfold Wd.bW Wd.put;rw[j_ hm];rfl
   rw[e];exact O1.fr (P:=λ_=>v?) (λ_ z=>z) (Fr.same s2)
  .rw [ek]at hm;rw[ek];have lG:∀{a:c_},(∃kv∈aa,kv.2= .ref a)->Z1 a=some (id,.sg):=λ{a} ⟨kv,m,e⟩=>by
    obtain⟨c,ec,rc⟩:=sg kv m;rw[e]at ec;cases ec;exact rc
   have f2:Fr (sX id) Z1 H1 (lF Z1 id aa bL) H2:=λa u e n=>by have n1:¬∃kv∈aa,kv.2= .ref a:=λz=>n _ (lG z) (.inr (.inr a_));have n2:NotIn aa a:=λkv m e=>n1 ⟨kv,m,e⟩;have n3:¬∃kv∈bL,kv.2= .ref a:=λ⟨kv,m,e'⟩=>iY a u e n2 kv m e';refine⟨k2 a u e (λz=>n _ (z ▸ rS) (.inr (.inl a_))) n2,?_⟩;unfold lF;rw[f? n3,f? n1]
   have bV:aw (lF Z1 id aa bL) H2:=λa ro e=>by
    unfold lF at e;split at e
    .rename_i Jq;obtain⟨kv,m,ev⟩:=Jq;obtain⟨j,hj,ej⟩:=Î.mp m;obtain⟨pp,_,_,c,ec,hc⟩:=qa B2.hs (by rw[n? hj,ej]);rw[ev]at ec;cases ec;exact⟨_,hc,q_⟩
    .split at e
     .cases e
     .rename_i n1;obtain⟨u,hu,nu⟩:=bJ a ro e;by_cases z:a=W.S
      .subst z;exact⟨_,B2.sg,q_⟩
      .exact⟨u,k2 a u hu z (λkv m e=>n1 ⟨kv,m,e⟩),nu⟩
   have O2:qo t H2 (lF Z1 id aa bL) id W {Y1 with bd:=dG Y1.bd (bb o) h}:=by
    refine O1.but f2 _ (qW (by intro z;cases z) (by intro z;cases z) (by intro z;cases z)) a_ a_ (hU f2 (qW (by intro z;cases z) (by intro z;cases z) (by intro z;cases z)) λ_ _=>qW (by intro z;cases z) (by intro z;cases z) (by intro z;cases z)) (λBO BP _=>?_) (mM f2 (qW (by intro z;cases z) (by intro z;cases z) (by intro z;cases z)) λ_=>qW (by intro z;cases z) (by intro z;cases z) (by intro z;cases z)) (λcI qV=>?_)
    .have e:=Qf (bb o) h Y1.bd;rw[show cG (bb o)=cM o from a_]at e;rw[e]at B2;have nS:∀{a:c_}{r:Role}{u:HO},Z1 a=some r->H1 a=some u->r≠(id,.sg)->lF Z1 id aa bL a=some r:=λ{a r u} er eu n=>by
      have n1:¬∃kv∈aa,kv.2= .ref a:=λz=>n (o_ (er.symm.trans (lG z)));have n3:¬∃kv∈bL,kv.2= .ref a:=λ⟨kv,m,e'⟩=>iY a u eu (λkv m e=>n1 ⟨kv,m,e⟩) kv m e';unfold lF;rw[f? n3,f? n1];exact er
     refine⟨nS rb Bq.ob (by intro z;cases z),nS rS Bq.sg (by intro z;cases z),bL,B2,λkv m=>?_⟩;obtain⟨j,hj,ej⟩:=Î.mp m;obtain⟨pp,_,_,c,ec,hc⟩:=qa B2.hs (by rw[n? hj,ej]);refine⟨c,ec,?_⟩;unfold lF;rw[j_ ⟨kv,m,ec⟩]
    .obtain⟨ws,h1,p1⟩:=qV;have n1:¬∃kv∈aa,kv.2= .ref W.wy:=λz=>by
      have:=lG z;rw[cI]at this;cases this
     have n2:NotIn aa W.wy:=λkv m e=>n1 ⟨kv,m,e⟩;have n3:¬∃kv∈bL,kv.2= .ref W.wy:=λ⟨kv,m,e'⟩=>iY _ _ h1 n2 kv m e';refine⟨?_,ws,k2 _ _ h1 (fW cI rS (by intro z;cases z)) n2,Paired.gi p1 λ_ _=>de.fr f2⟩;unfold lF;rw[f? n3,f? n1];exact cI
   have ev:Y1.put h o=({Y1 with bd:=dG Y1.bd (bb o) h},p_ (((za Y1.bd (bb o)).length:i_)+1=Y1.en)):=by unfold Wd.put;rw[f? hm]
   refine⟨_,a_,bh (λz=>?_) (λz=>?_)⟩
   .have zp:=z1.put h o;rw[ev]at zp;have gO:xq H2 (lF Z1 id aa bL) (.ref q) o:=xq.fr f2 ⟨q,a_,nq,hq⟩;refine⟨_,a_,xa1 W.x W.dx _ ⟨a_,O2.ob.1,xn,_,a_,xa6 _ id W _ false q o ⟨a_,O2,bV,gO,by show Y1.way.length<=100000;have:=z1.wy;omega,zp.ks,λH3 O3 f3 gN=>(xa0 _ _ ⟨a_,?_,(f1.trans f2).trans (f3.mono λr hr=>.inl hr),gN⟩)⟩⟩⟩;have e:Y1.bW h o=Wd.post {Y1 with bd:=dG Y1.bd (bb o) h} false o:=by
     unfold Wd.bW;rw[ev,j_ z]
    rw[e];exact O3
   .refine(xa0 _ _ ⟨a_,?_,f1.trans f2,bV⟩);have e:Y1.bW h o={Y1 with bd:=dG Y1.bd (bb o) h}:=by
     unfold Wd.bW;rw[ev,f? z]
    rw[e];exact O2
 .rintro U H1 ⟨v,Z1,rfl,O1,f1,bJ⟩
  rw[lx,Ò]at O1;exact k Z1 H1 O1 f1 bJ
theorem BS (ks:b? (i_×Kp))(h:i_)(B:Kp):(cO ks h B).length=ks.length:=i? ..
theorem Ql {t:Ad}{H:Hp}{Z:aq}{id:j?}{h:i_}{B:Kp}:∀{aa:b? (Key×V)}{ks:b? (i_×Kp)},yk t H Z id aa ks->(ks.find? λc=>p_ (c.1=h)).map (·.2)=some B->∃k A dk,br aa (.inl h)=some (.ref k)/\xm t H Z id h k A dk B:=λ{aa ks} q e=>by
 unfold yk at q;induction q with
 |nil=>cases e
 |@cons kv c aa ks a r ih=>
  obtain⟨e1,k,A,dk,e2,R⟩:=a;by_cases z:c.1=h
  .rw[É,j' z]at e;obtain rfl:c.2=B:=o_ e;subst z;exact(xa1 k A dk ⟨by rw[mh (by rw[e1]),e2],R⟩)
  .rw[É,t_ z]at e;obtain⟨k',A',dk',v,R'⟩:=ih e;exact(xa1 k' A' dk' ⟨by rw[mi (λy=>z (Q?.inj (e1.symm.trans y)))];exact v,R'⟩)
theorem j3g {t:Ad}{H H':Hp}{Z Z':aq}{id:j?}{h:i_}{κ':Kp}{k:c_}{A':j?->c_}{dk:c_}(f:Fr (bz id h) Z H Z' H')(R':xm t H' Z' id h k A' dk κ'):∀{aa:b? (Key×V)}{ks:b? (i_×Kp)},(ks.map (·.1)).Nodup->br aa (.inl h)=some (.ref k)->yk t H Z id aa ks->yk t H' Z' id aa (cO ks h κ'):=λ{aa ks} nd ev q=>by
 unfold yk at q;induction q with
 |nil=>exact .nil
 | @cons kv c aa ks a r ih=>
  obtain⟨e1,k0,A,dk0,e2,R⟩:=a;rw[y?,X?]at nd;show g? _ (kv::aa) ((if c.1=h then(h,κ')else c)::cO ks h κ');have oth:∀{aa:b? (Key×V)}{ks:b? (i_×Kp)},h∉ks.map (·.1)->yk t H Z id aa ks->yk t H' Z' id aa (cO ks h κ'):=λ{aa ks} nh q=>by
   induction q with
   |nil=>exact .nil
   |cons a _ ih=>rename_i b _ _ _;rw[y?,B_]at nh;obtain⟨x1,x2,x3,x4,x5,x6⟩:=a;have nb:¬b.1=h:=λz=>nh (.inl z.symm);show g? _ (_::_) ((if b.1=h then(h,κ')else b)::cO _ h κ');rw[f? nb];exact .cons ⟨x1,xa1 x2 x3 x4 ⟨x5,x6.fr (λi ⟨j,e⟩=>nb (by cases e;rfl)) f⟩⟩ (ih λz=>nh (.inr z))
  by_cases z:c.1=h
  .subst z;rw[j_ a_];rw[mh (by rw[e1])]at ev;exact .cons ⟨e1,xa1 k A' dk ⟨o_ ev,R'⟩⟩ (oth nd.1 r)
  .rw[f? z];refine .cons ⟨e1,xa1 k0 A dk0 ⟨e2,R.fr (λi ⟨j,e⟩=>z (by cases e;rfl)) f⟩⟩ (ih nd.2 ?_);rw[mi (λy=>z (Q?.inj (e1.symm.trans y)))]at ev;exact ev
theorem qo.Qm {t:Ad}{H H':Hp}{Z Z':aq}{id:j?}{W:WA}{Y:Wd}{h:i_}{κ':Kp}{k:c_}{A':j?->c_}{dk:c_}(f:Fr (bz id h) Z H Z' H')(O:qo t H Z id W Y)(nd:(Y.ks.map (·.1)).Nodup)(ek:∀aa,H W.kd=some (.dK aa)->br aa (.inl h)=some (.ref k))(R':xm t H' Z' id h k A' dk κ'):qo t H' Z' id W {Y with ks:=cO Y.ks h κ'}:=by have no:∀{p:Part},(∀i,p≠.kp h i)->¬bz id h (id,p):=λhp ⟨i,e⟩=>hp i (Ô e).2;refine O.but f _ (no λ_ z=>by cases z) a_ a_ (λrk hk=>?_) (iX f (no λ_ z=>by cases z) (no λ_ z=>by cases z) (no λ_ z=>by cases z)) (mM f (no λ_ z=>by cases z) λ_=>no λ_ z=>by cases z) (Jl f (no λ_ z=>by cases z));obtain⟨aa,h1,q⟩:=hk;obtain⟨h2,r2⟩:=cq f h1 rk (no λ_ z=>by cases z);exact⟨r2,aa,h2,j3g f R' nd (ek aa h1) q⟩
theorem x8 (T:Txt K mg t):zu P w K mg base CX0 2 t.GL t.GN ["self","house"] (λvs H Q _=>∃Z id W Y h B,vs=[.ref W.x,.int h]/\qo t H Z id W Y/\Y.keep h=some B/\∀k A dk,xm t H Z id h k A dk B->Q (.ref k) H):=by
 refine T.jgd.aZ (N:=["self","house"]) λ_ A _ s H vs Q E hr h=>?_;obtain⟨Z,id,W,Y,h,B,rfl,O,e,g⟩:=h;refine⟨_,(@jb _ _ _ _ _ (zo (PW.pt (eX (xw (zt (jm (IH T) hr.dn a_ T.Ig T.BA.kp T.Ih .nil jq (jc (pv 1) jf)))) (fQ (zI (D6 (mf hr) (pv 1) (j4 (pv 0) a_)))))) zd qe) (@je _ _ _ (j5 (LW (mf hr) (j4 (pv 0) a_) (pv 1) (λ_ _=>a_))))),?_⟩;obtain⟨rk,aa,hk,ks⟩:=O.kd;obtain⟨k,A',dk,ev,R⟩:=Ql ks e;refine⟨_,a_,h,a_,_,a_,gd ?_⟩;refine⟨_,a_,_,a_,xa3 W.x _ W.dx _ _ ⟨a_,O.ob.1,T.jk,T.zw,xO,xa0 W.kd (some (.ref k)) ⟨a_,.inl (xa0 aa (.inl h) ⟨.inl hk,a_,ev.symm⟩),_,a_,gd ?_⟩⟩⟩;exact⟨_,a_,xa3 W.x _ W.dx _ _ ⟨a_,O.ob.1,T.jk,T.zw,xO,_,a_,xa0 W.kd (.ref k) ⟨a_,.inl (xa0 aa (.inl h) ⟨.inl hk,a_,ev.symm⟩),g k A' dk R⟩⟩⟩
theorem juc (T:Txt K mg t):zu P w K mg base CX0 3 t.GO t.GP ["self","house"] (λvs H Q _=>∃Z id W Y h B,vs=[.ref W.x,.int h]/\qo t H Z id W Y/\Y.keep h=some B/\B.held.length<=1000/\∀r,H r=none->Q (.ref r) (upd H r (.lst (B.held.map V.int)))):=by refine T.jpl.aZ (N:=["self","house"]) λ_ A _ s H vs Q E hr h=>?_;obtain⟨Z,id,W,Y,h,B,rfl,O,e,l,g⟩:=h;refine⟨_,(@je _ _ _ (j5 (y4 we a_ T.mD boot_list (jc (j4 (j7 (pv 0) T.jk T.zv (x8 T) hr.dn T.xl .nil jq (jc (pv 1) jf)) a_) jf)))),?_⟩;exact⟨_,a_,xa1 W.x W.dx _ ⟨a_,O.ob.1,xn,_,a_,xa5 Z id W Y h B ⟨a_,O,e,λk A' dk R=>(xa3 k _ dk _ _ ⟨a_,R.ob,T.jo,T.xc,(xb A').1,xa0 (A' 1) _ ⟨a_,.inl (ah.of R.he),g⟩⟩)⟩⟩⟩
theorem jp5 (T:Txt K mg t):zu P w K mg base CX0 3 t.GQ t.GR ["self","house"] (λvs H Q _=>∃Z id W Y h B,vs=[.ref W.x,.int h]/\qo t H Z id W Y/\Y.keep h=some B/\B.done.length<=1000/\∀r xs,H r=none->g? (xq H Z) xs B.done->Q (.ref r) (upd H r (.lst xs))):=by refine T.jix.aZ (N:=["self","house"]) λ_ A _ s H vs Q E hr h=>?_;obtain⟨Z,id,W,Y,h,B,rfl,O,e,l,g⟩:=h;refine⟨_,(@je _ _ _ (j5 (y4 we a_ T.mD boot_list (jc (j4 (j7 (pv 0) T.jk T.zv (x8 T) hr.dn T.xl .nil jq (jc (pv 1) jf)) a_) jf)))),?_⟩;refine⟨_,a_,xa1 W.x W.dx _ ⟨a_,O.ob.1,xn,_,a_,xa5 Z id W Y h B ⟨a_,O,e,λk A' dk R=>?_⟩⟩⟩;obtain⟨xs,hx,px⟩:=R.dn;exact(xa3 k _ dk _ _ ⟨a_,R.ob,T.jo,T.ID,(xb A').2.2.1,xa0 (A' 3) xs ⟨a_,.inl (ah.of hx),λr nr=>g r xs nr px⟩⟩)
theorem Qn (T:Txt K mg t):zu P w K mg base CX0 3 t.uu t.ue ["self","purse"] (λvs H Q _=>∃Z id W Y p,vs=[.ref W.x,.int p]/\qo t H Z id W Y/\0<=p/\p<(Y.n:i_)/\Q .ar H):=by refine T.jd4.aZ (N:=["self","purse"]) λ_ A _ s H vs Q E hr h=>?_;obtain⟨Z,id,W,Y,p,rfl,O,p0,p1,g⟩:=h;refine⟨_,(@je _ _ _ (zo (xw (zt (jm (qy T) hr.dn a_ T.zb T.qr.kp T.zf .nil jq (@cA _ _ _ _ _ _ _ (pv 1) jn (xa i9 (j4 (pv 0) a_) jn) a_ a_ a_)))) zd qe)),?_⟩;refine⟨_,a_,_,a_,xa3 W.x _ W.dx _ _ ⟨a_,O.ob.1,T.jk,T.yj,BN,xa0 _ _ ⟨a_,a_,xa1 p 0 ((Y.n:i_)-1) ⟨a_,_,a_,?_⟩⟩⟩⟩;rw[j' (show 0<=p/\p<=(Y.n:i_)-1 from⟨p0,by omega⟩)];exact gd g
theorem jke (T:Txt K mg t):zu P w K mg base (dD P w) 4 t.um t.uy ["self","purse","goal"] (λvs H Q E=>∃Z id W Y p q,vs=[.ref W.x,.int p,.int q]/\qo t H Z id W Y/\(0<=p/\p<(Y.n:i_))/\(0<=q/\q<(Y.n:i_))/\q≠p/\(p∈Y.fF->∀d H',xf H H'->E (.ref t.xo) (some d) H')/\(p∉Y.fF->Q .ar H)):=by
 refine T.jdo.Xx (N:=["self","purse","goal"]) λ_ A _ s H vs Q E hr h=>?_;obtain⟨Z,id,W,Y,p,q,rfl,O,hp,hq,nq,gx,g⟩:=h;refine⟨_,(@jb _ _ _ _ _ (j8 (j7 (pv 0) T.jk T.gj (Qn T) hr.dn T.ph .nil jq (jc (pv 1) jf))) (@jb _ _ _ _ _ (j8 (j7 (pv 0) T.jk T.gj (Qn T) hr.dn T.ph .nil jq (jc (pv 2) jf))) (@je _ _ _ (zo (PW.pt (eX (ju LH (pv 1) (j4 (pv 0) a_) (by with_unfolding_all rfl)) (fQ (ju eI (pv 2) (pv 1) (qc _))))) (@je _ _ _ (XI a_ T.Pm T.Oy (jl3 T) hr.dn T.ZT (jc (pv 1) jf))) qe)))),?_⟩;refine⟨_,a_,xa1 W.x W.dx _ ⟨a_,O.ob.1,xn,_,a_,xa3 Z id W Y p ⟨a_,O,hp.1,hp.2,?_⟩⟩⟩;refine⟨_,a_,xa1 W.x W.dx _ ⟨a_,O.ob.1,xn,_,a_,xa3 Z id W Y q ⟨a_,O,hq.1,hq.2,?_⟩⟩⟩;refine⟨_,a_,_,a_,xa3 W.x _ W.dx _ _ ⟨a_,O.ob.1,T.jk,T.yi,Jh,xa0 W.ch _ ⟨a_,.inl (ah.of O.ch.1),a_,oB _,_,a_,?_⟩⟩⟩;refine bh (λz=>?_) (λz=>?_)
 .rw[f? (by decide),w6]at z;refine cb ⟨_,a_,iU,λea ot=>(xa0 ea _ ⟨a_,ja,λd hd=>?_⟩)⟩;obtain⟨g1,g2,g3,g4⟩:=qcn (Yq:=qF ea t.xo d) (Zq:=.xd [("purse",.int p)]) ot hd;exact⟨a_,d,g2,gx (w? z) d _ g3⟩
 .rw[f? (by decide),w6]at z;refine⟨_,a_,_,a_,a_,_,a_,bh (λy=>?_) (λ_=>g λy=>z (j' y))⟩;exact v_ (V.int.inj (w? y)) nq
theorem Qo (T:Txt K mg t):zu P w K mg base CX0 5 t.ug t.uk ["self","order"] (λvs H Q _=>∃Z id W Y q o,vs=[.ref W.x,.ref q]/\qo t H Z id W Y/\H q=some (.tup (cL o))/\vp Y.n o=true/\Q .ar H):=by refine T.jdr.aZ (N:=["self","order"]) λ_ A _ s H vs Q E hr h=>?_;obtain⟨Z,id,W,Y,q,o,rfl,O,hq,ho,g⟩:=h;refine⟨_,(@je _ _ _ (zo (xw (zt (pN (II T) hr.dn a_ T.Ii T.BB.kp T.Oj jq (jc (pv 1) jf) (iw (j4 (pv 0) a_) nJ)))) zd qe)),?_⟩;refine⟨_,a_,_,a_,xa3 W.x _ W.dx _ _ ⟨a_,O.ob.1,T.jk,T.yj,BN,xa1 q o (Y.n:i_) ⟨a_,hq,_,a_,?_⟩⟩⟩;rw[ho];exact gd g
theorem Qp (T:Txt K mg t):zu P w K mg base CX0 3 t.GJ t.GK ["self"] (λvs H Q _=>∃Z id W Y,vs=[.ref W.x]/\qo t H Z id W Y/\Y.bd.length<64/\(Y.bd.map (·.1)).Nodup/\(∀x∈Y.bd,x.1≠[])/\∀(r:c_)(aV:b? V)(bE:b? (b? i_))(H':Hp),H r=none->xf H H'->bE.Perm (yw Y.bd Y.en)->bE.Pairwise (λa b=>HT.lexLt a b=true)->g? (jZ H') aV bE->H' r=some (.lst aV)->Q (.ref r) H'):=by
 refine T.jkw.aZ (N:=["self"]) λ_ A _ s H vs Q E hr h=>?_;obtain⟨Z,id,W,Y,rfl,O,l,nd,ne,g⟩:=h;refine⟨_,(@je _ _ _ (j5 (vg (j4 (pv 0) a_) T.qj T.OE (jpy T) hr.dn T.OF .nil jq))),?_⟩;obtain⟨rb,rS,aa,Bq,sg⟩:=O.bd;have lk:aa.length<64:=by rw[q? Bq.hs,bU,i?];exact l
 exact⟨_,a_,xa3 W.x _ W.dx _ _ ⟨a_,O.ob.1,T.jk,T.x9,xP,xa1 W.bd W.db _ ⟨a_,Bq.ob,lC _ _ (by decide+kernel) (by decide+kernel),xa5 W.bd W.db W.S Y.en aa Y.bd ⟨a_,Bq,lk,nd,ne,g⟩⟩⟩⟩
theorem jsy (T:Txt K mg t):zu P w K mg base CX0 6 t.GZ t.G0 ["self","order","house"] (λvs H Q _=>∃Z id W Y q o h B,vs=[.ref W.x,.ref q,.int h]/\qo t H Z id W Y/\aw Z H/\xq H Z (.ref q) o/\vp Y.n o=true/\o.p∈Y.fF/\Y.keep h=some B/\Y.way.length<=100000/\∀H',qo t H' Z id W {Y with way:=Y.way++[(true,h,o)]}->Fr (fY id .wy) Z H Z H'->aw Z H'->Q .ar H'):=by
 refine T.jml.aZ (N:=["self","order","house"]) λ_ A _ s H vs Q E hr h=>?_;obtain⟨Z,id,W,Y,q,o,h,B,rfl,O,kr,uq,ho,oc,ek,l,g⟩:=h;refine⟨_,(@jb _ _ _ _ _ (j8 (j7 (pv 0) T.jk T.gp (Qo T) hr.dn T.ui .nil jq (jc (pv 1) jf))) (@jb _ _ _ _ _ (zo (ju Ae (cx kR (pv 1) jn (λ_ _=>a_)) (j4 (pv 0) a_) (by with_unfolding_all rfl)) zd qe) (@jb _ _ _ _ _ (j8 (j7 (pv 0) T.jk T.zv (x8 T) hr.dn T.xl .nil jq (jc (pv 2) jf))) (@je _ _ _ (j8 (fT A? D_ E_ y3 (j4 (pv 0) a_) (jc (@gR _ _ _ _ _ (@cA _ _ _ _ _ _ _ (zk (v:=.str "order") a_ T.IC.choose_spec ⟨_,a_⟩) (pv 2) (pv 1) a_ a_ a_)) jf))))))),?_⟩;have xT:=uq;obtain⟨_,eq,nq,hq⟩:=xT;cases eq;refine⟨_,a_,xa1 W.x W.dx _ ⟨a_,O.ob.1,xn,_,a_,xa5 Z id W Y q o ⟨a_,O,hq,ho,?_⟩⟩⟩;refine⟨_,a_,xa2 q (cL o) 0 (.int o.p) ⟨a_,a_,ax.of hq,a_,_,a_,xa3 W.x _ W.dx _ _ ⟨a_,O.ob.1,T.jk,T.yi,Jh,xa0 W.ch _ ⟨a_,.inl (ah.of O.ch.1),a_,oB _,_,a_,?_⟩⟩⟩⟩;rw[j_ a_,w6,j' oc];refine gd ?_;refine⟨_,a_,xa1 W.x W.dx _ ⟨a_,O.ob.1,xn,_,a_,xa5 Z id W Y h B ⟨a_,O,ek,λk A' dk R=>?_⟩⟩⟩;obtain⟨eQ,xs,hw,pw⟩:=O.wy;refine⟨_,a_,xa3 W.x _ W.dx _ _ ⟨a_,O.ob.1,T.jk,T.zr,sV,.inl ⟨a_,_,ah.of hw⟩,_,a_,_,a_,oz,λp np=>?_⟩⟩;have sp:=jg (o:=.tup [.str "order",.int h,.ref q]) np;have lx:xs.length<=1000000:=by rw[q? pw];omega
 refine(xa1 W.wy xs (.ref p) ⟨a_,a_,sp _ _ hw,big lx,?_⟩);have O1:=O.fr (P:=λ_=>v?) (λ_ z=>z) (Fr.same sp);have bJ:=kr.same sp;have f2:Fr (fY id .wy) Z (upd H p (.tup [.str "order",.int h,.ref q])) Z (upd (upd H p (.tup [.str "order",.int h,.ref q])) W.wy (.lst (xs++[.ref p]))):=Fr.put eQ a_;have f0:Fr (fY id .wy) Z H Z (upd H p (.tup [.str "order",.int h,.ref q])):=Fr.same sp;refine g _ (O1.but f2 _ jz a_ a_ (hU f2 jz (λ_ _=>jz)) (iX f2 jz jz jz) (mM f2 jz (λ_=>jz)) (λ_ _=>⟨eQ,_,ja,?_⟩)) (f0.trans f2) bJ.put;have mJ:=kr.none np;refine qi (Paired.gi pw λ_ _=>de.fr (f0.trans f2)) (xa0 p q ⟨a_,mJ,?_,uq.fr (f0.trans f2)⟩);rw[jd (BL mJ eQ),ja];rfl
theorem jwt {α β:Type}{F:α->β->Prop}{xs:b? α}{ys:b? β}{j:j?}(h:g? F xs ys):g? F (xs.eraseIdx j) (ys.eraseIdx j):=Jf h
structure Qq (B:Kp)(m:j?):Prop where
 hd:B.eO.length<=m
 uc:B.bf.length+B.cho.length<=m
 dw:B.done.length+B.wait.length<=m
theorem jt2 (T:Txt K mg t):zu P w K mg base CX0 8 t.Hc t.Hd ["self","at"] (λvs H Q _=>∃Z id W Y i l B a b c,vs=[.ref W.x,.int (i:j?)]/\qo t H Z id W Y/\aw Z H/\Y.way[i]?=some l/\Y.keep l.2.1=some B/\(Y.ks.map (·.1)).Nodup/\B.Ok Y.n/\Y.n<=8/\vp Y.n l.2.2=true/\Qq B 900/\Sz Y a b c/\a+(B.take l.1 l.2.2).2.length<=1000/\b+(B.take l.1 l.2.2).2.length<=1000/\c+16*(B.take l.1 l.2.2).2.length<=100000/\∀Z' H' x,qo t H' Z' id W (Y.xQ i l B)->Fr (λr=>r.1=id) Z H Z' H'->aw Z' H'->de H' Z' x l->Q x H'):=by
 refine T.jpj.dO wu λ_ A _ s H vs Q E hr h=>?_;obtain⟨Z,id,W,Y,i,l,B,a,b,c,rfl,O,kr,el,ek,nd,ag,n8,ho,sY,sz,la,lb,lc,g⟩:=h;refine⟨_,(@jb _ _ _ _ _ (zo (xw (zt (jm (qy T) hr.dn a_ T.zb T.qr.kp T.zf .nil jq (@cA _ _ _ _ _ _ _ (pv 1) jn (xa i9 (jl jt a_ T.cB boot_len (jc (j4 (pv 0) a_) jf)) jn) a_ a_ a_)))) zd qe) (@jb _ _ _ _ _ (j9 (i:=2) wu.nd a_ (w_ a_) (fT A? acO PySem.F.type_list_pop Uz (j4 (pv 0) a_) (jc (pv 1) jf))) (@jb _ _ _ _ _ (lU (pv 2) (pE a_ (qf (jw (i:=3) wu.nd a_ (w_ a_)) (qf (jw (i:=4) wu.nd a_ (w_ a_)) (qf (jw (i:=5) wu.nd a_ (w_ a_)) pD))))) (@jb _ _ _ _ _ (j9 (i:=6) wu.nd a_ (w_ a_) (LW (mf hr) (j4 (pv 0) a_) (pv 4) (λ_ _=>a_))) (@jb _ _ _ _ _ (zo (ju eI (pv 3) (zk (v:=.str "order") a_ T.IC.choose_spec ⟨_,a_⟩) (qc _)) (@je _ _ _ (j8 (j7 (pv 0) T.jk T.vl (Jo T) hr.dn T.wz .nil jq (@ye _ _ _ _ _ (pv 4) (j7 (pv 6) T.jo T.jk1 (jsj T) hr.dn T.jmn .nil jq (jc (pv 5) jf)) a_ a_)))) (@je _ _ _ (j8 (j7 (pv 0) T.jk T.vl (Jo T) hr.dn T.wz .nil jq (@ye _ _ _ _ _ (pv 4) (j7 (pv 6) T.jo T.jcs (jkd T) hr.dn T.jdv .nil jq (jc (pv 5) jf)) a_ a_))))) (@je _ _ _ (j5 (pv 2)))))))),?_⟩;obtain⟨eQ,xs,hw,pw⟩:=O.wy;have lx:xs.length=Y.way.length:=q? pw;have hi:=(xv.mp el).1;have wl:=sz.wy;refine⟨_,a_,_,a_,xa3 W.x _ W.dx _ _ ⟨a_,O.ob.1,T.jk,T.zr,sV,xa0 W.wy xs ⟨a_,.inl (ah.of hw),xa0 _ _ ⟨a_,a_,xa1 (i:i_) 0 ((xs.length:i_)-1) ⟨a_,_,a_,?_⟩⟩⟩⟩⟩;rw[j' (show 0<=(i:i_)/\(i:i_)<=(xs.length:i_)-1 by omega)];refine gd ?_;obtain⟨x,ex,ux⟩:=AQ pw el;refine⟨_,a_,xa3 W.x _ W.dx _ _ ⟨a_,O.ob.1,T.jk,T.zr,sV,.inl ⟨a_,_,ah.of hw⟩,_,a_,xa3 W.wy xs (i:i_) i x ⟨a_,a_,hw,by omega,by omega,?_,ex,?_⟩⟩⟩
 .unfold acD;simp;omega
 have f1:Fr (fY id .wy) Z H Z (upd H W.wy (.lst (xs.eraseIdx i))):=Fr.put eQ a_;have O1:qo t (upd H W.wy (.lst (xs.eraseIdx i))) Z id W {Y with way:=Y.way.eraseIdx i}:=O.but f1 _ jz a_ a_ (hU f1 jz (λ_ _=>jz)) (iX f1 jz jz jz) (mM f1 jz (λ_=>jz)) (λ_ _=>⟨eQ,_,ja,jwt (Paired.gi pw λ_ _=>de.fr f1)⟩);have bJ:=kr.put (a:=W.wy) (o:=.lst (xs.eraseIdx i));have Qr:=ux.fr f1;generalize upd H W.wy (.lst (xs.eraseIdx i))=H1 at f1 O1 bJ Qr;obtain⟨la',q,rfl,nl,hl,uq⟩:=Qr;refine⟨_,a_,xa0 la' _ ⟨a_,ax.of hl,a_,xa0 _ _ ⟨a_,xa0 _ _ ⟨a_,xa0 _ _ ⟨a_,a_,?_⟩⟩⟩⟩⟩;obtain⟨rk,aa,hk,ks⟩:=O1.kd;obtain⟨k,A',dk,ev,R⟩:=Ql ks ek;refine⟨_,a_,xa3 W.x _ W.dx _ _ ⟨a_,O1.ob.1,T.jk,T.zw,xO,_,a_,xa0 W.kd (.ref k) ⟨a_,.inl (xa0 aa (.inl l.2.1) ⟨.inl hk,a_,ev.symm⟩),?_⟩⟩⟩;obtain⟨wb,h,o⟩:=l;cases wb with
 |true=>
  refine⟨_,a_,a_,_,a_,cb ?_⟩;refine⟨_,a_,xa1 W.x W.dx _ ⟨a_,O1.ob.1,xn,_,a_,_,a_,xa1 k dk _ ⟨a_,R.ob,fX A',_,a_,xb1 Z id h k A' dk B Y.n q o ⟨a_,R,uq,ag,n8,ho,sY.hd,sY.uc,sY.dw,bJ,λ Z2 H2 A2 r ys R2 f2 bV rr mO pr=>?_⟩⟩⟩⟩;have O2:=O1.Qm f2 nd (λbL qU=>by rw[hk]at qU;cases qU;exact ev) R2;have z2:Sz {{Y with way:=Y.way.eraseIdx i}with ks:=cO Y.ks h (Kp.qS B o).1} a b c:=⟨sz.bd,sz.hs,K? (č _ _) sz.wy,by show(cO _ _ _).length<=16;rw[BS];exact sz.ks⟩;refine(xb2 Z2 id W _ h r ys ((Kp.qS B o).2) a b c ⟨a_,O2,bV,mO,λro e=>?_,pr,z2,la,lb,lc,λ Z3 H3 O3 f3 gN=>?_⟩)
  .rw[rr]at e;cases e;exact qW (by intro z;cases z) (by intro z;cases z) (by intro z;cases z)
  .have fr:Fr (λr=>r.1=id) Z H Z3 H3:=((f1.mono λr hr=>by rw[hr]).trans (f2.mono λr ⟨j,hr⟩=>by rw[hr])).trans (f3.mono λr hr=>by rcases hr with hr|hr|hr<;>rw[hr]);exact⟨_,a_,g Z3 H3 _ O3 fr gN (de.fr fr ux)⟩
 |false=>
  refine⟨_,a_,a_,_,a_,gd ?_⟩;refine⟨_,a_,xa1 W.x W.dx _ ⟨a_,O1.ob.1,xn,_,a_,_,a_,xa1 k dk _ ⟨a_,R.ob,fX A',_,a_,xb1 Z id h k A' dk B Y.n q o ⟨a_,R,uq,ag,n8,ho,sY.hd,sY.uc,sY.dw,bJ,λ Z2 H2 A2 r ys R2 f2 bV rr mO pr=>?_⟩⟩⟩⟩;have O2:=O1.Qm f2 nd (λbL qU=>by rw[hk]at qU;cases qU;exact ev) R2;have z2:Sz {{Y with way:=Y.way.eraseIdx i}with ks:=cO Y.ks h (Kp.mI B o).1} a b c:=⟨sz.bd,sz.hs,K? (č _ _) sz.wy,by show(cO _ _ _).length<=16;rw[BS];exact sz.ks⟩;refine(xb2 Z2 id W _ h r ys ((Kp.mI B o).2) a b c ⟨a_,O2,bV,mO,λro e=>?_,pr,z2,la,lb,lc,λ Z3 H3 O3 f3 gN=>?_⟩)
  .rw[rr]at e;cases e;exact qW (by intro z;cases z) (by intro z;cases z) (by intro z;cases z)
  .have fr:Fr (λr=>r.1=id) Z H Z3 H3:=((f1.mono λr hr=>by rw[hr]).trans (f2.mono λr ⟨j,hr⟩=>by rw[hr])).trans (f3.mono λr hr=>by rcases hr with hr|hr|hr<;>rw[hr]);exact⟨_,a_,g Z3 H3 _ O3 fr gN (de.fr fr ux)⟩
noncomputable def Kp.sZ (B:Kp)(p:i_)(os:b? O):i_:=gI B.held p-((os.filter λo=>!B.past o).map λo=>o.m).sum
theorem jof (T:Txt K mg t):zu P w K mg base CX0 2 t.Gx t.Gy ["self","purse","orders"] (λvs H Q _=>∃Z id h k A dk B n p r xs os,vs=[.ref k,.int p,.ref r]/\xm t H Z id h k A dk B/\B.Ok n/\0<=p/\p<(n:i_)/\H r=some (.lst xs)/\g? (xq H Z) xs os/\(∀o∈os,vp (n:j?) o=true)/\os.length<=1000/\∀H',xf H H'->Q (.int (B.sZ p os)) H'):=by
 refine T.jh9.aZ (N:=["self","purse","orders"]) λ_ A _ s H vs Q E hr h=>?_;obtain⟨Z,id,h,k,A',dk,B,n,p,r,xs,os,rfl,R,ag,p0,p1,hx,px,ho,ll,g⟩:=h;refine⟨_,(@je _ _ _ (j5 (xa i9 (cx gT (j4 (pv 0) a_) (pv 1) (λ_ _=>a_)) (jl (An a_) a_ T.sN boot_sum (jc (jI (N':=["order","self"]) (ix:=[none,some 0]) (yg (by kernel_rfl)) a_ (@kO _ _ _ _ (pv 2)) (λ_ _ _ _=>(jw (i:=0) Zn a_ (w_ a_) (.inr a_))) (λ_ _ _ _=>(nW (xw (zt (j7 (pv 1) T.jo T.w4 (Ja T) hr.dn T.Ip .nil jq (jc (pv 0) jf)))))) (λ_ _ _ _=>(cx (EI (K:=K) a_) (pv 0) jn (λ_ _=>a_)))) jf))))),?_⟩;have e:=BJ (xs:=B.held) p0 (by rw[ag.h];exact p1);refine⟨_,a_,xa3 k _ dk _ _ ⟨a_,R.ob,T.jo,T.xc,(xb A').1,_,a_,xa2 (A' 1) _ p (.int (gI B.held p)) ⟨a_,a_,ah.of R.he,mE p0 (by rw[J',e];rfl),?_⟩⟩⟩;refine⟨_,a_,r,a_,⟨_,ah.of hx⟩,so (K:=K) (a:=r) (xs:=xs) (λi ys U H'=>∃v,U=[v,some (.ref k)]/\H'=H/\ys=(((os.take i).filter λo=>!B.past o).map λo=>o.m).map V.int) ⟨none,a_,a_,a_⟩ ?_ ?_ ?_⟩
 .rintro i ys U H' hi ⟨v,rfl,rfl,rfl⟩
  refine⟨ah.of hx,hJ ?_⟩;rw[i?,i?];refine K? (Q_ _ _) ?_;rw[ø];omega
 .rintro i x ys U H' ex ⟨v,rfl,rfl,rfl⟩
  obtain⟨o,eo,uo⟩:=qa px ex;obtain⟨q,rfl,hq⟩:=uo.ref;have om:o∈os:=r? eo;refine⟨_,a_,xa1 k dk _ ⟨a_,R.ob,fX A',_,a_,xb1 Z id h k A' dk B n q o ⟨a_,R,hq,ho o om,ag.x,_,a_,?_⟩⟩⟩;rw[take_snoc eo,Ĉ,H_,H_];cases hp:B.past o with
  |true=>refine gd ⟨_,a_,a_,?_⟩;simp[hp]
  |false=>refine cb ⟨_,a_,xa2 q (cL o) 3 (.int o.m) ⟨a_,a_,ax.of hq,a_,_,a_,a_,?_⟩⟩;simp[hp]
 .rintro ys U H' ⟨v,rfl,rfl,rfl⟩ l nl
  rw[q? px,Ò];refine(xa0 l _ ⟨a_,ah.of ja,xa0 _ _ ⟨a_,a_,g _ (jg nl)⟩⟩)
noncomputable def Wd.carried (Y:Wd)(o:O):s?:=p_ (Y.en<=((za Y.bd (bb o)).length:i_))
theorem j9q {ns:b? i_}{M:i_}(h1:M∈ns)(h2:∀a∈ns,a<=M):ns.max?=some M:=b?.max?_eq_some_iff.mpr ⟨h1,h2⟩
noncomputable def Wd.asks (Y:Wd)(o:O)(row:b? O):Wd:=Wd.post {Y with asked:=Y.asked.set o.p.toNat (row++[o])} true o
theorem qbh {a:c_}{o:J_}{aa:b? (Key×V)}{g:TG}{ti:TT}{te:TE}{U0:St}{H0:Hp}{Q:VK}(Pv:j?->b? V->St->Hp->Prop)(h0:Pv 0 [] U0 H0)(hl:∀i ys U H,i<=aa.length->Pv i ys U H->H a=some (.az o (.dK aa))/\ys.length<=k?)(hs:∀i kv ys U H,aa[i]?=some kv->Pv i ys U H->g kv.2 U H λ U2 H2=>ti U2 H2 λc H3=>if c=true then te U2 H3 λy H4=>Pv (i+1) (ys++[y]) U2 H4 else Pv (i+1) ys U2 H3)(hd:∀ys U H,Pv aa.length ys U H->∀p,H p=none->Q (.ref p) (upd H p (.lst ys))):
  xE (Ex a o aa) g ti te U0 H0 Q:=BF aa.length Pv h0 (λi ys U H hi p=>(hl i ys U H hi p).2) (λi ys U H hi p=>⟨⟨hi,(hl i ys U H (Ć hi) p).1⟩,λx H' y=>by obtain⟨e,kv,ek,ex⟩:=y;subst e ex;exact hs i kv ys U _ ek p⟩) λys U H p=>⟨⟨s_ _,(hl _ ys U H (s_ _) p).1⟩,hd ys U H p⟩
theorem j7c {H:Hp}{Z:aq}{xs:b? V}{os:b? O}{o:O}(p:g? (xq H Z) xs os)(e:os.getLast?=some o):∃x,nN xs (-1)=some x/\xq H Z x o:=by rw[b?.getLast?_eq_getElem?]at e;obtain⟨x,ex,u⟩:=AQ p e;have l:=q? p;have lt:=(xv.mp e).1;refine⟨x,?_,u⟩;unfold nN nM;rw[f? (by decide),j_ (by lia)];show xs[(-1+(xs.length:i_)).toNat]?=some x;rw[show(-1+(xs.length:i_)).toNat=os.length-1 by lia];exact ex
structure Wd.Ok (Y:Wd):Prop where
 n8:Y.n<=8
 al:Y.asked.length=Y.n
 ao:∀row∈Y.asked,(∀o∈row,vp Y.n o=true)
 ks:∀c∈Y.ks,c.2.Ok Y.n
 nd:(Y.ks.map (·.1)).Nodup
 k0:0<Y.ks.length
 k1:Y.ks.length<=16
noncomputable def j94 (t:Ad):Sp:=λvs H Q E=>∃Z id W Y p g m row,vs=[.ref W.x,.int p,.int g,.int m]/\qo t H Z id W Y/\aw Z H/\Y.Ok/\(0<=p/\p<(Y.n:i_))/\(0<=g/\g<(Y.n:i_))/\g≠p/\(1<=m/\m<=1000)/\Y.asked[p.toNat]?=some row/\row.length<=90/\Y.way.length<=90000/\(p∈Y.fF->∀d H',xf H H'->E (.ref t.xo) (some d) H')/\(∀o,row.getLast?=some o->Y.carried o=false->∀H',xf H H'->E (.ref t.jW) none H')/\((∀o,row.getLast?=some o->Y.carried o=true)->∀M,(Y.ks.map λc=>c.2.sZ p row).max?=some M->(M<m->∀H',xf H H'->E (.ref t.vy) none H')/\(m<=M->∀H' q,qo t H' Z id W (Y.asks ⟨p,row.length,g,m⟩ row)->Fr (λr=>r.1=id) Z H Z H'->aw Z H'->xq H' Z (.ref q) ⟨p,row.length,g,m⟩->Q (.ref q) H'))
set_option maxHeartbeats 0 in
theorem Qs (T:Txt K mg t) : zu P w K mg base (dD P w) 6 t.GX t.GY ["self","purse","goal","much"] (j94 t):=by
 refine T.jr0.Xw FC λ_ A _ s H vs Q E hr h=>?_
 obtain ⟨Z,id,W,Y,p,g,m,row,rfl,O,kr,ag,hp,hg,ng,hm,fG,Jr,xU,e0,e1,e2⟩:=h
 refine ⟨_,(@jb _ _ _ _ _ (j8 (j7 (pv 0) T.jk T.jc2 (jke T) hr.dn T.jek .nil Xv (@ye _ _ _ _ _ (pv 1) (pv 2) a_ a_)))
  (@jb _ _ _ _ _ (zo (xw (zt (jm (qy T) hr.dn a_ T.zb T.qr.kp T.zf .nil jq (@cA _ _ _ _ _ _ _ (pv 3) jn (zk (v:=.int 1000) a_ T.Pd.choose_spec ⟨_,a_⟩) a_ a_ a_)))) zd qe)
  (@jb _ _ _ _ _ (j9 (i:=4) FC.nd a_ (ţ a_) (cx gT (j4 (pv 0) a_) (pv 1) (λ_ _=>a_)))
  (@jb _ _ _ _ _ (zo (PW.pt (eX (ju tW (jl jt a_ T.cB boot_len (jc (pv 4) jf)) (zk (v:=.int 99) a_ T.Pe.choose_spec ⟨_,a_⟩) (qc _)) (fQ (PW.pt (kJ (Tx (pv 4) (λ_=>a_)) (lS (xw (zt (j7 (j4 (pv 0) a_) T.qj T.yr (PF T) hr.dn T.vh .nil jq (jc (cx gT (pv 4) (Tf Tn jn) (λ_ _=>a_)) jf)))))))))) (@je _ _ _ (Nb a_ T.Po T.jzd (jc gb jf))) qe)
  (@jb _ _ _ _ _ (zo (ju tW (pv 3) (jl (XW a_) a_ T.j9c boot_max (jc (Ew (jI (N':=["keeper","purse","asked"]) (ix:=[none,some 1,some 4]) (yg (by kernel_rfl)) a_ (Wr (Uv ľ abb PySem.F.type_dict_values Wn (j4 (pv 0) a_))) (λ_ _ _ _=>(jw (i:=0) Zo a_ (w_ a_) (.inr a_))) (λ_ _ _ _=>sf) (λ_ _ _ _=>(j7 (pv 0) T.jo T.jgp (jof T) hr.dn T.jib .nil jq (@ye _ _ _ _ _ (pv 1) (pv 2) a_ a_))))) jf)) (qc _)) (@je _ _ _ (Nb a_ T.Pn T.jw7 (jc gb jf))) qe)
  (@jb _ _ _ _ _ (@j9 _ _ 5 _ _ _ _ FC.nd a_ (w_ a_) (@gR _ _ _ _ _ (@Oc _ _ _ _ _ _ _ _ _ (pv 1) (jl jt a_ T.cB boot_len (jc (pv 4) jf)) (pv 2) (pv 3) a_ a_ a_ a_)) (by rfl) (by first | exact .inl a_ | exact .inr rfl))
  (@jb _ _ _ _ _ (j8 (fT A? D_ E_ y3 (pv 4) (jc (pv 5) jf)))
  (@jb _ _ _ _ _ (j8 (j7 (pv 0) T.jk T.wa (Qh T) hr.dn T.gw .nil jq (@ye _ _ _ _ _ (zk (v:=.str "order") a_ T.IC.choose_spec ⟨_,a_⟩) (pv 5) a_ a_)))
  (@je _ _ _ (j5 (pv 5))))))))))),?_⟩
 obtain ⟨ra,rs,ha,fH⟩:=O.ak
 obtain ⟨r,er⟩ : ∃ r,rs[p.toNat]? = some r:=⟨_,n? (by rw [fH.1]; exact (xv.mp fG).1)⟩
 obtain ⟨rr,xs,oG,px⟩:=fH.2 _ _ _ er fG
 obtain ⟨rk,aa,Qt,Qu⟩:=O.kd
 have lk:aa.length = Y.ks.length:=q? Qu
 have lx:xs.length = row.length:=q? px
 refine bF λN hN=>⟨_,a_,xa1 W.x W.dx _ ⟨a_,O.ob.1,xn,_,a_,_,a_,xa5 Z id W Y p g ⟨a_,O,hp,hg,ng,e0,λnc=>?_⟩⟩⟩
 refine hN _ _ (bF λN hN=>⟨_,a_,xa1 m 1 1000 ⟨a_,_,a_,?_⟩⟩)
 rw [j' hm]
 refine gd ?_
 refine hN _ _ (bF λN hN=>⟨_,a_,xa3 W.x _ W.dx _ _ ⟨a_,O.ob.1,T.jk,T.IF,Qe,_,a_,xa2 W.ak _ p (.ref r) ⟨a_,a_,ah.of ha,mE hp.1 (by rw [J',er]; rfl),?_⟩⟩⟩)
 refine hN [some (.ref W.x),some (.int p),some (.int g),some (.int m),some (.ref r),none] _ (bF λN hN=>⟨_,a_,xa0 r xs ⟨a_,.inl (ah.of oG),xa0 _ _ ⟨a_,a_,_,a_,bh (λz=>v_ (w? z) (by show ¬ (99:i_) < (xs.length:i_); omega)) (λ_=>?_)⟩⟩⟩)
 refine' (λkey=>_:(∀ HC,xf H HC -> (∀ o,row.getLast? = some o -> Y.carried o = true) -> (_:Hp -> Prop) HC) -> _) _
 rotate_left
 .cases fJ:row.getLast?
  case some o=>
   obtain ⟨x,ex,ux⟩:=j7c px fJ
   have x0:(!xs.isEmpty) = true:=by
    cases xs with
    | nil=>cases ex
    | cons _ _=>rfl
   refine ⟨_,a_,true,.inl ⟨_,ah.of oG,x0.symm⟩,cb ?_⟩
   obtain ⟨q0,rfl,qT⟩:=ux.ref
   obtain ⟨rb,rS,xS,Bq,sg⟩:=O.bd
   refine ⟨_,a_,xa3 W.x _ W.dx _ _ ⟨a_,O.ob.1,T.jk,T.x9,xP,xa1 W.bd W.db _ ⟨a_,Bq.ob,lC _ _ (by decide +kernel) (by decide +kernel),_,a_,_,a_,xa2 r xs (-1) (.ref q0) ⟨a_,a_,ah.of oG,ex,xa9 W.bd W.db W.S Y.en xS (bU Y.bd) q0 (cM o) ⟨a_,Bq.rd,qT,λHC lH=>⟨_,a_,?_⟩⟩⟩⟩⟩⟩
   have ec:p_ (Y.en <= ((qw (bU Y.bd) (cM o)).length:i_)) = Y.carried o:=by
    unfold Wd.carried
    rw [show qw (bU Y.bd) (cM o) = za Y.bd (bb o) from xR (bb o) Y.bd]
   rw [ec]
   cases hc : Y.carried o with
   | false=>exact cb ⟨iU,e1 o fJ hc _ lH⟩
   | true=>
    refine gd ?_
    have kC : ∀ o',row.getLast? = some o' -> Y.carried o' = true:=λo' e=>by rw [fJ] at e; cases e; exact hc
    exact key HC lH kC
  case none=>
   have e0:row = []:=b?.getLast?_eq_none_iff.mp fJ
   have x0:xs = []:=acy.mp (by rw [lx,e0]; rfl)
   refine ⟨_,a_,false,.inl ⟨_,ah.of oG,by rw [x0]; rfl⟩,gd ?_⟩
   have kC : ∀ o,row.getLast? = some o -> Y.carried o = true:=λo e=>by rw [fJ] at e; cases e
   exact key H (xf.refl _) kC
 .rintro HC lH kC
  have OC:=O.fr (P:=λ_=>v?) (λ_ z=>z) (Fr.same lH)
  have kd:=lH _ _ Qt
  have ksR:yk t HC Z id aa Y.ks:=yk.fr (P:=λ_=>v?) (Fr.same lH) (λ_ _ z=>z) Qu
  have hrC:=lH _ _ oG
  have pxC:g? (xq HC Z) xs row:=Paired.gi px λ_ _=>xq.fr (P:=λ_=>v?) (Fr.same lH)
  refine hN _ _ (bF λN hN=>⟨_,a_,_,a_,xa3 W.x _ W.dx _ _ ⟨a_,OC.ob.1,T.jk,T.zw,xO,.inr (.inr (.inl ⟨a_,.inl ⟨_,kd⟩⟩)),xa0 W.kd aa ⟨a_,a_,kd,λvw hvw=>?_⟩⟩⟩)
  have sv:=jg (o:=lj vw W.kd) hvw
  have BU:=sv _ _ kd
  have Qv:yk t (upd HC vw (lj vw W.kd)) Z id aa Y.ks:=yk.fr (P:=λ_=>v?) (Fr.same sv) (λ_ _ z=>z) ksR
  have lE:=sv _ _ hrC
  have Qw:g? (xq (upd HC vw (lj vw W.kd)) Z) xs row:=Paired.gi pxC λ_ _=>xq.fr (P:=λ_=>v?) (Fr.same sv)
  have gv:upd HC vw (lj vw W.kd) vw = some (lj vw W.kd):=ja
  generalize upd HC vw (lj vw W.kd) = H1 at sv BU Qv gv lE Qw
  refine (xa1 vw W.kd aa ⟨a_,gv,BU,λoo=>qbh (λi' ys U H'=>∃ v0,U = [v0,some (.int p),some (.ref r)] /\ xf (upd H1 W.kd (.az oo (.dK aa))) H' /\ ys = ((Y.ks.take i').map λc=>c.2.sZ p row).map V.int) ⟨none,a_,xf.refl _,a_⟩ ?_ ?_ ?_⟩)
  .rintro i' ys U H' hi ⟨v0,rfl,sm,rfl⟩
   refine ⟨sm _ _ ja,hJ ?_⟩
   rw [i?,i?,ø]
   have:=ag.k1
   omega
  .rintro i' kv ys U H' ek ⟨v0,rfl,sm,rfl⟩
   obtain ⟨c,ec,e1,kk,A',dk,e2,R⟩:=qa Qv ek
   have cm:c ∈ Y.ks:=r? ec
   rw [e2]
   have fz:Fr (fY id .kd) Z H1 Z H':=(Fr.put rk a_:Fr (fY id .kd) Z H1 Z (upd H1 W.kd (.az oo (.dK aa)))).trans (Fr.same sm)
   have R':=R.fr (λf=>jz) fz
   have mO:=(cq fz lE rr jz).1
   have Jt:g? (xq H' Z) xs row:=Paired.gi Qw λ_ _=>xq.fr fz
   dsimp only [ip,pX]
   rw [j_ a_]
   refine ⟨_,a_,xa1 kk dk _ ⟨a_,R'.ob,fX A',_,a_,_,a_,xb3 Z id c.1 kk A' dk c.2 Y.n p r xs row ⟨a_,R',ag.ks c cm,hp.1,hp.2,mO,Jt,ag.ao row (r? fG),by omega,λsR bZ=>⟨_,a_,sm.trans bZ,?_⟩⟩⟩⟩
   rw [take_snoc ec,H_,H_]
   rfl
  .rintro ys U H' ⟨v0,rfl,sm,rfl⟩ L nL
   rw [lk,Ò]
   have Qx:=sm _ _ (ja (H:=H1) (a:=W.kd) (o:=.az oo (.dK aa)))
   have LD:L ≠ W.kd:=(jh Qx nL).symm
   have SF:xf HC (upd (upd H' L (.lst ((Y.ks.map λc=>c.2.sZ p row).map V.int))) W.kd (.dK aa)):=λc u hc=>by
    have h1:=sv _ _ hc
    by_cases z:c = W.kd
    .subst z
     rw [BU] at h1
     rw [ja,h1]
    .have il:H' c = some u:=sm _ _ (by rw [jd z]; exact h1)
     rw [jd z,jd (jh il nL)]
     exact il
   refine (xa1 W.kd oo (.dK aa) ⟨(by rw [jd LD.symm]; exact Qx),λo' u' z=>?_,q_,xa0 L (Y.ks.map λc=>c.2.sZ p row) ⟨a_,ah.of (by rw [jd LD]; exact ja),(by rw [i?]; exact ag.k0),λM hM hA=>?_⟩⟩)
   .have z':H W.kd = some (.az o' u'):=z
    rw [Qt] at z'
    cases z'
   obtain ⟨eM,qM⟩:=e2 kC M (j9q hM hA)
   refine (xa0 _ _ ⟨a_,a_,_,a_,bh (λz=>?_) (λz=>?_)⟩)
   .exact ⟨iU,eM (w? z) _ (lH.trans SF)⟩
   .have z' : m <= M:=by
     have : ¬ M < m:=λy=>z (j' y)
     omega
    have sG:=lH.trans SF
    generalize upd (upd H' L (.lst ((Y.ks.map λc=>c.2.sZ p row).map V.int))) W.kd (.dK aa) = G at SF sG
    have OG:=O.fr (P:=λ_=>v?) (λ_ z=>z) (Fr.same sG)
    have Qy:=kr.same sG
    have Qz:=sG _ _ oG
    have pxG:g? (xq G Z) xs row:=Paired.gi px λ_ _=>xq.fr (P:=λ_=>v?) (Fr.same sG)
    refine hN _ _ (bF λN hN=>⟨_,a_,_,a_,xa0 r xs ⟨a_,.inl (ah.of Qz),_,a_,_,a_,Oa,λq nq=>?_⟩⟩)
    have eo : [V.int p,.int xs.length,.int g,.int m] = cL ⟨p,row.length,g,m⟩:=by rw [lx]; rfl
    rw [eo]
    have s1:=jg (o:=.tup (cL ⟨p,row.length,g,m⟩)) nq
    have O1:=OG.fr (P:=λ_=>v?) (λ_ z=>z) (Fr.same s1)
    have bJ:=Qy.same s1
    have qX:=s1 _ _ Qz
    have xV:g? (xq (upd G q (.tup (cL ⟨p,row.length,g,m⟩))) Z) xs row:=Paired.gi pxG λ_ _=>xq.fr (P:=λ_=>v?) (Fr.same s1)
    have oF:xq (upd G q (.tup (cL ⟨p,row.length,g,m⟩))) Z (.ref q) ⟨p,row.length,g,m⟩:=⟨q,a_,Qy.none nq,ja⟩
    dsimp only
    generalize upd G q (.tup (cL ⟨p,row.length,g,m⟩)) = G1 at s1 O1 bJ qX xV oF
    refine hN _ _ (bF λN hN=>⟨_,a_,.inl ⟨a_,_,ah.of qX⟩,_,a_,xa1 r xs (.ref q) ⟨a_,a_,qX,zq (by omega),?_⟩⟩)
    have f2:Fr (fY id (.row p.toNat)) Z G1 Z (upd G1 r (.lst (xs ++ [.ref q]))):=Fr.put rr a_
    have O2 : qo t (upd G1 r (.lst (xs ++ [.ref q]))) Z id W { Y with asked:=Y.asked.set p.toNat (row ++ [⟨p,row.length,g,m⟩]) }:=by
     refine O1.but f2 _ jz a_ a_ (hU f2 jz (λ_ _=>jz)) (iX f2 jz jz jz) (λJk Jj=>?_) (Jl f2 jz)
     obtain ⟨QA,h1,h2⟩:=Jj
     have eq':QA = rs:=by
      have h3:=s1 _ _ (sG _ _ ha)
      rw [h1] at h3
      have h4:=HO.lst.inj (o_ h3)
      exact (ř (λa b e=>V.ref.inj e)).mp h4
     subst eq'
     obtain ⟨h5,r5⟩:=cq f2 h1 Jk jz
     refine ⟨r5,QA,h5,?_,λi r' os Ju gW=>?_⟩
     .rw [aaX]
      exact h2.1
     .by_cases z:i = p.toNat
      .subst z
       have:r' = r:=by
        rw [er] at Ju
        exact (o_ Ju).symm
       subst this
       have lt:=(xv.mp fG).1
       rw [Ç lt] at gW
       cases gW
       exact ⟨rr,_,ja,qi (Paired.gi xV λ_ _=>xq.fr f2) (oF.fr f2)⟩
      .rw [ċ (λy=>z y.symm)] at gW
       obtain ⟨q1,q2,q3,q4⟩:=h2.2 i r' os Ju gW
       obtain ⟨q5,q6⟩:=cq f2 q3 q1 (jz (by intro y; cases y; exact z a_))
       exact ⟨q6,q2,q5,Paired.gi q4 λ_ _=>xq.fr f2⟩
    have bV:=bJ.put (a:=r) (o:=.lst (xs ++ [.ref q]))
    have sU:=oF.fr f2
    dsimp only
    generalize upd G1 r (.lst (xs ++ [.ref q])) = G2 at f2 O2 bV sU
    refine hN _ _ (bF λN hN=>⟨_,a_,xa1 W.x W.dx _ ⟨a_,O2.ob.1,xn,_,a_,xa6 Z id W _ true q ⟨p,row.length,g,m⟩ ⟨a_,O2,bV,sU,by show Y.way.length <= 100000; omega,ag.k1,λG3 O3 f3 gN=>hN _ _ ⟨_,a_,?_⟩⟩⟩⟩)
    have fr:Fr (λr=>r.1 = id) Z H Z G3:=((Fr.same (sG.trans s1)).trans (f2.mono λr hr=>by rw [hr])).trans (f3.mono λr hr=>by rw [hr])
    exact qM z' G3 q O3 fr gN (sU.fr f3)
noncomputable def vc (K:e?)(H:Hp)(a:c_)(ks:b? i_):Prop:=H a=some (.lst (ks.map V.int))\/(ks=[]/\ax K H a [])
noncomputable def j3a (K:e?):Sp:=λvs H Q _=>∃a b ks,vs=[.ref a,.int b]/\vc K H a ks/\ks.Pairwise (·<·)/\(∀k∈ks,0<=k/\k<b)/\Q (.bl true) H
theorem ju4 (T:Txt K mg t):zu P w K mg base CX0 3 t.FO t.FP ["things","bound"] (j3a K):=by
 refine T.Ol.dO Bu λ_ A _ s H vs Q E hr h=>?_;obtain⟨a,b,ks,rfl,hc,up,rg,k⟩:=h;refine⟨_,(@jb _ _ _ _ _ (j9 (i:=2) Bu.nd a_ (w_ a_) jn) (@jb _ _ _ _ _ (pI Ŗ a_ (W3 (pv 0)) (jw (i:=3) Bu.nd a_ (w_ a_)) (@jb _ _ _ _ _ (zo (xw (zt (jm (qy T) hr.dn a_ T.zb T.qr.kp T.zf .nil jq (@cA _ _ _ _ _ _ _ (pv 3) (pv 2) (xa i9 (pv 1) jn) a_ a_ a_)))) (@je _ _ _ (j5 gQ)) qe) (@je _ _ _ (j9 (i:=2) Bu.nd a_ (w_ a_) (xa ir (pv 3) jn))))) (@je _ _ _ (j5 gQ)))),?_⟩;rcases hc with ha|⟨rfl,ha⟩
 .refine .inl ⟨_,a_,a,a_,⟨_,ah.of ha⟩,zP (K:=K) (a:=a) (xs:=ks.map V.int) (λi U H'=>∃v l,U=[some (.ref a),some (.int b),some (.int l),v]/\H'=H/\∀z∈ks.drop i,l<=z) (xa0 none 0 ⟨a_,a_,λz hz=>(rg z hz).1⟩) (λi U H' _ ⟨_,_,_,e,_⟩=>ah.of (by rw[e];exact ha)) ?_ ?_⟩
  .rintro i x U H' hx ⟨v,l,rfl,rfl,hl⟩
   obtain⟨z,ez,rfl⟩:∃z,ks[i]?=some z/\x= .int z:=by
    rw[J']at hx;cases e:ks[i]? with
    |none=>rw[e]at hx;cases hx
    |some z=>rw[e]at hx;exact⟨z,a_,(o_ hx).symm⟩
   obtain⟨hi,QB⟩:=xv.mp ez;have r:=rg z (r? ez);have lz:l<=z:=hl z (by rw[aci hi,QB];simp);refine⟨_,a_,_,a_,_,a_,xa0 _ _ ⟨a_,a_,xa1 _ _ _ ⟨a_,?_⟩⟩⟩;rw[j' ⟨lz,(by omega:z<=b-1)⟩];refine⟨_,a_,gd ?_⟩;refine⟨_,a_,xa0 _ _ ⟨a_,a_,xa0 _ _ ⟨a_,a_,λy hy=>?_⟩⟩⟩;obtain⟨j,hj,e⟩:=Î.mp hy;rw[aen]at hj;rw[b?.getElem_drop]at e;have:=ace.mp up i (i+1+j) hi (by omega) (by omega);rw[QB,e]at this;omega
  .rintro U H' ⟨v,l,rfl,rfl,_⟩
   exact k
 .refine .inr ⟨_,a_,a,a_,⟨_,ha⟩,Tb (K:=K) (a:=a) (xs:=[]) (λi U H'=>∃v,U=[some (.ref a),some (.int b),some (.int 0),v]/\H'=H) ⟨none,a_,a_⟩ (λi U H' _ ⟨_,_,e⟩=>by rw[e];exact ha) (λi x U H' hx _=>by simp at hx) ?_⟩
  rintro U H' ⟨v,rfl,rfl⟩
  exact k
theorem QC (T:Txt K mg t):zu P w K mg base CX0 4 t.FQ t.FR ["thing","bound"] (λvs H Q _=>∃a b ks,vs=[.ref a,.int b]/\vc K H a ks/\ks.Pairwise (·<·)/\(∀k∈ks,0<=k/\k<b)/\∀H',xf H H'->Q (.bl true) H'):=by
 refine T.Il.aZ (N:=["thing","bound"]) λ_ A _ s H vs Q E hr h=>?_;obtain⟨a,b,ks,rfl,hc,up,rg,k⟩:=h;refine⟨_,(@je _ _ _ (j5 (lT (jl W0 a_ T.jy boot_isinstance (@ye _ _ _ _ _ (pv 0) (@gR _ _ _ _ _ (@ye _ _ _ _ _ (lR (v:=.ty "list") a_ T.mD boot_list a_) (lR (v:=.ty "tuple") a_ T.oA boot_tuple a_) a_ a_)) a_ a_)) (pA (jm (ju4 T) hr.dn a_ T.ZE T.Ol.kp T.ZF .nil jq (@ye _ _ _ _ _ (pv 0) (pv 1) a_ a_)))))),?_⟩;refine⟨_,a_,oy,λq hq=>?_⟩;have s1:=jg (o:=.tup [.ty "list",.ty "tuple"]) hq;have QD:vc K (upd H q (.tup [.ty "list",.ty "tuple"])) a ks:=by
  rcases hc with h|⟨e,h⟩
  .exact .inl (s1 _ _ h)
  .refine .inr ⟨e,?_⟩;rcases h with h|h
   .exact .inl (sP s1 h)
   .exact .inr h
 refine⟨a,q,a_,ja,?_,?_⟩
 .rcases QD with h|⟨_,h⟩
  .exact .inl ⟨_,ah.of h⟩
  .exact .inr ⟨_,h⟩
 exact⟨_,a_,cb ⟨_,a_,_,a_,a,b,ks,a_,QD,up,rg,k _ s1⟩⟩
theorem vc.same {K:e?}{H H':Hp}{a:c_}{ks:b? i_}(s1:xf H H')(hc:vc K H a ks):vc K H' a ks:=by
 rcases hc with h|⟨e,h⟩
 .exact .inl (s1 _ _ h)
 .refine .inr ⟨e,?_⟩;rcases h with h|h
  .exact .inl (sP s1 h)
  .exact .inr h
theorem vc.sq {K:e?}{H:Hp}{a:c_}{ks:b? i_}(hc:vc K H a ks):ah K H a (ks.map V.int)\/ax K H a (ks.map V.int):=by
 rcases hc with h|⟨e,h⟩
 .exact .inl (ah.of h)
 .subst e;exact .inr h
theorem jox (T:Txt K mg t):zu P w K mg base CX0 3 t.FT t.FU ["thing"] (λvs H Q _=>∃i,vs=[.int i]/\Q (.bl (p_ (1<=i/\i<=16))) H):=by refine T.Oq.aZ (N:=["thing"]) λ_ A _ s H vs Q E hr h=>?_;obtain⟨x,rfl,k⟩:=h;refine⟨_,(@je _ _ _ (j5 (jm (qy T) hr.dn a_ T.zb T.qr.kp T.zf .nil jq (@cA _ _ _ _ _ _ _ (pv 0) jn (zk (v:=.int 16) a_ T.jnq.choose_spec ⟨_,a_⟩) a_ a_ a_)))),?_⟩;exact⟨_,a_,xa1 x 1 16 ⟨a_,k⟩⟩
theorem j1e (T:Txt K mg t):zu P w K mg base CX0 3 t.FV t.FW ["thing"] (λvs H Q _=>∃i,vs=[.int i]/\Q (.bl (p_ (0<=i/\i<=5))) H):=by refine T.Ot.aZ (N:=["thing"]) λ_ A _ s H vs Q E hr h=>?_;obtain⟨x,rfl,k⟩:=h;refine⟨_,(@je _ _ _ (j5 (jm (qy T) hr.dn a_ T.zb T.qr.kp T.zf .nil jq (@cA _ _ _ _ _ _ _ (pv 0) jn (zk (v:=.int 5) a_ T.js8.choose_spec ⟨_,a_⟩) a_ a_ a_)))),?_⟩;exact⟨_,a_,xa1 x 0 5 ⟨a_,k⟩⟩
theorem jvy (T:Txt K mg t):zu P w K mg base CX0 1 t.FX t.FY ["houses","few"] (λvs H Q _=>∃h f:i_,vs=[.int h,.int f]/\Q (.bl (p_ (h>3*f))) H):=by refine T.Ou.aZ (N:=["houses","few"]) λ_ A _ s H vs Q E hr h=>?_;obtain⟨i,j,rfl,q⟩:=h;refine⟨_,(@je _ _ _ (j5 (kP tW (pv 0) (xa zT jn (pv 1)) (qc _)))),?_⟩;exact⟨_,a_,_,a_,xa0 _ _ ⟨a_,a_,.inl (by decide),xa0 _ _ ⟨a_,a_,q⟩⟩⟩
theorem jwr (T:Txt K mg t):zu P w K mg base CX0 1 t.FZ t.F0 ["houses","few"] (λvs H Q _=>∃i j:i_,vs=[.int i,.int j]/\Q (.int (i-j)) H):=by refine T.Ov.aZ (N:=["houses","few"]) λ_ A _ s H vs Q E hr h=>?_;obtain⟨i,j,rfl,q⟩:=h;refine⟨_,(@je _ _ _ (j5 (xa i9 (pv 0) (pv 1)))),?_⟩;exact⟨_,a_,_,a_,xa0 _ _ ⟨a_,a_,q⟩⟩
theorem jxp (T:Txt K mg t):zu P w K mg base CX0 3 t.F1 t.F8 ["thing"] (λvs H Q _=>∃a ns,vs=[.ref a]/\H a=some (.lst ((ns:b? i_).map V.int))/\2<=ns.length/\ns.length<=8/\(∀i∈ns,0<=i/\i<=1000)/\∀H',xf H H'->Q (.bl true) H'):=by
 refine T.Ow.aZ (N:=["thing"]) λ_ A _ s H vs Q E hr h=>?_;obtain⟨a,ns,rfl,e,l2,l8,rg,k⟩:=h;refine⟨_,(@jb _ _ _ _ _ (zo (PW.pt (eX (xw (zt (jl sr a_ T.jy boot_isinstance (@ye _ _ _ _ _ (pv 0) (lR (v:=.ty "list") a_ T.mD boot_list a_) a_ a_)))) (fQ (ju zU (jl jt a_ T.cB boot_len (jc (pv 0) jf)) (zk (v:=.int 2) a_ T.jkr.choose_spec ⟨_,a_⟩) (qc _))))) (@je _ _ _ (j5 gQ)) qe) (@je _ _ _ (j5 (jl (Mp a_) a_ T.Pq boot_all (jc (jI (N':=["each"]) (ix:=[none]) (yg (by kernel_rfl)) a_ (@kO _ _ _ _ (pv 0)) (λ_ _ _ _=>(jw (i:=0) Zp a_ (w_ a_) (.inr a_))) (λ_ _ _ _=>sf) (λ_ _ _ _=>(jm (qy T) hr.dn a_ T.zb T.qr.kp T.zf .nil jq (@cA _ _ _ _ _ _ _ (pv 0) jn (zk (v:=.int 1000) a_ T.jh7.choose_spec ⟨_,a_⟩) a_ a_ a_)))) jf))))),?_⟩;refine⟨_,a_,xa2 _ _ _ true ⟨a_,.lst e,a_,_,a_,gd ?_⟩⟩;refine⟨_,a_,xa0 a _ ⟨a_,.inl (ah.of e),xa0 _ _ ⟨a_,a_,_,a_,bh (λh1=>?_) (λh1=>?_)⟩⟩⟩
 .exfalso;have:=w? h1;rw[i?]at this;omega
 refine⟨_,a_,a,a_,⟨_,ah.of e⟩,so (K:=K) (a:=a) (xs:=ns.map V.int) (λi ys U' H'=>∃v,U'=[v]/\H'=H/\ys=(l' i true).map V.bl) ⟨none,a_,a_,a_⟩ ?_ ?_ ?_⟩
 .rintro i ys U' H' hi ⟨v,rfl,rfl,rfl⟩
  refine⟨ah.of e,hJ ?_⟩;rw[i?]at hi;rw[i?,W?];omega
 .rintro i x ys U' H' hx ⟨v,rfl,rfl,rfl⟩
  obtain⟨z,ez,rfl⟩:∃z,ns[i]?=some z/\x= .int z:=by
   rw[J']at hx;cases e:ns[i]? with
   |none=>rw[e]at hx;cases hx
   |some z=>rw[e]at hx;exact⟨z,a_,(o_ hx).symm⟩
  dsimp only[ip,pX];rw[j_ a_];refine⟨_,a_,xa1 z 0 1000 ⟨a_,?_⟩⟩;rw[j' (rg z (r? ez))];refine⟨_,a_,a_,?_⟩;rw[adp,H_];rfl
 .rintro ys U' H' ⟨v,rfl,rfl,rfl⟩ q hq
  refine(xa0 q (l' (ns.map V.int).length true) ⟨a_,ah.of ja,?_⟩);have g:=k _ (jg (o:=.lst ((l' (ns.map V.int).length true).map V.bl)) hq);rw[show(l' (ns.map V.int).length true).all id=true by simp];exact g
theorem jov (T:Txt K mg t):zu P w K mg base CX0 4 t.F9 t.Ga ["thing"] (λvs H Q _=>∃a ns,vs=[.ref a]/\H a=some (.lst ((ns:b? i_).map V.int))/\2<=ns.length/\ns.length<=8/\(∀i∈ns,0<=i/\i<=1000)/\∀H',xf H H'->Q (.bl true) H'):=by refine T.Ox.aZ (N:=["thing"]) λ_ A _ s H vs Q E hr h=>?_;obtain⟨a,ns,rfl,e,l2,l8,rg,k⟩:=h;refine⟨_,(@je _ _ _ (j5 (lT (jm (jxp T) hr.dn a_ T.ZO T.Ow.kp T.ZP .nil jq (jc (pv 0) jf)) (pA (kP zV (jl jt a_ T.cB boot_len (jc (pv 0) jf)) (zk (v:=.int 8) a_ T.jny.choose_spec ⟨_,a_⟩) (qc _)))))),?_⟩;refine⟨_,a_,xa0 a ns ⟨a_,e,l2,l8,rg,λH1 s1=>⟨_,a_,cb ?_⟩⟩⟩;refine⟨_,a_,xa0 a _ ⟨a_,.inl (ah.of (s1 _ _ e)),xa0 _ _ ⟨a_,a_,?_⟩⟩⟩;have g:=k H1 s1;show Q (.bl (p_ (((ns.map V.int).length:i_)<=8))) H1;rw[show p_ (((ns.map V.int).length:i_)<=8)=true from j' (by rw[i?];omega)];exact g
theorem jrt (T:Txt K mg t):zu P w K mg base CX0 5 t.Ge t.Gf ["houses","few","liars"] (λvs H Q _=>∃h f a ks,vs=[.int h,.int f,.ref a]/\(1<=h/\h<=16)/\(0<=f/\f<=5)/\3*f<h/\vc K H a ks/\ks.Pairwise (·<·)/\(∀k∈ks,0<=k/\k<h)/\(ks.length:i_)<=f/\∀H',xf H H'->Q .ar H'):=by
 refine T.Oz.aZ (N:=["houses","few","liars"]) λ_ A _ s H vs Q E hr h=>?_;obtain⟨h,f,a,ks,rfl,h1,f1,lt,hc,up,rg,l,k⟩:=h;refine⟨_,(@jb _ _ _ _ _ (zo (PW.pt (eX (xw (zt (jm (jox T) hr.dn a_ T.ZG T.Oq.kp T.ZH .nil jq (jc (pv 0) jf)))) (fQ (xw (zt (jm (j1e T) hr.dn a_ T.ZI T.Ot.kp T.ZJ .nil jq (jc (pv 1) jf))))))) zd qe) (@jb _ _ _ _ _ (zo (xw (zt (pN (jvy T) hr.dn a_ T.ZK T.Ou.kp T.ZL jq (jc (pv 0) jf) (iw (pv 1) nJ)))) zd qe) (@je _ _ _ (zo (PW.pt (eX (xw (zt (jm (QC T) hr.dn a_ T.Om T.Il.kp T.Oo .nil jq (@ye _ _ _ _ _ (pv 2) (pv 0) a_ a_)))) (fQ (ju tW (jl jt a_ T.cB boot_len (jc (pv 2) jf)) (pv 1) (qc _))))) zd qe)))),?_⟩;refine⟨_,a_,h,a_,_,a_,?_⟩;rw[j' h1];refine gd ⟨_,a_,f,a_,_,a_,?_⟩;rw[j' f1];refine gd ⟨_,a_,_,a_,xa0 h f ⟨a_,_,a_,?_⟩⟩;rw[j' (by omega)];refine gd ⟨_,a_,_,a_,xa1 a h ks ⟨a_,hc,up,rg,λH1 s1=>⟨_,a_,gd ?_⟩⟩⟩;refine⟨_,a_,xa0 a _ ⟨a_,(hc.same s1).sq,_,a_,xa0 _ _ ⟨a_,a_,_,a_,bh (λz=>?_) (λ_=>k _ s1)⟩⟩⟩;exfalso;have:=w? z;rw[i?]at this;omega
theorem jrb (T:Txt K mg t):zu P w K mg base CX0 5 t.Gg t.Gh ["sums","cheats"] (λvs H Q _=>∃a ns b ks,vs=[.ref a,.ref b]/\H a=some (.lst ((ns:b? i_).map V.int))/\2<=ns.length/\ns.length<=8/\(∀i∈ns,0<=i/\i<=1000)/\vc K H b ks/\ks.Pairwise (·<·)/\(∀k∈ks,0<=k/\k<(ns.length:i_))/\∀H',xf H H'->Q .ar H'):=by
 refine T.OA.aZ (N:=["sums","cheats"]) λ_ A _ s H vs Q E hr h=>?_;obtain⟨a,ns,b,ks,rfl,e,l2,l8,r1,hc,up,rg,k⟩:=h;refine⟨_,(@jb _ _ _ _ _ (zo (xw (zt (jm (jov T) hr.dn a_ T.ZQ T.Ox.kp T.ZR .nil jq (jc (pv 0) jf)))) zd qe) (@je _ _ _ (zo (xw (zt (jm (QC T) hr.dn a_ T.Om T.Il.kp T.Oo .nil jq (@ye _ _ _ _ _ (pv 1) (jl jt a_ T.cB boot_len (jc (pv 0) jf)) a_ a_)))) zd qe))),?_⟩;refine⟨_,a_,xa0 a ns ⟨a_,e,l2,l8,r1,λH1 s1=>⟨_,a_,gd ?_⟩⟩⟩;refine⟨_,a_,_,a_,xa0 a _ ⟨a_,.inl (ah.of (s1 _ _ e)),xa1 b _ ks ⟨a_,hc.same s1,up,λk hk=>?_,λH2 s2=>⟨_,a_,gd (k _ (s1.trans s2))⟩⟩⟩⟩;rw[i?];exact rg k hk
noncomputable def PK (H:Hp)(Z:aq)(id:j?)(h:i_)(L:b? (j?×c_×HO)):Prop:=∀x∈L,1<=x.1/\Z x.2.1=some (id,.kp h x.1)/\H x.2.1=some x.2.2
theorem PK.new {H:Hp}{Z:aq}{id:j?}{h:i_}{L:b? (j?×c_×HO)}{p:c_}{f:j?}{u:HO}(k:PK H Z id h L)(n:H p=none)(hf:1<=f):PK (upd H p u) (aB Z p (id,.kp h f)) id h ((f,p,u)::L):=λx hx=>by
 rcases B_.mp hx with rfl|hx
 .exact⟨hf,qu,ja⟩
 .obtain⟨a,b,c⟩:=k x hx;have:x.2.1≠p:=jh c n;exact⟨a,by rw[qv this];exact b,by rw[jd this];exact c⟩
theorem PK.obj {H:Hp}{Z:aq}{id:j?}{h:i_}{L:b? (j?×c_×HO)}{x:c_}{o:HO}(k:PK H Z id h L)(rx:Z x=some (id,.kp h 0)):PK (upd H x o) Z id h L:=λy hy=>by obtain⟨a,b,c⟩:=k y hy;exact⟨a,b,by rw[jd (fW b rx (λz=>by have e:=(Part.kp.inj (Ô z).2).2;lia))];exact c⟩
theorem PK.same {H H':Hp}{Z:aq}{id:j?}{h:i_}{L:b? (j?×c_×HO)}(s:xf H H')(k:PK H Z id h L):PK H' Z id h L:=λy hy=>let⟨a,b,c⟩:=k y hy;⟨a,b,s _ _ c⟩
theorem PK.at_ {H:Hp}{Z:aq}{id:j?}{h:i_}{L:b? (j?×c_×HO)}(k:PK H Z id h L)(j:j?){f:j?}{a:c_}{u:HO}(e:L[j]?=some (f,a,u)):Z a=some (id,.kp h f)/\H a=some u:=(k _ (r? e)).2
structure Mk (t:Ad)(Z0:aq)(H0:Hp)(id:j?)(h:i_)(x dx:c_)(fs:b? (y_×V))(L:b? (j?×c_×HO))(Z:aq)(H:Hp):Prop where
 ob:H x=some (.ins t.j6 dx fs)
 rx:Z x=some (id,.kp h 0)
 pk:PK H Z id h L
 fr:Fr (bz id h) Z0 H0 Z H
 kr:aw Z H
section
variable {t:Ad}{Z0 Z:aq}{H0 H H':Hp}{id:j?}{h:i_}{x dx:c_}{fs fs':b? (y_×V)}{L:b? (j?×c_×HO)}
theorem Mk.new {p:c_}{u:HO}(f:j?)(m:Mk t Z0 H0 id h x dx fs L Z H)(n:H p=none)(hf:1<=f)(hu:e_ (oE u) aP7):Mk t Z0 H0 id h x dx fs ((f,p,u)::L) (aB Z p (id,.kp h f)) (upd H p u):=by have nx:x≠p:=jh m.ob n;exact⟨by rw[jd nx];exact m.ob,by rw[qv nx];exact m.rx,m.pk.new n hf,m.fr.trans (Fr.bY n),m.kr.bY hu⟩
theorem Mk.xW (m:Mk t Z0 H0 id h x dx fs L Z H)(s:xf H H'):Mk t Z0 H0 id h x dx fs L Z H':=⟨s _ _ m.ob,m.rx,m.pk.same s,m.fr.trans (Fr.same s),m.kr.same s⟩
theorem Mk.obj (m:Mk t Z0 H0 id h x dx fs L Z H):Mk t Z0 H0 id h x dx fs' L Z (upd H x (.ins t.j6 dx fs')):=⟨ja,m.rx,m.pk.obj m.rx,m.fr.trans (Fr.put m.rx ⟨0,a_⟩),m.kr.put⟩
end
theorem jp1 (T:Txt K mg t):zu P w K mg base CX0 1 t.wg t.Gm ["self","sums"] (λvs H Q _=>∃Z id h x dx sa,∃ns:b? i_,vs=[.ref x,.ref sa]/\H x=some (.ins t.j6 dx [])/\Z x=some (id,.kp h 0)/\aw Z H/\H sa=some (.lst (ns.map V.int))/\ns.length<=1000/\∀Z' H' he nn dn,Mk t Z H id h x dx (kA he nn dn) [(3,dn,.lst []),(2,nn,.lst ((l' ns.length 0).map V.int)),(1,he,.lst (ns.map V.int))] Z' H'->Q .ar H'):=by
 refine T.jik.aZ (N:=["self","sums"]) λ_ A _ s H vs Q E hr h=>?_;obtain⟨Z,id,h,x,dx,sa,ns,rfl,hx,rx,kr,hs,ln,k⟩:=h;refine⟨_,(@jb _ _ _ _ _ (dN (pv 0) (y4 we a_ T.mD boot_list (jc (pv 1) jf)) a_) (@jb _ _ _ _ _ (dN (pv 0) (xa UC (@zj _ _ _ _ (jc jn jf)) (jl jt a_ T.cB boot_len (jc (pv 1) jf))) a_) (@je _ _ _ (dN (pv 0) (@zj _ _ _ _ jf) a_)))),?_⟩;have m0:Mk t Z H id h x dx [] [] Z H:=⟨hx,rx,(λ_ z=>by cases z),Fr.refl,kr⟩;have sx:sa≠x:=gA hs hx (by intro z;cases z);refine⟨_,a_,xa0 sa _ ⟨a_,.inl (ah.of hs),λhe nh=>?_⟩⟩;have m1:=m0.new 1 nh (u:=.lst (ns.map V.int)) (by decide);have AN:=jg (o:=.lst (ns.map V.int)) nh _ _ hs;refine⟨_,a_,xa2 x _ dx _ ⟨a_,m1.ob,T.jo,T.xc,(by show 0<1000;decide),?_⟩⟩;have m2:=m1.obj (fs':=wm "held" (.ref he) []);have tX:upd (upd H he (.lst (ns.map V.int))) x (.ins t.j6 dx (wm "held" (.ref he) [])) sa=some (.lst (ns.map V.int)):=by rw[jd sx];exact AN
 dsimp only;generalize upd (upd H he (.lst (ns.map V.int))) x (.ins t.j6 dx (wm "held" (.ref he) []))=G at m2 tX;refine⟨iU,λz1 n1=>⟨_,a_,xa0 sa _ ⟨a_,.inl (ah.of ((jg n1) _ _ tX)),?_⟩⟩⟩;have m3:=m2.xW (jg (o:=.lst [.int 0]) n1);refine(xa1 z1 _ [.int 0] ⟨a_,a_,ja,?_,?_,?_,λnn n2=>?_⟩)
 .omega
 .rw[i?];have:=pK;omega
 .rw[i?];exact hJ (by simp;omega)
 have er:(l' (((ns.map V.int).length:j?):i_).toNat [V.int 0]).flatten=(l' ns.length 0).map V.int:=by
  rw[Ù,i?,b?.map_replicate];generalize ns.length=n;induction n with
  |zero=>rfl
  |succ n ih=>rw[X',ŀ,ih,X'];rfl
 rw[er];have m4:=m3.new 2 n2 (u:=.lst ((l' ns.length 0).map V.int)) (by decide);generalize upd (upd G z1 (.lst [.int 0])) nn (.lst ((l' ns.length 0).map V.int))=G4 at m4;refine⟨_,a_,xa2 x _ dx _ ⟨a_,m4.ob,T.jo,T.qt,(by show 1<1000;decide),?_⟩⟩;have m5:=m4.obj (fs':=wm "next_numbers" (.ref nn) (wm "held" (.ref he) []));dsimp only;generalize upd G4 x (.ins t.j6 dx (wm "next_numbers" (.ref nn) (wm "held" (.ref he) [])))=G5 at m5;refine⟨cz,λdn n3=>⟨_,a_,xa2 x _ dx _ ⟨a_,(m5.new 3 n3 (u:=.lst []) (by decide)).ob,T.jo,T.ID,(by show 2<1000;decide),?_⟩⟩⟩;exact k _ _ he nn dn ((m5.new 3 n3 (u:=.lst []) (by decide)).obj)
noncomputable def kD (ns:b? i_):Kp:=⟨ns,l' ns.length 0,[],[],[],[],[]⟩
theorem jnr (T:Txt K mg t):zu P w K mg base CX0 2 t.w9 t.Gs ["self","sums"] (λvs H Q _=>∃Z id h x dx sa,∃ns:b? i_,vs=[.ref x,.ref sa]/\H x=some (.ins t.j6 dx [])/\Z x=some (id,.kp h 0)/\aw Z H/\H sa=some (.lst (ns.map V.int))/\ns.length<=1000/\∀Z' H' A,xm t H' Z' id h x A dx (kD ns)->Fr (bz id h) Z H Z' H'->aw Z' H'->Q .ar H'):=by
 refine T.jgn.aZ (N:=["self","sums"]) λ_ A _ s H vs Q E hr h=>?_;obtain⟨Z,id,h,x,dx,sa,ns,rfl,hx,rx,kr,hs,ln,k⟩:=h;refine⟨_,(@jb _ _ _ _ _ (j8 (XX a_ T.j51 T.jhw (jp1 T) hr.dn T.jjh .nil jq (@ye _ _ _ _ _ (pv 0) (pv 1) a_ a_))) (@jb _ _ _ _ _ (dN (pv 0) Al a_) (@jb _ _ _ _ _ (dN (pv 0) (@zj _ _ _ _ jf) a_) (@jb _ _ _ _ _ (dN (pv 0) Al a_) (@je _ _ _ (dN (pv 0) (@zj _ _ _ _ jf) a_)))))),?_⟩;refine⟨_,a_,_,a_,xa6 Z id h x dx sa ns ⟨a_,hx,rx,kr,hs,ln,λ Z1 H1 he nn dn m1=>?_⟩⟩;refine λhd n1=>⟨_,a_,xa2 x _ dx _ ⟨a_,(m1.new 4 n1 (u:=.dT []) (by decide)).ob,T.jo,T.IE,(by show 3<1000;decide),?_⟩⟩;have m2:=(m1.new 4 n1 (u:=.dT []) (by decide)).obj (fs':=wm "heard" (.ref hd) (kA he nn dn));dsimp only;generalize upd (upd H1 hd (.dT [])) x (.ins t.j6 dx (wm "heard" (.ref hd) (kA he nn dn)))=G2 at m2;refine⟨cz,λun n2=>⟨_,a_,xa2 x _ dx _ ⟨a_,(m2.new 5 n2 (u:=.lst []) (by decide)).ob,T.jo,T.yl,(by show 4<1000;decide),?_⟩⟩⟩;have m3:=(m2.new 5 n2 (u:=.lst []) (by decide)).obj (fs':=wm "unvoted" (.ref un) (wm "heard" (.ref hd) (kA he nn dn)));dsimp only;generalize upd (upd G2 un (.lst [])) x (.ins t.j6 dx (wm "unvoted" (.ref un) (wm "heard" (.ref hd) (kA he nn dn))))=G3 at m3;refine λcs n3=>⟨_,a_,xa2 x _ dx _ ⟨a_,(m3.new 6 n3 (u:=.dT []) (by decide)).ob,T.jo,T.xi,(by show 5<1000;decide),?_⟩⟩;have m4:=(m3.new 6 n3 (u:=.dT []) (by decide)).obj (fs':=wm "choices" (.ref cs) (wm "unvoted" (.ref un) (wm "heard" (.ref hd) (kA he nn dn))));dsimp only;generalize upd (upd G3 cs (.dT [])) x (.ins t.j6 dx (wm "choices" (.ref cs) (wm "unvoted" (.ref un) (wm "heard" (.ref hd) (kA he nn dn)))))=G4 at m4;refine⟨cz,λwt n4=>⟨_,a_,xa2 x _ dx _ ⟨a_,(m4.new 7 n4 (u:=.lst []) (by decide)).ob,T.jo,T.xh,(by show 6<1000;decide),?_⟩⟩⟩;have m5:=(m4.new 7 n4 (u:=.lst []) (by decide)).obj (fs':=kf he nn dn hd un cs wt);refine k _ _ (λf=>match f with|1=>he|2=>nn|3=>dn|4=>hd|5=>un|6=>cs|_=>wt) ⟨m5.ob,m5.rx,λf h1 h7=>?_⟩ m5.fr m5.kr;have p:=m5.pk
 match f,h1,h7 with
 |1,_,_=>exact⟨(p.at_ 6 a_).1,_,(p.at_ 6 a_).2,a_⟩
 |2,_,_=>exact⟨(p.at_ 5 a_).1,_,(p.at_ 5 a_).2,a_⟩
 |3,_,_=>exact⟨(p.at_ 4 a_).1,_,(p.at_ 4 a_).2,[],a_,.nil⟩
 |4,_,_=>exact⟨(p.at_ 3 a_).1,_,(p.at_ 3 a_).2,[],a_,a_⟩
 |5,_,_=>exact⟨(p.at_ 2 a_).1,_,(p.at_ 2 a_).2,[],a_,.nil⟩
 |6,_,_=>exact⟨(p.at_ 1 a_).1,_,(p.at_ 1 a_).2,[],a_,.nil⟩
 |7,_,_=>exact⟨(p.at_ 0 a_).1,_,(p.at_ 0 a_).2,[],a_,.nil⟩
noncomputable def tf (K:e?)(H:Hp)(Z:aq)(id:j?)(a:c_)(ks:b? i_):Prop:=(H a=some (.lst (ks.map V.int))/\∀r,Z a=some r->¬r.1=id)\/(ks=[]/\∃(o:J_)(its:C? b_)(n:j?),K.lookup a=some o/\o.cls= .type "tuple"/\o.data= .seq its n/\its.size<=k?/\Vals [] its.toList)
theorem tf.at_ {K:e?}{H:Hp}{Z:aq}{id:j?}{a:c_}{ks:b? i_}(h:tf K H Z id a ks):vc K H a ks:=h.imp (λq=>q.1) (λq=>⟨q.1,.inr q.2⟩)
theorem tf.fr {K:e?}{H H':Hp}{Z Z':aq}{id:j?}{a:c_}{ks:b? i_}(f:Fr (λr=>r.1=id) Z H Z' H')(h:tf K H Z id a ks):vc K H' a ks:=by
 rcases h with⟨h,n⟩|⟨e,h⟩
 .exact .inl (f a _ h n).1
 .exact .inr ⟨e,.inr h⟩
theorem yk.pY {t:Ad}{P:Role->Prop}{Z Z':aq}{H H':Hp}{id:j?}(f:Fr P Z H Z' H'):∀{aa:b? (Key×V)}{ks:b? (i_×Kp)},(∀c∈ks,∀j,¬P (id,.kp c.1 j))->yk t H Z id aa ks->yk t H' Z' id aa ks:=λ{aa ks} n q=>by
 unfold yk at q;induction q with
 |nil=>exact .nil
 |@cons kv c aa ks a r ih=>obtain⟨e,k,A,dk,ek,q⟩:=a;exact .cons ⟨e,xa1 k A dk ⟨ek,q.fr (n c t?) f⟩⟩ (ih λc' hc=>n c' (u_ _ hc))
noncomputable def allI (id:j?):Role->Prop:=λr=>r.1=id
structure dH (t:Ad)(Z0:aq)(H0:Hp)(id:j?)(x dx:c_)(fs:b? (y_×V))(Z:aq)(H:Hp):Prop where
 ob:H x=some (.ins t.j3 dx fs)
 rx:Z x=some (id,.x)
 fr:Fr (allI id) Z0 H0 Z H
 kr:aw Z H
section
variable {t:Ad}{Z0 Z Z':aq}{H0 H H':Hp}{id:j?}{x dx:c_}{fs fs':b? (y_×V)}{P:Role->Prop}
theorem dH.step (m:dH t Z0 H0 id x dx fs Z H)(f:Fr P Z H Z' H')(n:¬P (id,.x))(hP:∀r,P r->r.1=id)(kr:aw Z' H'):dH t Z0 H0 id x dx fs Z' H':=by obtain⟨e,r⟩:=cq f m.ob m.rx n;exact⟨e,r,m.fr.trans (f.mono hP),kr⟩
theorem dH.xW (m:dH t Z0 H0 id x dx fs Z H)(s:xf H H'):dH t Z0 H0 id x dx fs Z H':=m.step (P:=λ_=>v?) (Fr.same s) (λz=>z) (λ_ z=>z.elim) (m.kr.same s)
theorem dH.new {p:c_}{u:HO}{r:Role}(m:dH t Z0 H0 id x dx fs Z H)(n:H p=none)(hu:e_ (oE u) aP7):dH t Z0 H0 id x dx fs (aB Z p r) (upd H p u):=m.step (P:=λ_=>v?) (Fr.bY n) (λz=>z) (λ_ z=>z.elim) (m.kr.bY hu)
theorem dH.obj (m:dH t Z0 H0 id x dx fs Z H):dH t Z0 H0 id x dx fs' Z (upd H x (.ins t.j3 dx fs')):=⟨ja,m.rx,m.fr.trans (Fr.put m.rx a_),m.kr.put⟩
theorem dH.fo (m:dH t Z0 H0 id x dx fs Z H):Fr (fY id .x) Z H Z (upd H x (.ins t.j3 dx fs')):=Fr.put m.rx a_
end
noncomputable def bo (ls:b? i_)(n:j?):b? i_:=((U_ n).map λ(i:j?)=>(i:i_)).filter λi=>!p_ (i∈ls)
noncomputable def w0 (h f:i_)(ns cs ls:b? i_):Wd:=⟨ns.length,cs,(bo ls h.toNat).map λi=>(i,kD ns),[],h-f,l' ns.length [],[]⟩
structure tj (H:Hp)(Z:aq)(ch ly:c_)(cs ls:b? i_):Prop where
 c:H ch=some (.lst (cs.map V.int))/\Z ch=none
 l:H ly=some (.lst (ls.map V.int))/\Z ly=none
theorem tj.fr {P:Role->Prop}{Z Z':aq}{H H':Hp}{ch ly:c_}{cs ls:b? i_}(f:Fr P Z H Z' H')(h:tj H Z ch ly cs ls):tj H' Z' ch ly cs ls:=⟨dS f h.c.1 h.c.2,dS f h.l.1 h.l.2⟩
theorem BV (ls:b? i_)(n:j?):bo ls (n+1)=bo ls n++if(n:i_)∈ls then[]else[(n:i_)]:=by
 unfold bo;rw[aeM,H_,Ĉ];congr 1;by_cases z:(n:i_)∈ls
 .rw[j_ z];simp[z]
 .rw[f? z];simp[z]
theorem Jv {ls:b? i_}{n:j?}{i:i_}(h:i∈bo ls n):0<=i/\i<(n:i_)/\i∉ls:=by unfold bo at h;obtain⟨h1,h2⟩:=Č.mp h;obtain⟨j,hj,rfl⟩:=O_.mp h1;have:=ħ.mp hj;exact⟨by lia,by lia,by simpa using h2⟩
theorem Jw (ls:b? i_)(n:j?):(bo ls n).length<=n:=by unfold bo;refine K? (Q_ _ _) ?_;rw[i?,Ź];exact s_ _
noncomputable abbrev q2 (ns:b? i_):b? (y_×V):=wm "total" (.int ns.sum) (wm "purses" (.int (ns.map V.int).length) [])
noncomputable abbrev q3 (ns:b? i_)(ly:c_):b? (y_×V):=wm "lying" (.ref ly) (q2 ns)
noncomputable abbrev q4 (ns:b? i_)(ly ch:c_):b? (y_×V):=wm "cheating" (.ref ch) (q3 ns ly)
noncomputable abbrev q5 (ns:b? i_)(ly ch D:c_):b? (y_×V):=wm "keepers" (.ref D) (q4 ns ly ch)
noncomputable abbrev q6 (ns:b? i_)(ly ch D b:c_):b? (y_×V):=wm "board" (.ref b) (q5 ns ly ch D)
noncomputable abbrev q7 (ns:b? i_)(ly ch D b ak:c_):b? (y_×V):=wm "asked" (.ref ak) (q6 ns ly ch D b)
noncomputable def j32 (K:e?)(t:Ad):Sp:=λvs H Q _=>∃Z id x dx h f sa ns la ca cs ls,vs=[.ref x,.int h,.int f,.ref sa,.ref la,.ref ca]/\H x=some (.ins t.j3 dx [])/\Z x=some (id,.x)/\aw Z H/\(1<=h/\h<=16)/\(0<=f/\f<=5)/\3*f<h/\H sa=some (.lst ((ns:b? i_).map V.int))/\(∀r,Z sa=some r->¬allI id r)/\2<=ns.length/\ns.length<=8/\(∀i∈ns,0<=i/\i<=1000)/\tf K H Z id la ls/\ls.Pairwise (·<·)/\(∀k∈ls,0<=k/\k<h)/\(ls.length:i_)<=f/\tf K H Z id ca cs/\cs.Pairwise (·<·)/\(∀k∈cs,0<=k/\k<(ns.length:i_))/\∀Z' H' W,W.x=x->W.aJ=ns.sum->qo t H' Z' id W (w0 h f ns cs ls)->(H' W.ly=some (.lst (ls.map V.int))/\Z' W.ly=none)->Fr (allI id) Z H Z' H'->aw Z' H'->Q .ar H'
set_option maxHeartbeats 0 in
theorem jom (T:Txt K mg t) : zu P w K mg base CX0 6 t.ku t.GG ["self","houses","few","sums","liars","cheats"] (j32 K t):=by
 refine T.jh6.aZ (N:=["self","houses","few","sums","liars","cheats"]) λ_ A _ s H vs Q E hr h=>?_
 obtain ⟨Z,id,x,dx,h,f,sa,ns,la,ca,cs,ls,rfl,hx,rx,kr,h1,f1,lt,hs,nsa,l2,l8,rg,QE,xX,xY,llf,QG,up,BW,k⟩:=h
 have hla:=QE.at_
 have hca:=QG.at_
 refine ⟨_,(@jb _ _ _ _ _ (j8 (pN (jrt T) hr.dn a_ T.ZU T.Oz.kp T.ZV jq (jc (pv 1) jf) (iw (pv 2) (iw (pv 4) nJ))))
  (@jb _ _ _ _ _ (j8 (pN (jrb T) hr.dn a_ T.ZW T.OA.kp T.ZX jq (jc (pv 3) jf) (iw (pv 5) nJ)))
  (@jb _ _ _ _ _ (dN (pv 0) (jl jt a_ T.cB boot_len (jc (pv 3) jf)) a_)
  (@jb _ _ _ _ _ (dN (pv 0) (jl (An a_) a_ T.sN boot_sum (jc (pv 3) jf)) a_)
  (@jb _ _ _ _ _ (dN (pv 0) (y4 we a_ T.mD boot_list (jc (pv 4) jf)) a_)
  (@jb _ _ _ _ _ (dN (pv 0) (y4 we a_ T.mD boot_list (jc (pv 5) jf)) a_)
  (@jb _ _ _ _ _ (dN (pv 0) (WR (.dK []) (.inl a_) (mf hr) (N':=["house","sums","liars"]) (ix:=[none,some 3,some 4]) (yg (by kernel_rfl)) a_ (rP a_ T.sO (jc (pv 1) jf)) (λ_ _ _ _=>(jw (i:=0) Zs a_ (w_ a_) (.inr a_))) (λ_ _ _ _=>(nW (ju (MX (K:=K) a_) (pv 0) (pv 2) (by with_unfolding_all rfl)))) (λ_ _ _ _=>(pv 0)) (λ_ _ _ _=>(zZ T.jxc (jnr T) hr.dn a_ T.jza T.jf9 .nil jq (jc (pv 1) jf)))) a_)
  (@jb _ _ _ _ _ (dN (pv 0) (zZ T.OB (PM T) hr.dn a_ T.Pg T.OD .nil jq (jc (pN (jwr T) hr.dn a_ T.ZM T.Ov.kp T.ZN jq (jc (pv 1) jf) (iw (pv 2) nJ)) jf)) a_)
  (@jb _ _ _ _ _ (dN (pv 0) (jI (N':=["each"]) (ix:=[none]) (yg (by kernel_rfl)) a_ (@kO _ _ _ _ (pv 3)) (λ_ _ _ _=>(jw (i:=0) Zr a_ (w_ a_) (.inr a_))) (λ_ _ _ _=>sf) (λ_ _ _ _=>(@zj _ _ _ _ jf))) a_)
  (@je _ _ _ (dN (pv 0) (@zj _ _ _ _ jf) a_))))))))))),?_⟩
 refine ⟨_,a_,_,a_,_,a_,xa2 h f la ls ⟨a_,h1,f1,lt,hla,xX,xY,llf,λH1 s1=>?_⟩⟩
 refine ⟨_,a_,_,a_,xa2 sa ns ca cs ⟨a_,s1 _ _ hs,l2,l8,rg,hca.same s1,up,BW,λH2 s2=>?_⟩⟩
 have m2:dH t Z H id x dx [] Z H2:=dH.xW ⟨hx,rx,Fr.refl,kr⟩ (s1.trans s2)
 have xZ : ∀ {Z' H' fs},dH t Z H id x dx fs Z' H' -> H' sa = some (.lst (ns.map V.int)):=λm=>(m.fr _ _ hs nsa).1
 have QH : ∀ {Z' H' fs},dH t Z H id x dx fs Z' H' -> vc K H' la ls:=λm=>QE.fr m.fr
 have ca_ : ∀ {Z' H' fs},dH t Z H id x dx fs Z' H' -> vc K H' ca cs:=λm=>QG.fr m.fr
 refine ⟨_,a_,xa0 sa _ ⟨a_,.inl (ah.of (xZ m2)),_,a_,xa2 x _ dx _ ⟨a_,m2.ob,T.jk,T.yj,(by show 0 < 1000; decide),?_⟩⟩⟩
 have m3:=m2.obj (fs':=wm "purses" (.int (ns.map V.int).length) [])
 dsimp only
 generalize upd H2 x (.ins t.j3 dx (wm "purses" (.int (ns.map V.int).length) [])) = G3 at m3
 refine ⟨_,a_,xa0 sa ns ⟨a_,ah.of (xZ m3),_,a_,xa2 x _ dx _ ⟨a_,m3.ob,T.jk,T.Pj,(by show 1 < 1000; decide),?_⟩⟩⟩
 have m4:=m3.obj (fs':=q2 ns)
 dsimp only
 generalize upd G3 x (.ins t.j3 dx (q2 ns)) = G4 at m4
 refine ⟨_,a_,xa0 la _ ⟨a_,(QH m4).sq,λly Jx=>?_⟩⟩
 have m5:=m4.xW (jg (o:=.lst (ls.map V.int)) Jx)
 have l5:upd G4 ly (.lst (ls.map V.int)) ly = some (.lst (ls.map V.int)) /\ Z ly = none:=⟨ja,m4.kr.none Jx⟩
 refine ⟨_,a_,xa2 x _ dx _ ⟨a_,m5.ob,T.jk,T.Pk,(by show 2 < 1000; decide),?_⟩⟩
 have m6:=m5.obj (fs':=q3 ns ly)
 have l6:=dS (m5.fo (fs':=q3 ns ly)) l5.1 l5.2
 dsimp only
 generalize upd (upd G4 ly (.lst (ls.map V.int))) x (.ins t.j3 dx (q3 ns ly)) = G6 at m6 l6
 refine ⟨_,a_,xa0 ca _ ⟨a_,(ca_ m6).sq,λch kI=>?_⟩⟩
 have m7:=m6.xW (jg (o:=.lst (cs.map V.int)) kI)
 have c7:tj (upd G6 ch (.lst (cs.map V.int))) Z ch ly cs ls:=⟨⟨ja,m6.kr.none kI⟩,dS (P:=λ_=>v?) (Fr.same (jg kI)) l6.1 l6.2⟩
 refine ⟨_,a_,xa2 x _ dx _ ⟨a_,m7.ob,T.jk,T.yi,(by show 3 < 1000; decide),?_⟩⟩
 have m8:=m7.obj (fs':=q4 ns ly ch)
 have c8:=c7.fr (m7.fo (fs':=q4 ns ly ch))
 dsimp only
 generalize upd (upd G6 ch (.lst (cs.map V.int))) x (.ins t.j3 dx (q4 ns ly ch)) = G8 at m8 c8
 clear m2 m3 m4 m5 m6 m7 c7 Jx kI l5 l6
 refine ⟨_,a_,h,a_,(by omega),(by omega),λD nD=>?_⟩
 have m9:=m8.new (r:=(id,.kd)) nD (u:=.dK [])
 have c9:tj (upd G8 D (.dK [])) (aB Z D (id,.kd)) ch ly cs ls:=c8.fr (P:=λ_=>v?) (Fr.bY nD)
 refine XU (lo:=0) (n:=h.toNat) (λi U H'=>∃ v aa Z',U = [v,some (.ref sa),some (.ref la)] /\ dH t Z H id x dx (q4 ns ly ch) Z' H' /\ tj H' Z' ch ly cs ls /\ Z' D = some (id,.kd) /\ H' D = some (.dK aa) /\ yk t H' Z' id aa ((bo ls i).map λi=>(i,kD ns))) (xa1 none [] _ ⟨a_,m9,c9,qu,ja,.nil⟩) ?_ ?_
 .rintro i U H' hi ⟨v,aa,Z',rfl,m,hc,rD,hD,ks⟩
  have e0:(0:i_) + (i:i_) = i:=acV _
  rw [e0]
  refine ⟨_,a_,_,a_,xa0 la _ ⟨a_,(QH m).sq,a_,oB _,_,a_,bh (λzz=>?_) (λzz=>?_)⟩⟩
  rotate_left
  .have nl:(i:i_) ∈ ls:=by
    rw [j_ a_,w6] at zz
    simpa using zz
   refine (xa1 _ aa Z' ⟨a_,m,hc,rD,hD,?_⟩)
   rw [BV,j_ nl,å]
   exact ks
  have nl : ¬ (i:i_) ∈ ls:=by
   rw [j_ a_,w6] at zz
   simpa using zz
  refine ⟨_,a_,_,a_,λk dk nk ndk ne=>?_⟩
  have sk:xf H' (upd H' dk (.own k)):=jg ndk
  have nk1:upd H' dk (.own k) k = none:=by rw [jd ne.symm]; exact nk
  have f1:Fr (λ_=>v?) Z' H' (aB Z' k (id,.kp i 0)) (upd (upd H' dk (.own k)) k (.ins t.j6 dk [])):=(Fr.same sk).trans (Fr.bY nk1)
  have bJ:aw (aB Z' k (id,.kp i 0)) (upd (upd H' dk (.own k)) k (.ins t.j6 dk [])):=(m.kr.same sk).bY
  have m1:=m.step f1 (λz=>z) (λ_ z=>z.elim) bJ
  refine (xa6 _ id (i:i_) k dk sa ns ⟨a_,ja,qu,bJ,xZ m1,by omega,λ Z2 BX A2 R2 f2 bV=>⟨a_,?_⟩⟩)
  have eE:Fr (bz id i) Z' H' Z2 BX:=(f1.mono λ_ z=>z.elim).trans f2
  have Jy : ∀ {p:Part},(∀ j,p ≠ .kp (i:i_) j) -> ¬ bz id (i:i_) (id,p):=λhp ⟨j,e⟩=>hp j (Ô e).2
  have mm:=m.step eE (Jy λ_ z=>by cases z) (λr ⟨j,e⟩=>by rw [e]) bV
  have jC:=hc.fr eE
  obtain ⟨hD2,QI⟩:=cq eE hD rD (Jy λ_ z=>by cases z)
  have Jz:yk t BX Z2 id aa ((bo ls i).map λi=>(i,kD ns)):=yk.pY eE (λc hc j=>by
   obtain ⟨i',JA,rfl⟩:=O_.mp hc
   have:=Jv JA
   refine Jy λj' z=>?_
   have:i' = (i:i_):=(Part.kp.inj z).1
   omega) ks
  have nv:br aa (.inl (i:i_)) = none:=by
   cases e:br aa (.inl (i:i_)) with
   | none=>rfl
   | some v=>
    exfalso
    have hm:=Va e
    obtain ⟨j,hj,ej⟩:=Î.mp hm
    rw [i?] at hj
    obtain ⟨c,ec,e1,_⟩:=qa Jz (n? hj)
    rw [b?.getElem_map] at ej
    rw [e1] at ej
    obtain ⟨i',JA,rfl⟩:=O_.mp (r? ec)
    have:=Jv JA
    have:i' = (i:i_):=Q?.inj ej
    omega
  have lk:aa.length <= 1000:=by
   rw [q? Jz,i?]
   have:=Jw ls i
   omega
  refine ⟨_,iO.k (k:=.inl (i:i_)) hD2 (zq lk),?_⟩
  rw [Aj _ nv]
  have f3:Fr (fY id .kd) Z2 BX Z2 (upd BX D (.dK (aa ++ [(.inl (i:i_),.ref k)]))):=Fr.put QI a_
  refine (xa1 _ _ Z2 ⟨a_,mm.step f3 jz (λr e=>by rw [e]) bV.put,jC.fr f3,QI,ja,?_⟩)
  rw [BV,f? nl,H_]
  exact qi (yk.fr f3 (λ_ _=>jz) Jz) ⟨a_,xa1 k A2 dk ⟨a_,R2.fr (λ_=>jz) f3⟩⟩
 .rintro U G10 ⟨v,aa,Z1,rfl,BY,c10,rD,hD,ks⟩
  clear m8 c8 m9 c9 nD
  refine ⟨_,a_,xa2 x _ dx _ ⟨a_,BY.ob,T.jk,T.zw,(by show 4 < 1000; decide),?_⟩⟩
  have BZ:=BY.obj (fs':=q5 ns ly ch D)
  have qY:=BY.fo (fs':=q5 ns ly ch D)
  have c11:=c10.fr qY
  have k11:=hU qY jz (λ_ _=>jz) rD ⟨aa,hD,ks⟩
  dsimp only
  generalize upd G10 x (.ins t.j3 dx (q5 ns ly ch D)) = tm at BZ c11 k11
  clear qY BY c10
  refine ⟨_,a_,_,a_,xa0 h f ⟨a_,λb db nb ndb neb=>?_⟩⟩
  have sb:xf tm (upd tm db (.own b)):=jg ndb
  have nb1:upd tm db (.own b) b = none:=by rw [jd neb.symm]; exact nb
  refine (xa1 b db (h - f) ⟨a_,ja,λS yA nS Bq fr=>⟨a_,?_⟩⟩)
  have nS0:tm S = none:=by
   have nSb:S ≠ b:=λz=>by rw [z,ja] at nS; cases nS
   rw [jd nSb] at nS
   exact sb.free nS
  have hV:xf tm yA:=λc u e=>fr _ _ (by rw [jd (jh (sb _ _ e) nb1)]; exact sb _ _ e) (jh e nb)
  have bS:b ≠ S:=gA Bq.ob Bq.sg (by intro z; cases z)
  have eE:Fr (λ_=>v?) Z1 tm (aB (aB Z1 b (id,.bd)) S (id,.sd)) yA:=λa u e _=>⟨hV _ _ e,by rw [qv (jh e nS0),qv (jh e nb)]⟩
  have qZ:aw (aB (aB Z1 b (id,.bd)) S (id,.sd)) yA:=λa r e=>by
   by_cases z:a = S
   .subst z
    exact ⟨_,Bq.sg,q_⟩
   .rw [qv z] at e
    by_cases y:a = b
    .subst y
     exact ⟨_,Bq.ob,q_⟩
    .rw [qv y] at e
     obtain ⟨u,hu,nu⟩:=BZ.kr a r e
     exact ⟨u,hV _ _ hu,nu⟩
  have yB:=BZ.step eE (λz=>z) (λ_ z=>z.elim) qZ
  have c12:=c11.fr eE
  have k12:=hU eE (λz=>z) (λ_ _ z=>z) k11.1 k11.2
  have oH:(aB (aB Z1 b (id,.bd)) S (id,.sd)) b = some (id,.bd) /\ (aB (aB Z1 b (id,.bd)) S (id,.sd)) S = some (id,.sd) /\ ∃ aa,y7 t yA b db S (h - f) aa (bU []) /\ mL (aB (aB Z1 b (id,.bd)) S (id,.sd)) id aa:=⟨by rw [qv bS,qu],qu,[],Bq,λ_ z=>by cases z⟩
  generalize aB (aB Z1 b (id,.bd)) S (id,.sd) = Z2 at yB c12 k12 oH qZ eE
  clear BZ c11 k11 eE qZ
  refine ⟨_,a_,xa2 x _ dx _ ⟨a_,yB.ob,T.jk,T.x9,(by show 5 < 1000; decide),?_⟩⟩
  have JB:=yB.obj (fs':=q6 ns ly ch D b)
  have fo:=yB.fo (fs':=q6 ns ly ch D b)
  have c13:=c12.fr fo
  have k13:=hU fo jz (λ_ _=>jz) k12.1 k12.2
  have B0:=iX fo jz jz jz oH.1 oH.2.1 oH.2.2
  dsimp only
  generalize upd yA x (.ins t.j3 dx (q6 ns ly ch D b)) = G13 at JB c13 k13 B0
  clear yB c12 k12 oH fo
  have hsa:=xZ JB
  refine ⟨_,a_,sa,a_,⟨_,ah.of hsa⟩,so (K:=K) (a:=sa) (xs:=ns.map V.int) (λi ys U H'=>∃ v rr Z',U = [v] /\ ys = rr.map V.ref /\ rr.length = i /\ dH t Z H id x dx (q6 ns ly ch D b) Z' H' /\ Fr (λ_=>v?) Z2 G13 Z' H' /\ ∀ (j:j?) r,rr[j]? = some r -> Z' r = some (id,.row j) /\ H' r = some (.lst [])) (xa1 none [] Z2 ⟨a_,a_,a_,JB,Fr.refl,λj r e=>by cases e⟩) ?_ ?_ ?_⟩
  .rintro i ys U H' hi ⟨v,rr,Z',rfl,rfl,lr,mm,ff,B8⟩
   rw [i?] at hi
   refine ⟨ah.of (xZ mm),hJ ?_⟩
   rw [i?]
   omega
  .rintro i y ys U H' hy ⟨v,rr,Z',rfl,rfl,lr,mm,ff,B8⟩
   dsimp only [ip,pX]
   rw [j_ a_]
   refine ⟨cz,λp np=>(xa1 _ (rr ++ [p]) (aB Z' p (id,.row i)) ⟨a_,?_,?_,mm.new np,ff.trans (Fr.bY np),λj r e=>?_⟩)⟩
   .rw [H_]; rfl
   .rw [r_,lr]; rfl
   .by_cases z:j < rr.length
    .rw [ach z] at e
     obtain ⟨q1,q2⟩:=B8 j r e
     have:r ≠ p:=jh q2 np
     exact ⟨by rw [qv this]; exact q1,by rw [jd this]; exact q2⟩
    .rw [abS (by omega)] at e
     have j0:j = rr.length:=by
      have:=(xv.mp e).1
      simp at this
      omega
     subst j0
     rw [j?.sub_self] at e
     cases e
     rw [lr]
     exact ⟨qu,ja⟩
  .rintro ys U H' ⟨v,rr,Z3,rfl,rfl,lr,m14,rh,B8⟩ ak QJ
   rw [i?] at lr
   have c14:=c13.fr rh
   have k14:=hU rh (λz=>z) (λ_ _ z=>z) k13.1 k13.2
   have JC:=iX rh (λz=>z) (λz=>z) (λz=>z) B0.1 B0.2.1 B0.2.2
   have lI:Fr (λ_=>v?) Z3 H' (aB Z3 ak (id,.ak)) (upd H' ak (.lst (rr.map V.ref))):=Fr.bY QJ
   have B9:=m14.new (r:=(id,.ak)) QJ (u:=.lst (rr.map V.ref))
   have c15:=c14.fr lI
   have k15:=hU lI (λz=>z) (λ_ _ z=>z) k14.1 k14.2
   have Ca:=iX lI (λz=>z) (λz=>z) (λz=>z) JC.1 JC.2.1 JC.2.2
   have a15:(aB Z3 ak (id,.ak)) ak = some (id,.ak) /\ ∃ rs,upd H' ak (.lst (rr.map V.ref)) ak = some (.lst (rs.map V.ref)) /\ mK (upd H' ak (.lst (rr.map V.ref))) (aB Z3 ak (id,.ak)) id rs (l' ns.length []):=by
    refine ⟨qu,rr,ja,by rw [lr,W?],λi r os e1 e2=>?_⟩
    obtain ⟨q1,q2⟩:=B8 i r e1
    obtain ⟨q3,q4⟩:=cq lI q2 q1 (λz=>z)
    have:os = []:=ÿ (r? e2)
    subst this
    exact ⟨q4,[],q3,.nil⟩
   generalize aB Z3 ak (id,.ak) = Z4 at lI B9 c15 k15 Ca a15
   refine ⟨_,a_,xa2 x _ dx _ ⟨a_,B9.ob,T.jk,T.IF,(by show 6 < 1000; decide),?_⟩⟩
   have QK:=B9.obj (fs':=q7 ns ly ch D b ak)
   have fo:=B9.fo (fs':=q7 ns ly ch D b ak)
   have c16:=c15.fr fo
   have k16:=hU fo jz (λ_ _=>jz) k15.1 k15.2
   have Cb:=iX fo jz jz jz Ca.1 Ca.2.1 Ca.2.2
   have a16:=mM fo jz (λ_=>jz) a15.1 a15.2
   dsimp only
   generalize upd (upd H' ak (.lst (rr.map V.ref))) x (.ins t.j3 dx (q7 ns ly ch D b ak)) = QL at QK c16 k16 Cb a16
   refine ⟨cz,λwy QM=>?_⟩
   have mP:Fr (λ_=>v?) Z4 QL (aB Z4 wy (id,.wy)) (upd QL wy (.lst [])):=Fr.bY QM
   have JD:=QK.new (r:=(id,.wy)) QM (u:=.lst [])
   have c17:=c16.fr mP
   have k17:=hU mP (λz=>z) (λ_ _ z=>z) k16.1 k16.2
   have JE:=iX mP (λz=>z) (λz=>z) (λz=>z) Cb.1 Cb.2.1 Cb.2.2
   have a17:=mM mP (λz=>z) (λ_ z=>z) a16.1 a16.2
   refine ⟨_,a_,xa2 x _ dx _ ⟨a_,JD.ob,T.jk,T.zr,(by show 7 < 1000; decide),?_⟩⟩
   have Cc:=JD.obj (fs':=cZ (ns.map V.int).length ns.sum ly ch D b ak wy)
   have kE:=JD.fo (fs':=cZ (ns.map V.int).length ns.sum ly ch D b ak wy)
   have c18:=c17.fr kE
   have k18:=hU kE jz (λ_ _=>jz) k17.1 k17.2
   have b18:=iX kE jz jz jz JE.1 JE.2.1 JE.2.2
   have a18:=mM kE jz (λ_=>jz) a17.1 a17.2
   have y18:=Jl (way:=[]) kE jz qu ⟨[],ja,.nil⟩
   refine k _ _ ⟨x,dx,ns.sum,ly,ch,D,b,ak,wy,db,S⟩ a_ a_ ⟨⟨?_,Cc.rx⟩,c18.c,k18,b18,a18,y18⟩ c18.l Cc.fr Cc.kr
   refine (Cc.ob).trans ?_
   show some (HO.ins t.j3 dx (cZ ((ns.map V.int).length:i_) ns.sum ly ch D b ak wy)) = some (HO.ins t.j3 dx (cZ (ns.length:i_) ns.sum ly ch D b ak wy))
   rw [i?]
theorem QN (T:Txt K mg t):zu P w K mg base CX0 3 t.GS t.GU ["self","liar"] (λvs H Q _=>∃Z id W Y h ls,vs=[.ref W.x,.int h]/\qo t H Z id W Y/\H W.ly=some (.lst ((ls:b? i_).map V.int))/\h∈ls/\Q .ar H):=by refine T.je9.aZ (N:=["self","liar"]) λ_ A _ s H vs Q E hr h=>?_;obtain⟨Z,id,W,Y,h,ls,rfl,O,hl,hm,g⟩:=h;refine⟨_,(@je _ _ _ (zo (PW.pt (eX (xw (zt (jm (IH T) hr.dn a_ T.Ig T.BA.kp T.Ih .nil jq (jc (pv 1) jf)))) (fQ (ju Ae (pv 1) (j4 (pv 0) a_) (by with_unfolding_all rfl))))) zd qe)),?_⟩;refine⟨_,a_,h,a_,_,a_,gd ?_⟩;refine⟨_,a_,_,a_,xa3 W.x _ W.dx _ _ ⟨a_,O.ob.1,T.jk,T.Pk,j1l,xa0 W.ly _ ⟨a_,.inl (ah.of hl),a_,oB _,_,a_,?_⟩⟩⟩;rw[j_ a_,w6,j' hm];exact gd g
theorem j2z {K:e?}{H:Hp}{Z:aq}{xs:b? V}{os:b? O}(p:g? (xq H Z) xs os):g? (lq K H) xs (os.map bb):=by
 induction p with
 |nil=>exact .nil
 |cons h _ ih=>obtain⟨a,e,_,q⟩:=h;exact .cons ⟨a,e,ax.of q⟩ ih
noncomputable def Wd.may (Y:Wd)(o:O):Prop:=o.p∈Y.fF\/∃row,Y.asked[o.p.toNat]?=some row/\o∈row
theorem JF (T:Txt K mg t):zu P w K mg base CX0 6 t.G7 t.G9 ["self","liar","order"] (λvs H Q _=>∃Z id W Y h q o ls a b c,vs=[.ref W.x,.int h,.ref q]/\qo t H Z id W Y/\aw Z H/\H W.ly=some (.lst ((ls:b? i_).map V.int))/\h∈ls/\xq H Z (.ref q) o/\vp Y.n o=true/\Y.may o/\Sz Y a b c/\a+1<=1000/\b+1<=1000/\c+16<=100000/\∀Z' H',qo t H' Z' id W (Y.xr h [o])->Fr (sX id) Z H Z' H'->aw Z' H'->Q .ar H'):=by
 refine T.jqw.aZ (N:=["self","liar","order"]) λ_ A _ s H vs Q E hr h=>?_;obtain⟨Z,id,W,Y,h,q,o,ls,a,b,c,rfl,O,kr,hl,hm,uq,ho,may,sz,la,lb,lc,g⟩:=h;refine⟨_,(@jb _ _ _ _ _ (j8 (j7 (pv 0) T.jk T.uf (QN T) hr.dn T.OL .nil jq (jc (pv 1) jf))) (@jb _ _ _ _ _ (j8 (j7 (pv 0) T.jk T.gp (Qo T) hr.dn T.ui .nil jq (jc (pv 2) jf))) (@jb _ _ _ _ _ (zo (PW.pt (kJ (ju Ae (cx kR (pv 2) jn (λ_ _=>a_)) (j4 (pv 0) a_) (by with_unfolding_all rfl)) (lS (ju (WJ hr.units) (pv 2) (cx gT (j4 (pv 0) a_) (cx kR (pv 2) jn (λ_ _=>a_)) (λ_ _=>a_)) (by with_unfolding_all rfl))))) zd qe) (@je _ _ _ (j8 (j7 (pv 0) T.jk T.vl (Jo T) hr.dn T.wz .nil jq (@ye _ _ _ _ _ (pv 1) (@zj _ _ _ _ (jc (pv 2) jf)) a_ a_))))))),?_⟩;have xT:=uq;obtain⟨_,eq,nq,hq⟩:=xT;cases eq;refine⟨_,a_,xa1 W.x W.dx _ ⟨a_,O.ob.1,xn,_,a_,xa5 Z id W Y h ls ⟨a_,O,hl,hm,?_⟩⟩⟩;refine⟨_,a_,xa1 W.x W.dx _ ⟨a_,O.ob.1,xn,_,a_,xa5 Z id W Y q o ⟨a_,O,hq,ho,?_⟩⟩⟩;refine⟨_,a_,xa2 q (cL o) 0 (.int o.p) ⟨a_,a_,ax.of hq,a_,_,a_,xa3 W.x _ W.dx _ _ ⟨a_,O.ob.1,T.jk,T.yi,Jh,xa0 W.ch _ ⟨a_,.inl (ah.of O.ch.1),a_,oB _,_,a_,?_⟩⟩⟩⟩;rw[j_ a_,w6];refine bh (λz=>?_) (λ_=>gd ?_)
 rotate_left
 .refine⟨_,a_,xa1 W.x W.dx _ ⟨a_,O.ob.1,xn,_,a_,_,a_,iU,λL nL=>?_⟩⟩;have s1:=jg (o:=.lst [.ref q]) nL;refine(xb2 Z id W Y h L [.ref q] [o] a b c ⟨a_,O.fr (P:=λ_=>v?) (λ_ z=>z) (Fr.same s1),kr.same s1,ja,λro e=>?_,.cons (uq.fr (P:=λ_=>v?) (Fr.same s1)) .nil,sz,la,lb,lc,λ Z' H' O' f' mQ=>g Z' H' O' ((Fr.same s1).trans f') mQ⟩);rw[kr.none nL]at e;cases e
 have nc:o.p∉Y.fF:=by simpa using z
 obtain⟨row,er,om⟩:∃row,Y.asked[o.p.toNat]?=some row/\o∈row:=may.resolve_left nc;obtain⟨ra,rs,ha,fH⟩:=O.ak;obtain⟨r,QO⟩:∃r,rs[o.p.toNat]?=some r:=⟨_,n? (by rw[fH.1];exact(xv.mp er).1)⟩;obtain⟨rr,xs,oG,px⟩:=fH.2 _ _ _ QO er;have p0:0<=o.p:=(qQ.mp ho).1;refine⟨_,a_,_,a_,xa3 W.x _ W.dx _ _ ⟨a_,O.ob.1,T.jk,T.IF,Qe,_,a_,xa2 q (cL o) 0 (.int o.p) ⟨a_,a_,ax.of hq,a_,xa2 W.ak _ o.p (.ref r) ⟨a_,a_,ah.of ha,mE p0 (by rw[J',QO];rfl),?_⟩⟩⟩⟩;refine(xa2 r xs (bb o) (row.map bb) ⟨a_,ah.of oG,⟨q,a_,ax.of hq⟩,j2z px,_,a_,?_⟩);rw[j_ a_,j' (N_ om)];refine gd ?_;refine⟨_,a_,xa1 W.x W.dx _ ⟨a_,O.ob.1,xn,_,a_,_,a_,iU,λL nL=>?_⟩⟩;have s1:=jg (o:=.lst [.ref q]) nL;refine(xb2 Z id W Y h L [.ref q] [o] a b c ⟨a_,O.fr (P:=λ_=>v?) (λ_ z=>z) (Fr.same s1),kr.same s1,ja,λro e=>?_,.cons (uq.fr (P:=λ_=>v?) (Fr.same s1)) .nil,sz,la,lb,lc,λ Z' H' O' f' mQ=>g Z' H' O' ((Fr.same s1).trans f') mQ⟩);rw[kr.none nL]at e;cases e
theorem jts (T:Txt K mg t):zu P w K mg base CX0 6 t.Ha t.Hb ["self","order","house"] (λvs H Q _=>∃Z id W Y q o h B,vs=[.ref W.x,.ref q,.int h]/\qo t H Z id W Y/\aw Z H/\xq H Z (.ref q) o/\vp Y.n o=true/\Y.keep h=some B/\Y.carried o=true/\Y.way.length<=100000/\∀H',qo t H' Z id W {Y with way:=Y.way++[(false,h,o)]}->Fr (fY id .wy) Z H Z H'->aw Z H'->Q .ar H'):=by
 refine T.jpk.aZ (N:=["self","order","house"]) λ_ A _ s H vs Q E hr h=>?_;obtain⟨Z,id,W,Y,q,o,h,B,rfl,O,kr,uq,ho,ek,ecr,l,g⟩:=h;refine⟨_,(@jb _ _ _ _ _ (j8 (j7 (pv 0) T.jk T.zv (x8 T) hr.dn T.xl .nil jq (jc (pv 2) jf))) (@jb _ _ _ _ _ (zo (PW.pt (eX (xw (zt (pN (II T) hr.dn a_ T.Ii T.BB.kp T.Oj jq (jc (pv 1) jf) (iw (j4 (pv 0) a_) nJ)))) (fQ (xw (zt (j7 (j4 (pv 0) a_) T.qj T.yr (PF T) hr.dn T.vh .nil jq (jc (pv 1) jf))))))) zd qe) (@je _ _ _ (j8 (fT A? D_ E_ y3 (j4 (pv 0) a_) (jc (@gR _ _ _ _ _ (@cA _ _ _ _ _ _ _ (zk (v:=.str "paper") a_ T.Pf.choose_spec ⟨_,a_⟩) (pv 2) (pv 1) a_ a_ a_)) jf)))))),?_⟩;have xT:=uq;obtain⟨_,eq,nq,hq⟩:=xT;cases eq;refine⟨_,a_,xa1 W.x W.dx _ ⟨a_,O.ob.1,xn,_,a_,xa5 Z id W Y h B ⟨a_,O,ek,λk A' dk R=>?_⟩⟩⟩;refine⟨_,a_,_,a_,xa3 W.x _ W.dx _ _ ⟨a_,O.ob.1,T.jk,T.yj,BN,xa1 q o (Y.n:i_) ⟨a_,hq,_,a_,?_⟩⟩⟩;rw[ho];refine gd ?_;obtain⟨rb,rS,xS,Bq,sg⟩:=O.bd;refine⟨_,a_,xa3 W.x _ W.dx _ _ ⟨a_,O.ob.1,T.jk,T.x9,xP,xa1 W.bd W.db _ ⟨a_,Bq.ob,lC _ _ (by decide+kernel) (by decide+kernel),_,a_,xa9 W.bd W.db W.S Y.en xS (bU Y.bd) q (cM o) ⟨a_,Bq.rd,hq,λH1 s1=>⟨_,a_,?_⟩⟩⟩⟩⟩;have ec:p_ (Y.en<=((qw (bU Y.bd) (cM o)).length:i_))=Y.carried o:=by
  unfold Wd.carried;rw[show qw (bU Y.bd) (cM o)=za Y.bd (bb o)from xR (bb o) Y.bd]
 rw[ec,ecr];refine gd ?_;have O1:=O.fr (P:=λ_=>v?) (λ_ z=>z) (Fr.same s1);have bJ:=kr.same s1;have oF:=uq.fr (P:=λ_=>v?) (Fr.same s1);have f1:Fr (fY id .wy) Z H Z H1:=Fr.same s1;obtain⟨eQ,xs,hw,pw⟩:=O1.wy;refine⟨_,a_,xa3 W.x _ W.dx _ _ ⟨a_,O1.ob.1,T.jk,T.zr,sV,.inl ⟨a_,_,ah.of hw⟩,_,a_,_,a_,oz,λp np=>?_⟩⟩;have sp:=jg (o:=.tup [.str "paper",.int h,.ref q]) np;have lx:xs.length<=1000000:=by rw[q? pw];omega
 refine(xa1 W.wy xs (.ref p) ⟨a_,a_,sp _ _ hw,big lx,?_⟩);have O2:=O1.fr (P:=λ_=>v?) (λ_ z=>z) (Fr.same sp);have f2:Fr (fY id .wy) Z (upd H1 p (.tup [.str "paper",.int h,.ref q])) Z (upd (upd H1 p (.tup [.str "paper",.int h,.ref q])) W.wy (.lst (xs++[.ref p]))):=Fr.put eQ a_;have f0:Fr (fY id .wy) Z H1 Z (upd H1 p (.tup [.str "paper",.int h,.ref q])):=Fr.same sp;refine g _ (O2.but f2 _ jz a_ a_ (hU f2 jz (λ_ _=>jz)) (iX f2 jz jz jz) (mM f2 jz (λ_=>jz)) (λ_ _=>⟨eQ,_,ja,?_⟩)) ((f1.trans f0).trans f2) (bJ.same sp).put;have mJ:=bJ.none np;refine qi (Paired.gi pw λ_ _=>de.fr (f0.trans f2)) (xa0 p q ⟨a_,mJ,?_,oF.fr (f0.trans f2)⟩);rw[jd (BL mJ eQ),ja];rfl
theorem tq {α:Type}[İ α]:∀{xs ys:b? α},xs.Nodup->(∀x∈xs,x∈ys)->xs.length<=ys.length
 |[],_,_,_=>W_ _
 |x::xs,ys,nd,h=>by rw[X?]at nd;have hx:=h x t?;have:=tq (xs:=xs) (ys:=ys.erase x) nd.2 λy hy=>(b?.mem_erase_of_ne (λz=>nd.1 (by rw[<-z];exact hy))).mpr (h y (u_ _ hy));rw[þ hx]at this;have:=ę hx;rw[E?];lia
theorem j8s (B:Kp)(o:O)(a:Gv):(dR B o a).1.length+(dR B o a).2.2.length<=a.1.length+a.2.2.length+1:=by
 unfold dR;split
 .simp;lia
 .split
  .simp;lia
  .omega
theorem QP (B:Kp):∀(os:b? O)(a:Gv),(gv B os a).1.length+(gv B os a).2.2.length<=a.1.length+a.2.2.length+os.length
 |[],a=>by simp[gv]
 |o::os,a=>by have h1:=QP B os (dR B o a);have h2:=j8s B o a;unfold gv at h1⊢;rw[ż,E?];lia
theorem QQ (B:Kp){P:O->Prop}:∀(os:b? O)(a:Gv),(∀o∈os,P o)->(∀o∈a.2.1,P o)->∀o∈(gv B os a).2.1,P o
 |[],a,_,h=>h
 | o::os,a,h1,h2=>by
  unfold gv;rw[ż];refine QQ B os _ (λo' h=>h1 o' (u_ _ h)) ?_;unfold dR;split
  .intro o' h;rcases A_.mp h with h|h
   .exact h2 o' h
   .rw[m?.mp h];exact h1 o t?
  .split
   .exact h2
   .exact h2
structure df (L:b? O)(m n:j?)(B:Kp):Prop where
 ok:B.Ok n
 sz:Qq B m
 u:∀o∈B.bf,o∈L
 w:∀o∈B.wait,o∈L
theorem df.xr {L:b? O}{m n:j?}{B:Kp}(k:df L m n B):df L m n B.xr.1/\(∀o∈B.xr.2,o∈L)/\B.xr.2.length<=m:=by
 refine⟨⟨k.ok.xr,⟨k.sz.hd,?_,k.sz.dw⟩,IZ B B.bf _ k.u (λo h=>by cases h),k.w⟩,QQ B B.bf _ k.u (λo h=>by cases h),?_⟩
 .have h1:=QP B B.bf (B.cho,[],[]);have h2:=k.sz.uc;show(gv B B.bf (B.cho,[],[])).2.2.length+(gv B B.bf (B.cho,[],[])).1.length<=m;simp at h1;lia
 .have h1:=(Jc B B.bf (B.cho,[],[])).2.1;have h2:=k.sz.uc;show(gv B B.bf (B.cho,[],[])).2.1.length<=m;simp at h1;lia
theorem df.go {L:b? O}{m n:j?}:∀{j:j?}{B:Kp},df L m n B->df L m n (Kp.go j B)
 |0,_,k=>k
 | j+1,B,k=>by
  unfold Kp.go;cases e:B.first with
  |none=>exact k
  |some o=>
   have om:=xM e;have l2:(B.step o).wait.length=B.wait.length-1:=þ om;have l1:(B.step o).done.length=B.done.length+1:=by show(B.done++[o]).length=_;rw[r_];rfl
   have:=ę om;have:=k.sz.dw;exact df.go (B:=B.step o) ⟨k.ok.step o,⟨k.sz.hd,k.sz.uc,by lia⟩,k.u,λo' h=>k.w o' (ac7 h)⟩
theorem df.mono {L L':b? O}{m m' n:j?}{B:Kp}(k:df L m n B)(h1:∀o∈L,o∈L')(h2:m<=m'):df L' m' n B:=⟨k.ok,⟨K? k.sz.hd h2,K? k.sz.uc h2,K? k.sz.dw h2⟩,λo h=>h1 o (k.u o h),λo h=>h1 o (k.w o h)⟩
theorem df.take {L:b? O}{m n:j?}{B:Kp}(k:df L m n B)(b:s?){o:O}(ol:o∈L)(ho:vp n o=true):df L (m+1) n (B.take b o).1/\(∀o'∈(B.take b o).2,o'∈L)/\(B.take b o).2.length<=m+1:=by
 have h1:=k.sz.hd;have h2:=k.sz.uc;have h3:=k.sz.dw;have yC:df L (m+1) n B/\(∀o'∈([]:b? O),o'∈L)/\([]:b? O).length<=m+1:=⟨k.mono (λ_ h=>h) (by lia),(λ_ z=>by cases z),W_ _⟩;unfold Kp.take;split
 .unfold Kp.qS;split
  .exact yC
  .refine df.xr (m:=m+1) ⟨⟨k.ok.h,k.ok.x,λu hu=>?_,k.ok.w,k.ok.nd⟩,⟨by show(B.eO++[o]).length<=m+1;rw[r_];show B.eO.length+1<=m+1;lia,by show(B.bf++[o]).length+B.cho.length<=m+1;rw[r_];show B.bf.length+1+B.cho.length<=m+1;lia,by show B.done.length+B.wait.length<=m+1;lia⟩,λu hu=>?_,k.w⟩
   .rcases A_.mp hu with hu|hu
    .exact k.ok.u u hu
    .rw[m?.mp hu];exact ho
   .rcases A_.mp hu with hu|hu
    .exact k.u u hu
    .rw[m?.mp hu];exact ol
 .unfold Kp.mI;split
  .exact yC
  .rename_i nz;have no:¬o∈B.wait:=λz=>nz (by rw[j' z,aaC]);refine df.xr (m:=m+1) (df.go ⟨⟨k.ok.h,k.ok.x,k.ok.u,λu hu=>?_,?_⟩,⟨by show B.eO.length<=m+1;lia,by show B.bf.length+B.cho.length<=m+1;lia,by show B.done.length+(B.wait++[o]).length<=m+1;rw[r_];show B.done.length+(B.wait.length+1)<=m+1;lia⟩,k.u,λu hu=>?_⟩)
   .rcases A_.mp hu with hu|hu
    .exact k.ok.w u hu
    .rw[m?.mp hu];exact ho
   .exact ä.mpr ⟨k.ok.nd,by simp,λx hx y hy e=>by rw[m?.mp hy]at e;subst e;exact no hx⟩
   .rcases A_.mp hu with hu|hu
    .exact k.w u hu
    .rw[m?.mp hu];exact ol
structure kF (L:b? O)(hs:b? i_)(is:yz):Prop where
 nd:(is.map (·.1)).Nodup
 ks:∀x∈is,∃o∈L,x.1=bb o
 hn:∀x∈is,x.2.Nodup/\∀h∈x.2,h∈hs
theorem QR {k:b? i_}{h:i_}:∀{is:yz}{y:b? i_},y∈(dG is k h).map (·.1)->y∈is.map (·.1)\/y=k
 |[],y,hy=>.inr (m?.mp hy)
 | p::ps,y,hy=>by
  unfold dG at hy;split at hy
  .rw[y?,B_]at hy⊢;exact .inl hy
  .rw[y?,B_]at hy⊢;rcases hy with hy|hy
   .exact .inl (.inl hy)
   .rcases QR hy with h|h
    .exact .inl (.inr h)
    .exact .inr h
theorem kF.sign {L:b? O}{hs:b? i_}{o:O}{h:i_}(ol:o∈L)(hh:h∈hs):∀{is:yz},kF L hs is->h∉za is (bb o)->kF L hs (dG is (bb o) h)
 |[],_,_=>⟨by simp[dG],λx hx=>by rw[m?.mp hx];exact⟨o,ol,a_⟩,λx hx=>by rw[m?.mp hx];exact⟨by simp,λy hy=>by rw[m?.mp hy];exact hh⟩⟩
 | p ::ps,b,hn=>by
  have bt:kF L hs ps:=⟨(X?.mp b.nd).2,λx hx=>b.ks x (u_ _ hx),λx hx=>b.hn x (u_ _ hx)⟩;unfold dG;unfold za at hn;split
  .rename_i z;rw[j_ z]at hn;refine⟨b.nd,λx hx=>?_,λx hx=>?_⟩
   .rcases B_.mp hx with rfl|hx
    .exact b.ks p t?
    .exact bt.ks x hx
   .rcases B_.mp hx with rfl|hx
    .obtain⟨q1,q2⟩:=b.hn p t?;refine⟨ä.mpr ⟨q1,by simp,λx1 vD y1 hy1 e=>by rw[m?.mp hy1]at e;subst e;exact hn vD⟩,λy hy=>?_⟩;rcases A_.mp hy with hy|hy
     .exact q2 y hy
     .rw[m?.mp hy];exact hh
    .exact bt.hn x hx
  .rename_i z;rw[f? z]at hn;have ih:=bt.sign ol hh hn;refine⟨?_,λx hx=>?_,λx hx=>?_⟩
   .rw[y?,X?];refine⟨λy=>?_,ih.nd⟩;rcases QR y with y|y
    .exact(X?.mp b.nd).1 y
    .exact z y
   .rcases B_.mp hx with rfl|hx
    .exact b.ks _ t?
    .exact ih.ks x hx
   .rcases B_.mp hx with rfl|hx
    .exact b.hn _ t?
    .exact ih.hn x hx
theorem kF.len {L:b? O}{hs:b? i_}{is:yz}(b:kF L hs is):is.length<=L.length/\∀x∈is,x.2.length<=hs.length:=by
 refine⟨?_,λx hx=>tq (b.hn x hx).1 (b.hn x hx).2⟩;have:=tq (ys:=L.map bb) b.nd λy hy=>by obtain⟨x,hx,rfl⟩:=O_.mp hy;obtain⟨o,ol,e⟩:=b.ks x hx;rw[e];exact N_ ol
 rwa[i?,i?]at this
structure Wd.lJ (Y Y':Wd):Prop where
 n:Y'.n=Y.n
 c:Y'.fF=Y.fF
 k:Y'.ks=Y.ks
 e:Y'.en=Y.en
 a:Y'.asked=Y.asked
theorem Wd.lJ.trans {a b c:Wd}(x:a.lJ b)(y:b.lJ c):a.lJ c:=⟨y.n.trans x.n,y.c.trans x.c,y.k.trans x.k,y.e.trans x.e,y.a.trans x.a⟩
theorem Cd (Y:Wd)(h:i_)(o:O):Y.lJ (Y.put h o).1:=by
 unfold Wd.put;split
 .exact⟨a_,a_,a_,a_,a_⟩
 .exact⟨a_,a_,a_,a_,a_⟩
theorem Ce (Y:Wd)(h:i_)(o:O):Y.lJ (Y.bW h o):=by
 have p:=Cd Y h o;unfold Wd.bW;split
 .exact⟨p.n,p.c,p.k,p.e,p.a⟩
 .exact p
theorem yD {Y:Wd}{h:i_}(m:h∈Y.ks.map (·.1)):∃B,Y.keep h=some B/\(h,B)∈Y.ks:=by
 unfold Wd.keep;cases e:Y.ks.find? λc=>p_ (c.1=h)with
 |none=>obtain⟨c,hc,rfl⟩:=O_.mp m;have:=b?.find?_eq_none.mp e c hc;simp at this
 |some c=>have h1:c.1=h:=w? (aeN (p:=λc:i_×Kp=>p_ (c.1=h)) e);refine⟨c.2,a_,?_⟩;rw[<-h1];exact į e
theorem qaa {xs:b? i_}{i:i_}:gI xs i=0\/gI xs i∈xs:=by
 unfold gI;cases e:xs[i.toNat]? with
 |none=>exact .inl a_
 |some x=>exact .inr (r? e)
theorem sum_set:∀(xs:b? i_)(i:j?)(v:i_),i<xs.length->(xs.set i v).sum=xs.sum-(xs[i]?).getD 0+v
 |[],_,_,h=>by cases h
 |x::xs,0,v,_=>by simp;lia
 |x::xs,i+1,v,h=>by have:=sum_set xs i v (by simpa using h);simp only[b?.set_cons_succ,abg,acA];lia
theorem QS {xs:b? i_}{i d:i_}(h0:0<=i)(h1:i<xs.length):(aO xs i d).sum=xs.sum+d:=by unfold aO;rw[sum_set xs i.toNat _ (by lia)];unfold gI;lia
theorem j36 {xs:b? i_}{i j d:i_}(h0:0<=i)(h1:i<xs.length)(j0:0<=j):gI (aO xs i d) j=if j=i then gI xs i+d else gI xs j:=by
 unfold aO gI;by_cases z:j=i
 .subst z;rw[j_ a_,Ç (by lia)];rfl
 .rw[f? z,ċ (by lia)]
theorem QT {xs:b? i_}{i d:i_}(h:∀x∈xs,0<=x)(hd:0<=gI xs i+d):∀x∈aO xs i d,0<=x:=λx hx=>by
 rcases Ř hx with hx|rfl
 .exact h x hx
 .exact hd
noncomputable def iZ (p:i_)(os:b? O):b? O:=os.filter λo=>p_ (o.p=p)
structure KX (n:j?)(ns:b? i_)(B:Kp):Prop where
 h0:∀x∈B.held,0<=x
 hs:B.held.sum=ns.sum
 nm:∀p:i_,0<=p->p<(n:i_)->gI B.zm p=((iZ p B.done).length:i_)
theorem KX.step {n:j?}{ns:b? i_}{B:Kp}(k:KX n ns B)(ok:B.Ok n){o:O}(ho:vp n o=true)(du:B.iI o=true):KX n ns (B.step o):=by
 obtain⟨p0,p1,g0,g1,png,n0,n1,m1,m2⟩:=qQ.mp ho;unfold Kp.iI at du;rw[M_,Ï,Ï]at du;have lh:=ok.h;have lx:=ok.x;refine⟨?_,?_,λp QU pp1=>?_⟩
 .show ∀x∈aO (aO B.held o.p (-o.m)) o.g o.m,0<=x;have h1:∀x∈aO B.held o.p (-o.m),0<=x:=QT k.h0 (by lia);refine QT h1 ?_;rcases qaa (xs:=aO B.held o.p (-o.m)) (i:=o.g)with e|e
  .omega
  .have:=h1 _ e;lia
 .show(aO (aO B.held o.p (-o.m)) o.g o.m).sum=ns.sum;rw[QS g0 (by rw[xH,lh];lia),QS p0 (by rw[lh];lia),k.hs];lia
 .have e:=k.nm p QU pp1;show gI (aO B.zm o.p 1) p=((iZ p (B.done++[o])).length:i_);rw[j36 p0 (by rw[lx];lia) QU];unfold iZ at e⊢;rw[Ĉ,r_];by_cases z:p=o.p
  .subst z;rw[j_ a_,e];simp
  .rw[f? z,e];have:¬o.p=p:=λy=>z y.symm;simp[this]
theorem KX.go {n:j?}{ns:b? i_}:∀{j:j?}{B:Kp},KX n ns B->B.Ok n->KX n ns (Kp.go j B)
 |0,_,k,_=>k
 |j+1,B,k,ok=>by
  unfold Kp.go;cases e:B.first with
  |none=>exact k
  |some o=>exact KX.go (k.step ok (ok.w o (xM e)) (aeN e)) (ok.step o)
theorem KX.take {n:j?}{ns:b? i_}{B:Kp}(k:KX n ns B)(ok:B.Ok n)(b:s?){o:O}(lo:vp n o=true):KX n ns (B.take b o).1:=by
 unfold Kp.take;split
 .unfold Kp.qS;split
  .exact k
  .exact⟨k.h0,k.hs,k.nm⟩
 .unfold Kp.mI;split
  .exact k
  .rename_i nz;have no:¬o∈B.wait:=λz=>nz (by rw[j' z,aaC]);have kg:=KX.go (B:={B with wait:=B.wait++[o]}) (j:=(B.wait++[o]).length) ⟨k.h0,k.hs,k.nm⟩ ⟨ok.h,ok.x,ok.u,λu hu=>?_,?_⟩
   .exact⟨kg.h0,kg.hs,kg.nm⟩
   .rcases A_.mp hu with hu|hu
    .exact ok.w u hu
    .rw[m?.mp hu];exact lo
   .exact ä.mpr ⟨ok.nd,by simp,λx hx y hy e=>by rw[m?.mp hy]at e;subst e;exact no hx⟩
theorem JG {k k':b? i_}{h:i_}:∀{is:yz},za (dG is k h) k'=if k'=k then za is k++[h]else za is k'
 |[]=>by
  show(if k=k' then[h]else[])=_;by_cases z:k'=k
  .rw[j_ z,j_ z.symm];rfl
  .rw[f? z,f? (λy=>z y.symm)];rfl
 | p::ps=>by
  unfold dG;by_cases y:p.1=k
  .rw[j_ y];show(if p.1=k' then p.2++[h]else za ps k')=if k'=k then(if p.1=k then p.2 else za ps k)++[h]else if p.1=k' then p.2 else za ps k';by_cases z:k'=k
   .rw[j_ z,j_ y,j_ (by rw[y,z])]
   .rw[f? z,f? (λq=>z (by rw[<-q,y])),f? (λq=>z (by rw[<-q,y]))]
  .rw[f? y];show(if p.1=k' then p.2 else za (dG ps k h) k')=if k'=k then(if p.1=k then p.2 else za ps k)++[h]else if p.1=k' then p.2 else za ps k';rw[JG (is:=ps),f? y];by_cases z:k'=k
   .rw[j_ z,j_ z,f? (λq=>y (by rw[q,z]))]
   .rw[f? z,f? z]
theorem jz5 (Y:Wd)(h:i_)(o:O)(k:b? i_):(za Y.bd k).length<=(za (Y.put h o).1.bd k).length:=by
 unfold Wd.put;split
 .exact s_ _
 .show _<=(za (dG Y.bd (bb o) h) k).length;rw[JG];split
  .rename_i z;rw[z,r_];lia
  .exact s_ _
theorem jyf (Y:Wd)(h:i_)(o u:O)(c:Y.carried u=true):(Y.put h o).1.carried u=true:=by have e:=(Cd Y h o).e;have l:=jz5 Y h o (bb u);unfold Wd.carried at c⊢;have:=w? c;exact j' (by rw[e];lia)
theorem j8n {Y:Wd}{h:i_}{o:O}(c:(Y.put h o).2=true):(Y.put h o).1.carried o=true:=by
 unfold Wd.put at c⊢;split at c
 .cases c
 .rename_i z;rw[f? z];have:=w? c;refine j' ?_;show Y.en<=((za (dG Y.bd (bb o) h) (bb o)).length:i_);rw[JG,j_ a_,r_];show Y.en<=(((za Y.bd (bb o)).length+1:j?):i_);lia
theorem Cf (Y:Wd)(h:i_)(o:O):(Y.bW h o).bd=(Y.put h o).1.bd:=by unfold Wd.bW;split<;>rfl
theorem QV {Y:Wd}{h:i_}{o u:O}(c:Y.carried u=true):(Y.bW h o).carried u=true:=by have:=jyf Y h o u c;unfold Wd.carried at this⊢;rw[Cf,(Ce Y h o).e,<-(Cd Y h o).e];exact this
structure WG (Y:Wd)(L:b? O)(hb:b? i_):Prop where
 b:kF L hb Y.bd
 y:∀x∈Y.way,x.2.2∈L/\x.2.1∈Y.ks.map (·.1)/\(x.1=false->Y.carried x.2.2=true)
theorem WG.bW {Y:Wd}{L:b? O}{hb:b? i_}{h:i_}{o:O}(g:WG Y L hb)(ol:o∈L)(hh:h∈hb):WG (Y.bW h o) L hb/\(Y.bW h o).way.length<=Y.way.length+Y.ks.length:=by
 have pb:kF L hb (Y.put h o).1.bd/\(Y.put h o).1.way=Y.way/\(Y.put h o).1.ks=Y.ks:=by
  unfold Wd.put;split
  .exact⟨g.b,a_,a_⟩
  .rename_i hn;exact⟨g.b.sign ol hh hn,a_,a_⟩
 have lk:=Ce Y h o;have old:∀x∈Y.way,x.2.2∈L/\x.2.1∈(Y.bW h o).ks.map (·.1)/\(x.1=false->(Y.bW h o).carried x.2.2=true):=λx hx=>by obtain⟨a,b,c⟩:=g.y x hx;exact⟨a,by rw[lk.k];exact b,λe=>QV (c e)⟩
 by_cases z:(Y.put h o).2=true
 .have ew:(Y.bW h o).way=Y.way++Y.ks.map λc=>(false,c.1,o):=by
   unfold Wd.bW;rw[j_ z];show(Y.put h o).1.way++_=_;rw[pb.2.1,pb.2.2]
  refine⟨⟨by rw[Cf];exact pb.1,λx hx=>?_⟩,by rw[ew,r_,i?];exact s_ _⟩;rw[ew]at hx;rcases A_.mp hx with hx|hx
  .exact old x hx
  .obtain⟨c,hc,rfl⟩:=O_.mp hx;refine⟨ol,by rw[lk.k];exact N_ hc,λ_=>?_⟩;have:=j8n z;unfold Wd.carried at this⊢;rw[Cf,lk.e,<-(Cd Y h o).e];exact this
 .have ew:(Y.bW h o).way=Y.way:=by
   unfold Wd.bW;rw[f? z,pb.2.1]
  exact⟨⟨by rw[Cf];exact pb.1,λx hx=>old x (by rw[<-ew];exact hx)⟩,by rw[ew];lia⟩
theorem WG.xr {L:b? O}{hb:b? i_}{h:i_}(hh:h∈hb):∀{os:b? O}{Y:Wd},(∀o∈os,o∈L)->WG Y L hb->WG (Y.xr h os) L hb/\Y.lJ (Y.xr h os)/\(∀u,Y.carried u=true->(Y.xr h os).carried u=true)/\(Y.xr h os).way.length<=Y.way.length+Y.ks.length*os.length
 |[],Y,_,g=>⟨g,⟨a_,a_,a_,a_,a_⟩,λ_ h=>h,s_ _⟩
 |o::os,Y,ol,g=>by obtain⟨g1,l1⟩:=g.bW (ol o t?) hh;have lk:=Ce Y h o;obtain⟨g2,k2,c2,l2⟩:=WG.xr hh (os:=os) (Y:=Y.bW h o) (λo' h'=>ol o' (u_ _ h')) g1;refine⟨g2,lk.trans k2,λu hu=>c2 u (QV hu),?_⟩;show((Y.bW h o).xr h os).way.length<=_;rw[lk.k]at l2;rw[E?,j?.mul_succ];lia
structure Gn (Y:Wd)(T M:j?)(L:b? O)(ls ns:b? i_):Prop where
 ok:Y.Ok
 l:L.length<=T
 lo:∀o∈L,vp Y.n o=true
 mw:∀o∈L,Y.may o
 ks:∀c∈Y.ks,df L T Y.n c.2/\KX Y.n ns c.2
 g:WG Y L (Y.ks.map (·.1)++ls)
 wl:Y.way.length<=M
 al:∀row∈Y.asked,row.length<=T
 e1:1<=Y.en
theorem kF.mono {L L':b? O}{hs:b? i_}{is:yz}(b:kF L hs is)(h:∀o∈L,o∈L'):kF L' hs is:=⟨b.nd,λx hx=>let⟨o,a,c⟩:=b.ks x hx;⟨o,h o a,c⟩,b.hn⟩
section
variable {Y:Wd}{T M T' M':j?}{L:b? O}{ls ns:b? i_}
theorem Gn.mono (g:Gn Y T M L ls ns)(hT:T<=T')(hM:M<=M'):Gn Y T' M' L ls ns:=⟨g.ok,K? g.l hT,g.lo,g.mw,λc hc=>⟨(g.ks c hc).1.mono (λ_ h=>h) hT,(g.ks c hc).2⟩,g.g,K? g.wl hM,λrow hr=>K? (g.al row hr) hT,g.e1⟩
theorem Gn.QW (g:Gn Y T M L ls ns){b:s?}{h:i_}{o:O}(ol:o∈L)(hh:h∈Y.ks.map (·.1))(hb:b=false->Y.carried o=true):Gn {Y with way:=Y.way++[(b,h,o)]} T (M+1) L ls ns:=by
 refine⟨⟨g.ok.n8,g.ok.al,g.ok.ao,g.ok.ks,g.ok.nd,g.ok.k0,g.ok.k1⟩,g.l,g.lo,g.mw,g.ks,⟨g.g.b,λx hx=>?_⟩,?_,g.al,g.e1⟩
 .rcases A_.mp (show x∈Y.way++[(b,h,o)]from hx)with hx|hx
  .exact g.g.y x hx
  .rw[m?.mp hx];exact⟨ol,hh,hb⟩
 .show(Y.way++[(b,h,o)]).length<=M+1;rw[r_];have:=g.wl;show Y.way.length+1<=M+1;lia
theorem Gn.more (g:Gn Y T M L ls ns){o:O}(ho:vp Y.n o=true)(hm:Y.may o):Gn Y (T+1) M (o::L) ls ns:=by
 have sub:∀u∈L,u∈o::L:=λu h=>u_ _ h;refine⟨g.ok,by rw[E?];have:=g.l;lia,λu hu=>?_,λu hu=>?_,λc hc=>⟨(g.ks c hc).1.mono sub (by lia),(g.ks c hc).2⟩,⟨g.g.b.mono sub,λx hx=>?_⟩,g.wl,λrow hr=>Ã (g.al row hr),g.e1⟩
 .rcases B_.mp hu with rfl|hu
  .exact ho
  .exact g.lo u hu
 .rcases B_.mp hu with rfl|hu
  .exact hm
  .exact g.mw u hu
 .obtain⟨a,b,c⟩:=g.g.y x hx;exact⟨sub _ a,b,c⟩
theorem Gn.qbz (g:Gn Y T M L ls ns){o:O}{h:i_}(ho:vp Y.n o=true)(hm:o.p∈Y.fF)(hh:h∈Y.ks.map (·.1)):Gn {Y with way:=Y.way++[(true,h,o)]} (T+1) (M+1) (o::L) ls ns:=(g.more ho (.inl hm)).QW t? hh (λz=>by cases z)
theorem Gn.xr (g:Gn Y T M L ls ns){h:i_}(hh:h∈Y.ks.map (·.1)++ls){os:b? O}(ol:∀o∈os,o∈L):Gn (Y.xr h os) T (M+16*os.length) L ls ns:=by
 obtain⟨g2,lk,cc,l2⟩:=WG.xr hh ol g.g;refine⟨⟨by rw[lk.n];exact g.ok.n8,by rw[lk.a,lk.n];exact g.ok.al,by rw[lk.a,lk.n];exact g.ok.ao,by rw[lk.k,lk.n];exact g.ok.ks,by rw[lk.k];exact g.ok.nd,by rw[lk.k];exact g.ok.k0,by rw[lk.k];exact g.ok.k1⟩,g.l,by rw[lk.n];exact g.lo,λo ho=>?_,?_,by rw[lk.k];exact g2,?_,by rw[lk.a];exact g.al,by rw[lk.e];exact g.e1⟩
 .have:=g.mw o ho;unfold Wd.may at this⊢;rw[lk.c,lk.a];exact this
 .rw[lk.k,lk.n];exact λc hc=>⟨(g.ks c hc).1,(g.ks c hc).2⟩
 .refine K? l2 ?_;have h1:=g.wl;have h2:=j?.mul_le_mul_right os.length g.ok.k1;lia
theorem Gn.xQ (g:Gn Y T M L ls ns){i:j?}{l:s?×i_×O}{B:Kp}(el:Y.way[i]?=some l)(ek:Y.keep l.2.1=some B):Gn (Y.xQ i l B) (T+1) (M+16*(T+1)) L ls ns:=by
 obtain⟨lL,lh,lc⟩:=g.g.y l (r? el);obtain⟨κ',QX,km⟩:=yD lh;rw[ek]at QX;cases QX;obtain⟨kk,kx⟩:=g.ks _ km;obtain⟨k1,k2,k3⟩:=kk.take l.1 lL (g.lo _ lL);have kx1:=kx.take kk.ok l.1 (g.lo _ lL);have hZ:(cO Y.ks l.2.1 (B.take l.1 l.2.2).1).map (·.1)=Y.ks.map (·.1):=by
  unfold cO;rw[Ÿ];refine Ę λc _=>?_;show(if c.1=l.2.1 then(l.2.1,(B.take l.1 l.2.2).1)else c).1=c.1;split
  .rename_i z;exact z.symm
  .rfl
 have QY:∀c∈cO Y.ks l.2.1 (B.take l.1 l.2.2).1,df L (T+1) Y.n c.2/\KX Y.n ns c.2:=λc hc=>by
  obtain⟨c',il,rfl⟩:=O_.mp hc;split
  .exact⟨k1,kx1⟩
  .exact⟨(g.ks c' il).1.mono (λ_ h=>h) (by lia),(g.ks c' il).2⟩
 have mid:Gn {Y with way:=Y.way.eraseIdx i,ks:=cO Y.ks l.2.1 (B.take l.1 l.2.2).1} (T+1) M L ls ns:=by refine⟨⟨g.ok.n8,g.ok.al,g.ok.ao,λc hc=>(QY c hc).1.ok,by show((cO Y.ks l.2.1 _).map _).Nodup;rw[hZ];exact g.ok.nd,by show 0<(cO _ _ _).length;rw[BS];exact g.ok.k0,by show(cO _ _ _).length<=16;rw[BS];exact g.ok.k1⟩,Ã g.l,g.lo,g.mw,QY,?_,K? (č _ _) g.wl,λrow hr=>Ã (g.al row hr),g.e1⟩;show WG _ L ((cO Y.ks l.2.1 _).map (·.1)++ls);rw[hZ];refine⟨g.g.b,λx hx=>?_⟩;obtain⟨a,b,c⟩:=g.g.y x (b?.mem_of_mem_eraseIdx hx);exact⟨a,by show _∈(cO Y.ks l.2.1 _).map (·.1);rw[hZ];exact b,c⟩
 have q:=mid.xr (h:=l.2.1) (by show _∈(cO Y.ks l.2.1 _).map (·.1)++ls;rw[hZ];exact X_ _ lh) k2;exact q.mono (s_ _) (by have:=j?.mul_le_mul_left 16 k3;lia)
theorem Gn.ask (g:Gn Y T M L ls ns)(hT:T<=90){p g' m:i_}{row:b? O}(hp:0<=p/\p<(Y.n:i_))(hg:0<=g'/\g'<(Y.n:i_))(ng:g'≠p)(hm:1<=m/\m<=1000)(er:Y.asked[p.toNat]?=some row):Gn (Y.asks ⟨p,row.length,g',m⟩ row) (T+1) (M+16) (⟨p,row.length,g',m⟩::L) ls ns:=by
 have lr:=g.al row (r? er);have lp:=(xv.mp er).1;have ho:vp Y.n ⟨p,row.length,g',m⟩=true:=qQ.mpr ⟨hp.1,by show p<=(Y.n:i_)-1;lia,hg.1,by show g'<=(Y.n:i_)-1;lia,λz=>ng z.symm,by show(0:i_)<=row.length;lia,by show(row.length:i_)<=99;lia,hm.1,hm.2⟩;have sub:∀o∈L,o∈(⟨p,row.length,g',m⟩:O)::L:=λo h=>u_ _ h;have mid:Gn {Y with asked:=Y.asked.set p.toNat (row++[⟨p,row.length,g',m⟩])} T M L ls ns->Gn {Y with asked:=Y.asked.set p.toNat (row++[⟨p,row.length,g',m⟩])} T M L ls ns:=id;refine⟨⟨g.ok.n8,by show(Y.asked.set _ _).length=Y.n;rw[aaX];exact g.ok.al,λr hr o aQ=>?_,g.ok.ks,g.ok.nd,g.ok.k0,g.ok.k1⟩,by rw[E?];have:=g.l;lia,λo h=>?_,λo h=>?_,λc hc=>⟨(g.ks c hc).1.mono sub (by lia),(g.ks c hc).2⟩,⟨g.g.b.mono sub,λx hx=>?_⟩,?_,λr hr=>?_,g.e1⟩
 .rcases Ř (show r∈Y.asked.set p.toNat (row++[⟨p,row.length,g',m⟩])from hr)with hr|rfl
  .exact g.ok.ao r hr o aQ
  .rcases A_.mp aQ with h|h
   .exact g.ok.ao row (r? er) o h
   .rw[m?.mp h];exact ho
 .rcases B_.mp h with rfl|h
  .exact ho
  .exact g.lo o h
 .show o.p∈Y.fF\/∃mR,(Y.asked.set p.toNat (row++[⟨p,row.length,g',m⟩]))[o.p.toNat]?=some mR/\o∈mR;rcases B_.mp h with rfl|h
  .exact .inr ⟨_,Ç lp,C_ _ (m?.mpr a_)⟩
  .rcases g.mw o h with h|⟨mR,e,h⟩
   .exact .inl h
   .by_cases z:o.p.toNat=p.toNat
    .rw[z]at e⊢;rw[er]at e;cases e;exact .inr ⟨_,Ç lp,X_ _ h⟩
    .exact .inr ⟨mR,by rw[ċ (λy=>z y.symm)];exact e,h⟩
 .rcases A_.mp (show x∈Y.way++Y.ks.map λc=>(true,c.1,(⟨p,row.length,g',m⟩:O))from hx)with ft|ft
  .obtain⟨a,b,c⟩:=g.g.y x ft;exact⟨sub _ a,b,c⟩
  .obtain⟨c,hc,rfl⟩:=O_.mp ft;exact⟨t?,N_ hc,λz=>by cases z⟩
 .show(Y.way++Y.ks.map λc=>(true,c.1,(⟨p,row.length,g',m⟩:O))).length<=M+16;rw[r_,i?];have:=g.wl;have:=g.ok.k1;lia
 .rcases Ř (show r∈Y.asked.set p.toNat (row++[⟨p,row.length,g',m⟩])from hr)with hr|rfl
  .exact Ã (g.al r hr)
  .rw[r_];show row.length+1<=T+1;lia
theorem Gn.row (g:Gn Y T M L ls ns){p:i_}(h0:0<=p)(h1:p<(Y.n:i_)):∃row,Y.asked[p.toNat]?=some row:=⟨_,n? (by rw[g.ok.al];lia)⟩
theorem Gn.sz (g:Gn Y T M L ls ns):Sz Y L.length (Y.ks.length+ls.length) M:=by obtain⟨b1,b2⟩:=g.g.b.len;refine⟨b1,λx hx=>?_,g.wl,g.ok.k1⟩;have:=b2 x hx;rwa[r_,i?]at this
end
theorem qcz {h f:i_}{ns cs ls:b? i_}(h1:1<=h/\h<=16)(hf:0<=f)(lt:3*f<h)(l8:ns.length<=8)(n0:∀x∈ns,0<=x)(ll:(ls.length:i_)<=f)(lr:∀x∈ls,0<=x/\x<h):Gn (w0 h f ns cs ls) 0 0 [] ls ns:=by
 have ek:(w0 h f ns cs ls).ks.map (·.1)=bo ls h.toNat:=by show((bo ls h.toNat).map λi=>(i,kD ns)).map (·.1)=_;rw[Ÿ];exact map_id _
 have yE:∀c∈(w0 h f ns cs ls).ks,c.2=kD ns:=λc hc=>by obtain⟨i,_,rfl⟩:=O_.mp (show c∈(bo ls h.toNat).map λi=>(i,kD ns)from hc);rfl
 have lk:(w0 h f ns cs ls).ks.length=(bo ls h.toNat).length:=i? ..;have eV:df [] 0 ns.length (kD ns):=⟨⟨a_,by show(l' _ _).length=_;rw[W?],λ_ z=>(by cases z),λ_ z=>(by cases z),acS⟩,⟨s_ _,s_ _,s_ _⟩,λ_ z=>(by cases z),λ_ z=>(by cases z)⟩;have kx:KX ns.length ns (kD ns):=by
  refine⟨n0,a_,λp p0 p1=>?_⟩;have e:gI (kD ns).zm p=0:=by unfold gI;show((l' ns.length (0:i_))[p.toNat]?).getD 0=0;rw[acz];split<;>rfl
  rw[e];rfl
 have cn:(bo ls h.toNat).Nodup:=by unfold bo;exact afE _ (aak _ (λa b kX z=>kX (i_.ofNat.inj z)) abG)
 have c1:0<(bo ls h.toNat).length:=by
  have hl:((U_ h.toNat).map λ(i:j?)=>(i:i_)).length<=(bo ls h.toNat).length+ls.length:=by
   rw[<-r_];refine tq (aak _ (λa b kX z=>kX (i_.ofNat.inj z)) abG) λx hx=>?_;by_cases z:x∈ls
   .exact C_ _ z
   .exact X_ _ (Č.mpr ⟨hx,by simp[z]⟩)
  rw[i?,Ź]at hl;lia
 have c2:=Jw ls h.toNat;refine⟨⟨l8,by show(l' _ _).length=_;rw[W?];rfl,λrow hr o ho=>?_,λc hc=>by rw[yE c hc];exact eV.ok,by rw[ek];exact cn,by rw[lk];exact c1,by rw[lk];lia⟩,s_ _,λ_ z=>(by cases z),λ_ z=>(by cases z),λc hc=>by rw[yE c hc];exact⟨eV,kx⟩,⟨⟨acS,λ_ z=>(by cases z),λ_ z=>(by cases z)⟩,λ_ z=>(by cases z)⟩,s_ _,λrow hr=>?_,by show 1<=h-f;lia⟩
 .have:row=[]:=ÿ hr;subst this;cases ho
 .have:row=[]:=ÿ hr;subst this;exact s_ _
noncomputable def yF (Z:aq)(To R:c_):Prop:=Z To=some (9,.own 0)/\Z R=some (9,.own 1)
noncomputable def dI:Role->Prop:=λr=>r=(9,.own 0)\/r=(9,.own 1)
theorem JH {Z:aq}{H H':Hp}{To R:c_}(tr:yF Z To R)(k:lB To R H H'):Fr (dI) Z H Z H':=λa u e n=>⟨k a u e (λz=>n (9,.own 0) (z ▸ tr.1) (.inl a_)) (λz=>n (9,.own 1) (z ▸ tr.2) (.inr a_)),a_⟩
theorem QZ {Z:aq}{H H':Hp}{To R:c_}(kr:aw Z H)(hT:dv To R H')(k:lB To R H H'):aw Z H':=λa r e=>by
 obtain⟨row,c,t1,t2,_⟩:=hT;by_cases z:a=To
 .subst z;exact⟨_,t1,q_⟩
 .by_cases y:a=R
  .subst y;exact⟨_,t2,q_⟩
  .obtain⟨u,hu,nu⟩:=kr a r e;exact⟨u,k a u hu z y,nu⟩
theorem jzy {α:Type}{K:e?}{H:Hp}{F:α->Dt}{R:V->α->Prop}(h:∀x a,R x a->aH K H (F a) x):∀{xs:b? V}{as:b? α},g? R xs as->gu K H (as.map F) xs:=λ{xs as} q=>by
 induction q with
 |nil=>rw[ī,gu]
 |cons a t ih=>rw[y?,gu];exact(xa0 _ _ ⟨a_,h _ _ a,ih⟩)
theorem aw.aB {Z:aq}{H:Hp}{a:c_}{r:Role}{u:HO}(k:aw Z H)(h:H a=some u)(n:oE u):aw (aB Z a r) H:=λb r' e=>by
 by_cases z:b=a
 .subst z;exact⟨u,h,n⟩
 .rw[qv z]at e;exact k b r' e
noncomputable def Un (H:Hp)(Z:aq)(a:c_)(xs:b? V):Prop:=H a=some (.lst xs)/\Z a=none
theorem Un.fr {P:Role->Prop}{Z Z':aq}{H H':Hp}{a:c_}{xs:b? V}(f:Fr P Z H Z' H')(h:Un H Z a xs):Un H' Z' a xs:=dS f h.1 h.2
theorem rj {P:Role->Prop}{Z Z':aq}{H H':Hp}{To R:c_}(f:Fr P Z H Z' H')(n0:¬P (9,.own 0))(n1:¬P (9,.own 1))(h:dv To R H)(tr:yF Z To R):dv To R H'/\yF Z' To R:=by obtain⟨row,c,t1,t2,t3⟩:=h;obtain⟨a1,a2⟩:=cq f t1 tr.1 n0;obtain⟨a3,a4⟩:=cq f t2 tr.2 n1;exact⟨(xa0 row c ⟨a1,a3,t3⟩),a2,a4⟩
theorem qb4 {id:j?}(h:id≠9)(p:Part):¬dI (id,p):=λz=>h (by rcases z with z|z<;>exact(Ô z).1)
theorem Q0 {H:Hp}{x dx:c_}{C:c_}(nx:H x=none)(Cg:H dx=none)(ne:dx≠x){Z:aq}{r:Role}(kr:aw Z H):Fr (λ_=>v?) Z H (aB Z x r) (upd (upd H dx (.own x)) x (.ins C dx []))/\aw (aB Z x r) (upd (upd H dx (.own x)) x (.ins C dx [])):=by
 have nx1:upd H dx (.own x) x=none:=by rw[jd ne.symm];exact nx
 exact⟨(Fr.same (jg Cg)).trans (Fr.bY nx1),(kr.same (jg Cg)).bY⟩
theorem qo.same {t:Ad}{H H':Hp}{Z:aq}{id:j?}{W:WA}{w:Wd}(s:xf H H')(O:qo t H Z id W w):qo t H' Z id W w:=O.fr (P:=λ_=>v?) (λ_ z=>z) (Fr.same s)
structure Pt where
 ns:b? i_
 cs:b? i_
 ls:b? i_
 hs:b? i_
structure Pt.Ok (p:Pt):Prop where
 l2:2<=p.ns.length
 l8:p.ns.length<=8
 c:∀k∈p.cs,0<=k/\k<(p.ns.length:i_)
 cl:p.cs.length<=1000
 ll:p.ls.length<=5
 h0:0<p.hs.length
 h1:p.hs.length<=16
structure Wl (t:Ad)(H:Hp)(Z:aq)(W:WA)(Y:Wd)(T:j?)(p:Pt):Prop where
 o:qo t H Z 0 W Y
 kr:aw Z H
 ly:H W.ly=some (.lst (p.ls.map V.int))/\Z W.ly=none
 g:∃L,Gn Y T (1000*T) L p.ls p.ns
 n:Y.n=p.ns.length
 c:Y.fF=p.cs
 h:Y.ks.map (·.1)=p.hs
 aJ:W.aJ=p.ns.sum
section
variable {t:Ad}{H H':Hp}{Z Z':aq}{W:WA}{Y Y':Wd}{T:j?}{p:Pt}{P:Role->Prop}{To R:c_}
theorem Wl.fr (f:Fr P Z H Z' H')(hP:∀q,¬P (0,q))(kr:aw Z' H')(w:Wl t H Z W Y T p):Wl t H' Z' W Y T p:=⟨w.o.fr hP f,kr,dS f w.ly.1 w.ly.2,w.g,w.n,w.c,w.h,w.aJ⟩
theorem Wl.wait (w:Wl t H Z W Y T p):Wl t H Z W Y (T+1) p:=⟨w.o,w.kr,w.ly,let⟨L,g⟩:=w.g;⟨L,g.mono (by lia) (by lia)⟩,w.n,w.c,w.h,w.aJ⟩
structure Sw (t:Ad)(H:Hp)(Z:aq)(W:WA)(Y:Wd)(T:j?)(p:Pt)(To R:c_):Prop where
 w:Wl t H Z W Y T p
 tn:dv To R H
 tr:yF Z To R
theorem Sw.same (s:xf H H')(x:Sw t H Z W Y T p To R):Sw t H' Z W Y T p To R:=⟨x.w.fr (P:=λ_=>v?) (Fr.same s) (λ_ z=>z) (x.w.kr.same s),x.tn.same s,x.tr⟩
theorem Sw.draw (x:Sw t H Z W Y T p To R)(hT:dv To R H')(k:lB To R H H'):Sw t H' Z W Y T p To R/\Fr dI Z H Z H':=⟨⟨x.w.fr (JH x.tr k) (qb4 (by decide)) (QZ x.w.kr hT k),hT,x.tr⟩,JH x.tr k⟩
theorem Sw.wait (x:Sw t H Z W Y T p To R):Sw t H Z W Y (T+1) p To R:=⟨x.w.wait,x.tn,x.tr⟩
noncomputable def rm:Role->Prop:=λr=>r.1=0\/dI r
theorem Sw.go (x:Sw t H Z W Y T p To R)(f:Fr P Z H Z' H')(hP:∀r,P r->r.1=0){T2:j?}(w:Wl t H' Z' W Y' T2 p):Sw t H' Z' W Y' T2 p To R/\Fr rm Z H Z' H':=by obtain⟨a,b⟩:=rj f (λz=>by cases hP _ z) (λz=>by cases hP _ z) x.tn x.tr;exact⟨⟨w,a,b⟩,f.mono λr z=>.inl (hP r z)⟩
theorem rn (f:Fr dI Z H Z' H'):Fr rm Z H Z' H':=f.mono λ_ z=>.inr z
end
noncomputable def JI (t:Ad)(H:Hp)(Z:aq)(W:WA)(T:j?)(p:Pt)(To R:c_)(Q:VK):Prop:=∀Z' H' Y' v,Sw t H' Z' W Y' (T+1) p To R->Fr rm Z H Z' H'->Q v H'
structure Ps (H:Hp)(Z:aq)(pa x:c_)(bo few:i_)(fo ho be ro:c_)(p:Pt):Prop where
 tp:H pa=some (.tup [.ref x,.int bo,.int few,.ref fo,.ref ho,.ref be,.ref ro])/\Z pa=none
 fo:Un H Z fo (p.ls.map V.int)
 ho:Un H Z ho (p.hs.map V.int)
 be:Un H Z be (p.ns.map V.int)
 ro:Un H Z ro (p.cs.map V.int)
theorem Ps.fr {P:Role->Prop}{Z Z':aq}{H H':Hp}{pa x fo ho be ro:c_}{bo few:i_}{p:Pt}(f:Fr P Z H Z' H')(h:Ps H Z pa x bo few fo ho be ro p):Ps H' Z' pa x bo few fo ho be ro p:=⟨dS f h.tp.1 h.tp.2,h.fo.fr f,h.ho.fr f,h.be.fr f,h.ro.fr f⟩
theorem Un.neT {t:Ad}{H:Hp}{Z:aq}{W:WA}{Y:Wd}{T:j?}{p:Pt}{To R a:c_}{xs:b? V}(u:Un H Z a xs)(x:Sw t H Z W Y T p To R):a≠To/\a≠R:=⟨BL u.2 x.tr.1,BL u.2 x.tr.2⟩
noncomputable def j8r (K:e?):Sp:=λvs H Q _=>∃(a:c_)(ns:b? i_),vs=[.ref a]/\ah K H a (ns.map V.int)/\∀T R H',H T=none->H R=none->xf H H'->dv T R H'->Q (.ref T) H'
noncomputable def j7s:Sp:=λvs H Q _=>∃(T R:c_)(m:i_),vs=[.ref T,.int m]/\dv T R H/\1<=m/\m<1073741824/\∀d H',0<=d->d<m->dv T R H'->lB T R H H'->Q (.int d) H'
noncomputable def Q1:Sp:=λvs H Q _=>∃(T R S:c_)(xs:b? V),vs=[.ref T,.ref S]/\dv T R H/\H S=some (.lst xs)/\S≠T/\S≠R/\0<xs.length/\xs.length<=1000000/\∀(i:j?)(x:V)(H':Hp),xs[i]?=some x->dv T R H'->lB T R H H'->Q x H'
theorem jw2 (T:Txt K mg t):zu P w K mg base CX0 1 t.Hu t.Hv ["_law_script"] (j8r K):=by
 refine T.OV.aZ (N:=["_law_script"]) λ_ A _ s H vs Q E hr h=>?_;obtain⟨a,ns,rfl,ha,k⟩:=h;refine⟨_,(@je _ _ _ (j5 (@zj _ _ _ _ (@ye _ _ _ _ _ (zK (ju (ou (K:=K) a_ hr.units) (pv 0) (@zj _ _ _ _ jf) (qc _)) (y4 we a_ T.mD boot_list (jc (pv 0) jf)) (@zj _ _ _ _ (jc jn jf))) jn a_ a_)))),?_⟩;refine⟨_,a_,cz,λp hp=>?_⟩;have s1:=jg (o:=.lst []) hp;refine(xa2 a _ p ns.length ⟨a_,a_,s1.seq ha,ah.of ja,i? ..,_,a_,?_⟩);refine bh (λh1=>?_) (λh1=>?_)
 .have ne:ns≠[]:=λz=>by rw[z]at h1;cases h1
  refine⟨_,a_,xa0 a _ ⟨a_,.inl (s1.seq ha),λR hR=>?_⟩⟩;refine⟨oy,λT' hT=>?_⟩;have s2:=s1.trans (jg (o:=.lst (ns.map V.int)) hR);have JJ:R≠T':=jh ja hT;refine k T' R _ (s2.free hT) (s1.free hR) (s2.trans (jg hT)) (xa0 ns 0 ⟨ja,by rw[jd JJ,ja],?_⟩);cases ns with
  |nil=>exact v_ a_ ne
  |cons x r=>exact afz _
 .refine⟨iU,λR hR=>?_⟩;refine⟨oy,λT' hT=>?_⟩;have s2:=s1.trans (jg (o:=.lst [.int 0]) hR);have JJ:R≠T':=jh ja hT;exact k T' R _ (s2.free hT) (s1.free hR) (s2.trans (jg hT)) (xa0 [0] 0 ⟨ja,by rw[jd JJ,ja];rfl,j?.one_pos⟩)
theorem qb (T:Txt K mg t):zu P w K mg base CX0 1 t.Hw t.Hx ["_law_town_here","_law_many"] j7s:=by
 refine T.qd.dO sM λ_ A _ s H vs Q E hr h=>?_;obtain⟨To,R,m,rfl,hT,m1,m2,k⟩:=h;have Q2:=hT.ne;obtain⟨row,c,h1,h2,h3⟩:=hT;refine⟨_,(@jb _ _ _ _ _ (j9 (i:=2) sM.nd a_ (w_ a_) (cx gT (pv 0) jn (λ_ _=>a_))) (@jb _ _ _ _ _ (lU (xa ir (cx gT (pv 0) jn (λ_ _=>a_)) jn) (KR (pv 0) jn set_list)) (@jb _ _ _ _ _ (j9 (i:=3) sM.nd a_ (w_ a_) (xa lY (cx gT (pv 0) jn (λ_ _=>a_)) (jl jt a_ T.cB boot_len (jc (pv 2) jf)))) (@jb _ _ _ _ _ (j9 (i:=4) sM.nd a_ (w_ a_) (cx gT (pv 2) (pv 3) (λ_ _=>a_))) (@jb _ _ _ _ _ (zo (ju DD (pv 4) jn (qc _)) (@jb _ _ _ _ _ (lU (xa DC (pv 4) (pv 1)) (KR (pv 2) (pv 3) set_list)) (@je _ _ _ (j5 (xa lY (pv 4) (pv 1))))) qe) (@jb _ _ _ _ _ (j9 (i:=5) sM.nd a_ (w_ a_) (xa lY (xa ir (pv 4) (xa zT jn (cx gT (pv 0) jn (λ_ _=>a_)))) jn)) (@jb _ _ _ _ _ (j9 (i:=5) sM.nd a_ (w_ a_) (xa lY (xa Ti (pv 5) jn) jn)) (@je _ _ _ (j5 (xa lY (xa DC (xa lY (xa ir (xa zT (xa DC (pv 5) jn) jn) (pv 5)) jn) jn) (pv 1))))))))))),?_⟩;refine⟨_,a_,xa2 To _ 0 (.ref R) ⟨a_,a_,ah.of h1,a_,?_⟩⟩;refine⟨_,a_,xa2 To _ 1 (.int c) ⟨a_,a_,ah.of h1,a_,xa0 _ _ ⟨a_,a_,?_⟩⟩⟩;refine⟨_,a_,xa2 To _ 1 1 ⟨a_,a_,h1,a_,?_⟩⟩;have g1:(upd H To (.lst ([V.ref R,V.int c].set 1 (V.int (c+1))))) To=some (.lst [.ref R,.int (c+1)]):=ja;have g2:(upd H To (.lst ([V.ref R,V.int c].set 1 (V.int (c+1))))) R=some (.lst (row.map V.int)):=by rw[jd Q2.symm];exact h2
 have kp:lB To R H (upd H To (.lst ([V.ref R,V.int c].set 1 (V.int (c+1))))):=λb o e n1 _=>by rw[jd n1];exact e
 generalize upd H To (.lst ([V.ref R,V.int c].set 1 (V.int (c+1))))=H1 at g1 g2 kp;have hl:(0:i_)<((row.map V.int).length:i_):=by rw[i?];omega
 refine⟨_,a_,xa2 To _ 1 (.int (c+1)) ⟨a_,a_,ah.of g1,a_,_,a_,xa0 R _ ⟨a_,.inl (ah.of g2),xa0 _ _ ⟨a_,a_,hl,?_⟩⟩⟩⟩;rw[i?]at hl⊢;have b0:0<=(c+1)%(row.length:i_):=Ĺ _ (by omega);have b1:(c+1)%(row.length:i_)<(row.length:i_):=Đ _ hl;have b2:((c+1)%(row.length:i_)).toNat<row.length:=by omega
 refine⟨_,a_,_,a_,xa2 R _ ((c+1)%(row.length:i_)) _ ⟨a_,a_,ah.of g2,mE b0 (get_map b2),?_⟩⟩;refine⟨_,a_,xa0 _ _ ⟨a_,a_,_,a_,?_⟩⟩;refine bh (λh5=>?_) (λh5=>?_)
 .refine⟨_,a_,_,a_,xa0 _ _ ⟨a_,a_,⟨by omega,m2⟩,?_⟩⟩;refine⟨_,a_,_,a_,xa2 R _ ((c+1)%(row.length:i_)) _ ⟨a_,a_,g2,xD b0 (by rw[i?];exact b2),?_⟩⟩;rw[DF];refine⟨_,a_,_,a_,xa0 _ _ ⟨a_,a_,(by show(0:i_)<m;omega),?_⟩⟩;refine k _ _ (Ĺ _ (by omega)) (Đ _ (by omega)) (xa0 _ (c+1) ⟨by rw[jd Q2];exact g1,ja,by rw[aaX];exact h3⟩) λb o e n1 n2=>?_;rw[jd n2];exact kp b o e n1 n2
 .have big:∀z:i_,(z%4294967291).natAbs<2^64:=λz=>by
   have u1:=Ĺ z (show(4294967291:i_)≠0 by decide);have u2:=Đ z (show(0:i_)<4294967291 by decide);omega
  refine⟨_,a_,_,a_,xa2 To _ 1 (.int (c+1)) ⟨a_,a_,ah.of g1,a_,xa0 _ _ ⟨a_,a_,.inl ⟨by decide,by decide⟩,xa0 _ _ ⟨a_,a_,xa0 _ _ ⟨a_,a_,(by show(0:i_)<4294967291;decide),?_⟩⟩⟩⟩⟩;refine⟨_,a_,xa0 _ _ ⟨a_,a_,⟨by decide,by decide,big _⟩,xa0 _ _ ⟨a_,a_,(by show(0:i_)<4294967279;decide),?_⟩⟩⟩;refine⟨_,a_,xa0 _ _ ⟨a_,a_,⟨by decide,by decide⟩,xa0 _ _ ⟨a_,a_,.inr ⟨by decide,by decide⟩,_,a_,xa0 _ _ ⟨a_,a_,xa0 _ _ ⟨a_,a_,(by show(0:i_)<4294967231;decide),xa0 _ _ ⟨a_,a_,⟨by decide,by decide⟩,_,a_,xa0 _ _ ⟨a_,a_,(by show(0:i_)<m;omega),?_⟩⟩⟩⟩⟩⟩⟩;exact k _ _ (Ĺ _ (by omega)) (Đ _ (by omega)) (xa0 row (c+1) ⟨g1,g2,h3⟩) kp
theorem zc (T:Txt K mg t):zu P w K mg base CX0 2 t.Hy t.Hz ["_law_town_here","_law_some_here"] Q1:=by
 refine T.qz.aZ (N:=["_law_town_here","_law_some_here"]) λ_ A _ s H vs Q E hr h=>?_;obtain⟨To,R,S,xs,rfl,hT,hS,n1,n2,l0,l1,k⟩:=h;refine⟨_,(@je _ _ _ (j5 (cx gT (pv 1) (jm (qb T) hr.dn a_ T.qh T.qd.kp T.qg .nil jq (@ye _ _ _ _ _ (pv 0) (jl jt a_ T.cB boot_len (jc (pv 1) jf)) a_ a_)) (λ_ _=>a_)))),?_⟩;refine⟨_,a_,_,a_,_,a_,xa0 S xs ⟨a_,.inl (ah.of hS),xa1 To R _ ⟨a_,hT,by omega,by omega,λd H' d0 d1 tw kp=>?_⟩⟩⟩;have hd:d.toNat<xs.length:=by omega
 exact(xa2 S xs d (xs[d.toNat]) ⟨a_,a_,ah.of (kp _ _ hS n1 n2),mE d0 (by simp[hd]),k d.toNat _ H' (by simp[hd]) tw kp⟩)
noncomputable def j66:Sp:=λvs H Q _=>∃To R n m,vs=[.ref To,.int n,.int m]/\dv To R H/\0<=n/\n<=16/\∀r (ks:b? i_) H',H r=none->dv To R H'->lB To R H H'->H' r=some (.lst (ks.map V.int))->ks.Pairwise (·<·)->(∀k∈ks,0<=k/\k<n)->(ks.length:i_)<=(if 0<=m then m else 0)->Q (.ref r) H'
theorem Q3 (T:Txt K mg t):zu P w K mg base CX0 2 t.HG t.HH ["_law_town_here","_law_size","_law_most"] j66:=by
 refine T.IA.dO FE λ_ A _ s H vs Q E hr h=>?_;obtain⟨To,R,n,m,rfl,hT,n0,n6,k⟩:=h;refine⟨_,(@jb _ _ _ _ _ (@j9 _ _ 3 _ _ _ _ FE.nd a_ (w_ a_) (@zj _ _ _ _ jf) (by rfl) (by first|exact .inl a_|exact .inr rfl)) (@jb _ _ _ _ _ (pI Ŗ a_ (rP a_ T.sO (jc (pv 1) jf)) (jw (i:=4) FE.nd a_ (w_ a_)) (@je _ _ _ (zo (PW.pt (kJ (ju zU (jl jt a_ T.cB boot_len (jc (pv 3) jf)) (pv 2) (qc _)) (lS (ju eI (jm (qb T) hr.dn a_ T.qh T.qd.kp T.qg .nil jq (@ye _ _ _ _ _ (pv 0) jn a_ a_)) jn (qc _))))) (@je _ _ _ (j8 (fT A? D_ E_ y3 (pv 3) (jc (pv 4) jf)))) qe))) (@je _ _ _ (j5 (pv 3))))),?_⟩;refine⟨cz,λr hr=>?_⟩;have fr:=hT.fresh hr;have s1:=jg (o:=.lst []) hr;refine⟨_,a_,n,a_,by omega,by omega,K6 (lo:=0) (n:=n.toNat) (λi U H'=>∃(v:f_ V)(ks:b? i_),U=[some (.ref To),some (.int n),some (.int m),some (.ref r),v]/\dv To R H'/\lB To R H H'/\H' r=some (.lst (ks.map V.int))/\ks.length<=i/\(ks.length:i_)<=(if 0<=m then m else 0)/\ks.Pairwise (·<·)/\∀z∈ks,0<=z/\z<(i:i_)) (xa0 none [] ⟨a_,hT.same s1,λb o e _ _=>s1 _ _ e,ja,s_ _,(by show(0:i_)<=_;split<;>omega),.nil,λz hz=>by cases hz⟩) ?_ ?_⟩
 .rintro i U H' hi ⟨v,ks,rfl,tw,kp,yG,l,Ci,up,rg⟩
  have lm:(ks.map V.int).length=ks.length:=i? ..;refine⟨_,a_,xa0 r _ ⟨a_,.inl (ah.of yG),_,a_,xa0 _ _ ⟨a_,a_,_,a_,?_⟩⟩⟩;have old:∃(v:f_ V)(bI:b? i_),[some (.ref To),some (.int n),some (.int m),some (.ref r),some (.int (0+(i:i_)))]=[some (.ref To),some (.int n),some (.int m),some (.ref r),v]/\I?:=(xa0 _ [] ⟨a_,ad4⟩);refine bh (λh1=>?_) (λh1=>?_)
  .refine⟨_,a_,xa1 To R 3 ⟨a_,tw,by decide,by decide,λd H2 d0 d1 lK Q4=>?_⟩⟩;have mO:=Q4 _ _ yG fr.1 fr.2;have Q5:lB To R H H2:=λb o e x1 x2=>Q4 _ _ (kp b o e x1 x2) x1 x2;refine⟨a_,_,a_,bh (λh2=>?_) (λh2=>?_)⟩
   .refine⟨_,a_,.inl ⟨a_,_,ah.of mO⟩,_,a_,xa1 r _ _ ⟨a_,a_,mO,zq (by omega),?_⟩⟩;refine(xa0 _ (ks++[0+(i:i_)]) ⟨a_,?_,λb o e x1 x2=>?_,by rw[ja,H_];rfl,?_,?_,?_,λz hz=>?_⟩)
    .obtain⟨row,cc,t1,t2,t3⟩:=lK;exact(xa0 row cc ⟨by rw[jd (Í fr.1)];exact t1,by rw[jd (Í fr.2)];exact t2,t3⟩)
    .rw[jd (jh e hr)];exact Q5 b o e x1 x2
    .rw[r_];show ks.length+1<=i+1;omega
    .rw[r_];have:(ks.length:i_)<m:=by
      have:=w? h1;rw[lm]at this;exact this
     rw[j_ (by omega)];show((ks.length+1:j?):i_)<=m;omega
    .rw[aaA];refine⟨up,Ų _ _,λx hx y hy=>?_⟩;have:y=0+(i:i_):=by simpa using hy
     have:=rg x hx;omega
    .rcases A_.mp hz with y|y
     .have:=rg z y;omega
     .have:z=0+(i:i_):=by simpa using y
      omega
   .exact(xa0 _ ks ⟨a_,lK,Q5,mO,by omega,Ci,up,λz hz=>by have:=rg z hz;omega⟩)
  .exact gd (xa0 _ ks ⟨a_,tw,kp,yG,by omega,Ci,up,λz hz=>by have:=rg z hz;omega⟩)
 .rintro U H' ⟨v,ks,rfl,tw,kp,yG,l,Ci,up,rg⟩
  exact⟨_,a_,k r ks H' hr tw kp yG up (λz hz=>by have:=rg z hz;omega) Ci⟩
theorem j7g {C a0 a1 a2 a3 a4 a5 a6 a7 a8 a9 a10 a11 a12:b_}{b0 b1 b2 b3 b4 b5 b6 b7 b8 b9 eR Q6 oH:s?}(h:kinds K C [a0,a1,a2,a3,a4,a5,a6,a7,a8,a9,a10,a11,a12]=[some b0,some b1,some b2,some b3,some b4,some b5,some b6,some b7,some b8,some b9,some eR,some Q6,some oH]):K_ K C a0=some b0/\K_ K C a1=some b1/\K_ K C a2=some b2/\K_ K C a3=some b3/\K_ K C a4=some b4/\K_ K C a5=some b5/\K_ K C a6=some b6/\K_ K C a7=some b7/\
  K_ K C a8=some b8/\K_ K C a9=some b9/\K_ K C a10=some eR/\K_ K C a11=some Q6/\K_ K C a12=some oH:=by
 unfold kinds at h;simpa only[y?,ī,b?.cons.injEq,and_true]using h
noncomputable def words:b? V:=[.str "number",.str "order",.str "houses",.str "house",.str "purse",.str "letter",.str "now",.str "much",.str "paper",.str "cut",.str "text"]
noncomputable def j0u (K:e?)(t:Ad):Sp:=λvs H Q _=>∃(ea C:c_)(b0 b1 b2 b3 b4 b5 b6 b7 b8 b9 eR:s?)(x:V),vs=[.ref ea]/\H ea=some (nX ea (.ref C))/\iQ K C/\kinds K (.ref C) (asked t)=[some b0,some b1,some b2,some b3,some b4,some b5,some b6,some b7,some b8,some b9,some eR,some true,some true]/\[b0,b1,b2,b3,b4,b5,b6,b7,b8,b9,eR].count true=1/\
 words[[b0,b1,b2,b3,b4,b5,b6,b7,b8,b9,eR].idxOf true]?=some x/\∀H',xf H H'->Q x H'
set_option maxHeartbeats 0 in
theorem Q7 (T:Txt K mg t) : zu P w K mg base CX0 1 t.HE t.HF ["_law_caught"] (j0u K t):=by
 refine T.Iz.dO yn λ_ A _ s H vs Q E hr h=>?_
 obtain ⟨ea,C,b0,b1,b2,b3,b4,b5,b6,b7,b8,b9,eR,x,rfl,he,hX,hk,hc,hw,k⟩:=h
 obtain ⟨k0,k1,k2,k3,k4,k5,k6,k7,k8,k9,k10,k11,k12⟩:=j7g hk
 refine ⟨_,(@jb _ _ _ _ _ (@j9 _ _ 1 _ _ _ _ yn.nd a_ (w_ a_) (@zj _ _ _ _ (@cA _ _ _ _ _ _ _ (jl xk a_ T.jy boot_isinstance (@ye _ _ _ _ _ (pv 0) (zk (v:=.ref t.Ib) a_ T.jro a_) a_ a_)) (jl xk a_ T.jy boot_isinstance (@ye _ _ _ _ _ (pv 0) (zk (v:=.ref t.Ic) a_ T.jtm a_) a_ a_)) (jl xk a_ T.jy boot_isinstance (@ye _ _ _ _ _ (pv 0) (zk (v:=.ref t.Ie) a_ T.jrg a_) a_ a_)) a_ a_ a_)) (by rfl) (by first | exact .inl a_ | exact .inr rfl))
  (@jb _ _ _ _ _ (j9 (i:=1) yn.nd a_ (w_ a_) (xa uG (pv 1) (@zj _ _ _ _ (@cA _ _ _ _ _ _ _ (jl xk a_ T.jy boot_isinstance (@ye _ _ _ _ _ (pv 0) (zk (v:=.ref t.HZ) a_ T.jwl a_) a_ a_)) (jl xk a_ T.jy boot_isinstance (@ye _ _ _ _ _ (pv 0) (zk (v:=.ref t.xo) a_ T.Pm a_) a_ a_)) (jl xk a_ T.jy boot_isinstance (@ye _ _ _ _ _ (pv 0) (zk (v:=.ref t.Ia) a_ T.js7 a_) a_ a_)) a_ a_ a_))))
  (@jb _ _ _ _ _ (j9 (i:=1) yn.nd a_ (w_ a_) (xa uG (pv 1) (@zj _ _ _ _ (@cA _ _ _ _ _ _ _ (jl xk a_ T.jy boot_isinstance (@ye _ _ _ _ _ (pv 0) (zk (v:=.ref t.jW) a_ T.Po a_) a_ a_)) (jl xk a_ T.jy boot_isinstance (@ye _ _ _ _ _ (pv 0) (zk (v:=.ref t.vy) a_ T.Pn a_) a_ a_)) (jl xk a_ T.jy boot_isinstance (@ye _ _ _ _ _ (pv 0) (zk (v:=.ref t.HY) a_ T.jtj a_) a_ a_)) a_ a_ a_))))
  (@jb _ _ _ _ _ (j9 (i:=1) yn.nd a_ (w_ a_) (xa uG (pv 1) (@zj _ _ _ _ (@ye _ _ _ _ _ (jl xk a_ T.jy boot_isinstance (@ye _ _ _ _ _ (pv 0) (zk (v:=.ref t.HW) a_ T.jy4 a_) a_ a_)) (jl xk a_ T.jy boot_isinstance (@ye _ _ _ _ _ (pv 0) (zk (v:=.ref t.HX) a_ T.jw1 a_) a_ a_)) a_ a_))))
  (@jb _ _ _ _ _ (zo (PW.pt (eX (ju rQ (fT A? abk PySem.F.type_list_count V7 (pv 1) (jc gQ jf)) jn (qc _)) (eX (xw (zt (jl xk a_ T.jy boot_isinstance (@ye _ _ _ _ _ (pv 0) (zk (v:=.ref t.wd) a_ T.IG a_) a_ a_)))) (fQ (xw (zt (jl xk a_ T.jy boot_isinstance (@ye _ _ _ _ _ (pv 0) (lR (v:=.ty "ValueError") a_ T.jo9 ZC a_) a_ a_)))))))) (@je _ _ _ (j5 gb)) qe)
  (@jb _ _ _ _ _ (@j9 _ _ 2 _ _ _ _ yn.nd a_ (w_ a_) (@zj _ _ _ _ (@Zi _ _ _ _ _ _ _ _ _ _ _ _ _ _ _ _ _ _ _ _ _ _ _ gb gb gb gb gb gb gb gb gb gb gb a_ a_ a_ a_ a_ a_ a_ a_ a_ a_ a_)) (by rfl) (by first | exact .inl a_ | exact .inr rfl))
  (@je _ _ _ (j5 (cx gT (pv 2) (fT A? abj PySem.F.type_list_index V8 (pv 1) (jc gQ jf)) (λ_ _=>a_)))))))))),?_⟩
 refine ⟨_,a_,xa3 ea C _ _ b0 ⟨a_,he,hX,a_,k0,_,a_,xa3 ea C _ _ b1 ⟨a_,he,hX,a_,k1,_,a_,xa3 ea C _ _ b2 ⟨a_,he,hX,a_,k2,oz,λp1 h1=>?_⟩⟩⟩⟩
 have s1:=jg (o:=.lst [.bl b0,.bl b1,.bl b2]) h1
 have tD:=s1 _ _ he
 refine ⟨_,a_,_,a_,xa3 ea C _ _ b3 ⟨a_,tD,hX,a_,k3,_,a_,xa3 ea C _ _ b4 ⟨a_,tD,hX,a_,k4,_,a_,xa3 ea C _ _ b5 ⟨a_,tD,hX,a_,k5,oz,λp2 h2=>?_⟩⟩⟩⟩
 refine (xa2 p1 p2 [.bl b0,.bl b1,.bl b2] [.bl b3,.bl b4,.bl b5] ⟨a_,a_,(by rw [jd (jh ja h2)]; exact ja),ja,Ze,λp3 h3=>?_⟩)
 have s3:=(s1.trans (jg (o:=.lst [.bl b3,.bl b4,.bl b5]) h2)).trans (jg (o:=.lst ([.bl b0,.bl b1,.bl b2] ++ [.bl b3,.bl b4,.bl b5])) h3)
 have g3:(upd (upd (upd H p1 (.lst [.bl b0,.bl b1,.bl b2])) p2 (.lst [.bl b3,.bl b4,.bl b5])) p3 (.lst ([.bl b0,.bl b1,.bl b2] ++ [.bl b3,.bl b4,.bl b5]))) p3 = some (.lst [.bl b0,.bl b1,.bl b2,.bl b3,.bl b4,.bl b5]):=ja
 generalize upd (upd (upd H p1 (.lst [.bl b0,.bl b1,.bl b2])) p2 (.lst [.bl b3,.bl b4,.bl b5])) p3 (.lst ([.bl b0,.bl b1,.bl b2] ++ [.bl b3,.bl b4,.bl b5])) = H3 at s3 g3
 have tE:=s3 _ _ he
 refine ⟨_,a_,_,a_,xa3 ea C _ _ b6 ⟨a_,tE,hX,a_,k6,_,a_,xa3 ea C _ _ b7 ⟨a_,tE,hX,a_,k7,_,a_,xa3 ea C _ _ b8 ⟨a_,tE,hX,a_,k8,oz,λp4 h4=>?_⟩⟩⟩⟩
 refine (xa2 p3 p4 [.bl b0,.bl b1,.bl b2,.bl b3,.bl b4,.bl b5] [.bl b6,.bl b7,.bl b8] ⟨a_,a_,(by rw [jd (jh g3 h4)]; exact g3),ja,Zg,λp5 h5=>?_⟩)
 have s5:=(s3.trans (jg (o:=.lst [.bl b6,.bl b7,.bl b8]) h4)).trans (jg (o:=.lst ([.bl b0,.bl b1,.bl b2,.bl b3,.bl b4,.bl b5] ++ [.bl b6,.bl b7,.bl b8])) h5)
 have g5:(upd (upd H3 p4 (.lst [.bl b6,.bl b7,.bl b8])) p5 (.lst ([.bl b0,.bl b1,.bl b2,.bl b3,.bl b4,.bl b5] ++ [.bl b6,.bl b7,.bl b8]))) p5 = some (.lst [.bl b0,.bl b1,.bl b2,.bl b3,.bl b4,.bl b5,.bl b6,.bl b7,.bl b8]):=ja
 generalize upd (upd H3 p4 (.lst [.bl b6,.bl b7,.bl b8])) p5 (.lst ([.bl b0,.bl b1,.bl b2,.bl b3,.bl b4,.bl b5] ++ [.bl b6,.bl b7,.bl b8])) = H5 at s5 g5
 have oh:=s5 _ _ he
 refine ⟨_,a_,_,a_,xa3 ea C _ _ b9 ⟨a_,oh,hX,a_,k9,_,a_,xa3 ea C _ _ eR ⟨a_,oh,hX,a_,k10,oy,λp6 h6=>?_⟩⟩⟩
 refine (xa2 p5 p6 [.bl b0,.bl b1,.bl b2,.bl b3,.bl b4,.bl b5,.bl b6,.bl b7,.bl b8] [.bl b9,.bl eR] ⟨a_,a_,(by rw [jd (jh g5 h6)]; exact g5),ja,Ob,λp7 h7=>?_⟩)
 have s7:=(s5.trans (jg (o:=.lst [.bl b9,.bl eR]) h6)).trans (jg (o:=.lst ([.bl b0,.bl b1,.bl b2,.bl b3,.bl b4,.bl b5,.bl b6,.bl b7,.bl b8] ++ [.bl b9,.bl eR])) h7)
 have g7:(upd (upd H5 p6 (.lst [.bl b9,.bl eR])) p7 (.lst ([.bl b0,.bl b1,.bl b2,.bl b3,.bl b4,.bl b5,.bl b6,.bl b7,.bl b8] ++ [.bl b9,.bl eR]))) p7 = some (.lst ([b0,b1,b2,b3,b4,b5,b6,b7,b8,b9,eR].map V.bl)):=ja
 generalize upd (upd H5 p6 (.lst [.bl b9,.bl eR])) p7 (.lst ([.bl b0,.bl b1,.bl b2,.bl b3,.bl b4,.bl b5,.bl b6,.bl b7,.bl b8] ++ [.bl b9,.bl eR])) = H7 at s7 g7
 have yH:=s7 _ _ he
 have jU:true ∈ [b0,b1,b2,b3,b4,b5,b6,b7,b8,b9,eR]:=b?.count_pos_iff.mp (by rw [hc]; decide)
 generalize [b0,b1,b2,b3,b4,b5,b6,b7,b8,b9,eR] = bs at hc hw g7 jU
 refine ⟨_,a_,.inl ⟨a_,_,ah.of g7⟩,xa1 p7 bs true ⟨a_,a_,ah.of g7,a_,_,a_,?_⟩⟩
 refine bh (λz=>?_) (λ_=>?_)
 .exfalso
  rw [hc] at z
  exact v_ z (by decide)
 refine ⟨_,a_,xa3 ea C _ _ true ⟨a_,yH,hX,a_,k11,_,a_,gd ?_⟩⟩
 refine ⟨_,a_,xa3 ea C _ _ true ⟨a_,yH,hX,a_,k12,_,a_,gd ?_⟩⟩
 refine ⟨Ob,λp8 h8=>?_⟩
 have s8:=s7.trans (jg (o:=.lst words) h8)
 have g8:=(jg (o:=.lst words) h8) _ _ g7
 refine ⟨_,a_,_,a_,.inl ⟨a_,_,ah.of g8⟩,xa1 p7 bs true ⟨a_,a_,ah.of g8,jU,?_⟩⟩
 exact (xa2 p8 words _ x ⟨a_,a_,ah.of ja,mE (by omega) (by rw [Ù]; exact hw),k _ s8⟩)
theorem j11 (ks:b? (i_×Kp))(h:i_)(B:Kp):(cO ks h B).map (·.1)=ks.map (·.1):=by
 unfold cO;rw[Ÿ];refine Ę λc _=>?_;show(if c.1=h then(h,B)else c).1=c.1;split
 .rename_i z;exact z.symm
 .rfl
theorem Cj (h:i_):∀(os:b? O)(Y:Wd),Y.lJ (Y.xr h os)
 |[],Y=>⟨a_,a_,a_,a_,a_⟩
 |o::os,Y=>(Ce Y h o).trans (Cj h os (Y.bW h o))
structure Wd.JK (Y Y':Wd):Prop where
 n:Y'.n=Y.n
 c:Y'.fF=Y.fF
 h:Y'.ks.map (·.1)=Y.ks.map (·.1)
theorem Wd.lJ.eV {Y Y':Wd}(l:Y.lJ Y'):Y.JK Y':=⟨l.n,l.c,by rw[l.k]⟩
theorem j5s (Y:Wd)(i:j?)(l:s?×i_×O)(B:Kp):Y.JK (Y.xQ i l B):=by have k:=Cj l.2.1 (B.take l.1 l.2.2).2 {Y with way:=Y.way.eraseIdx i,ks:=cO Y.ks l.2.1 (B.take l.1 l.2.2).1};refine⟨k.n,k.c,?_⟩;show(Wd.xr _ _ _).ks.map _=_;rw[k.k];exact j11 _ _ _
section
variable {t:Ad}{H H':Hp}{Z Z':aq}{W:WA}{Y Y':Wd}{T:j?}{p:Pt}{P:Role->Prop}{To R:c_}{L:b? O}
theorem Wl.next (w:Wl t H Z W Y T p)(f:Fr P Z H Z' H')(O':qo t H' Z' 0 W Y')(kr:aw Z' H'){T2:j?}(g:Gn Y' T2 (1000*T2) L p.ls p.ns)(e:Y.JK Y'):Wl t H' Z' W Y' T2 p:=⟨O',kr,dS f w.ly.1 w.ly.2,⟨L,g⟩,e.n.trans w.n,e.c.trans w.c,e.h.trans w.h,w.aJ⟩
end
noncomputable def j12 (t:Ad):Sp:=λvs H Q _=>∃Z W Y T p To R,vs=[.ref To,.ref W.x]/\Sw t H Z W Y T p To R/\p.ls.length<=5/\T<=46/\JI t H Z W T p To R Q
theorem jsw (T:Txt K mg t):zu P w K mg base CX0 9 t.HM t.HN ["_law_town_here","_law_world_here"] (j12 t):=by
 refine T.O8.dO Oi λ_ A _ s H vs Q E hr h=>?_;obtain⟨Z,W,Y,T',p,To,R,rfl,S,l5,hT,k⟩:=h;refine⟨_,(@jb _ _ _ _ _ (j9 (i:=2) Oi.nd a_ (w_ a_) (jl jt a_ T.cB boot_len (jc (vg (pv 1) T.jk T.ko (Jn T) hr.dn T.Iq .nil jq) jf))) (@je _ _ _ (j5 (zK (ju tW (pv 2) jn (qc _)) (j7 (pv 1) T.jk T.jnm (jt2 T) hr.dn T.jpc .nil jq (jc (jm (qb T) hr.dn a_ T.qh T.qd.kp T.qg .nil jq (@ye _ _ _ _ _ (pv 0) (pv 2) a_ a_)) jf)) i7)))),?_⟩;obtain⟨L,g⟩:=S.w.g;have wl:=g.wl;refine⟨_,a_,xa1 W.x W.dx _ ⟨a_,S.w.o.ob.1,xn,xa2 Z 0 W Y ⟨a_,S.w.o,by omega,λr xs nr px=>?_⟩⟩⟩;have lx:xs.length=Y.way.length:=q? px;have s1:=jg (o:=.lst xs) nr;refine(xa0 r xs ⟨a_,.inl (ah.of ja),?_⟩);have S1:=S.same s1;have f1:Fr rm Z H Z (upd H r (.lst xs)):=Fr.same s1;generalize upd H r (.lst xs)=H1 at S1 f1;refine⟨_,a_,xa0 _ _ ⟨a_,a_,_,a_,bh (λz=>?_) (λz=>k Z _ Y _ S1.wait f1)⟩⟩;have pw:0<Y.way.length:=by
  have:=w? z;omega
 refine⟨_,a_,xa1 W.x W.dx _ ⟨a_,S1.w.o.ob.1,xn,_,a_,_,a_,xa1 To R (xs.length:i_) ⟨a_,S1.tn,by omega,by omega,λd H2 d0 d1 lK k2=>?_⟩⟩⟩;obtain⟨S2,f2⟩:=S1.draw lK k2;obtain⟨l,el⟩:∃l,Y.way[d.toNat]?=some l:=⟨_,n? (by omega)⟩;obtain⟨lL,lh,lc⟩:=g.g.y l (r? el);obtain⟨B,ek,km⟩:=yD lh;have kk:df L T' Y.n B:=(g.ks _ km).1;have ll:=(kk.take l.1 lL (g.lo _ lL)).2.2;have e1:=kk.sz.hd;have e2:=kk.sz.uc;have e3:=kk.sz.dw;have z0:=g.l;have z1:=g.ok.k1;have z2:=K? (show p.ls.length<=5 from l5) (show 5<=900 by decide);refine(xb1 Z 0 W Y d.toNat l B _ _ _ ⟨by rw[ĸ d0];rfl,S2.w.o,S2.w.kr,el,ek,g.ok.nd,kk.ok,g.ok.n8,g.lo _ lL,⟨by omega,by omega,by omega⟩,g.sz,by omega,by omega,by omega,λ Z' H' x O' f' mQ ux=>?_⟩);have g2:=(g.xQ el ek).mono (T':=T'+1) (M':=1000*(T'+1)) (s_ _) (by omega);obtain⟨S3,f3⟩:=S2.go f' (λ_ z=>z) (S2.w.next f' O' mQ g2 (j5s Y d.toNat l B));exact k Z' H' _ _ S3 ((f1.trans (rn f2)).trans f3)
noncomputable def j7v (t:Ad):Sp:=λvs H Q _=>∃Z W Y T p To R,Sw t H Z W Y T p To R/\T<=46/\JI t H Z W T p To R Q/\((∃pu g m,vs=[.str "ask",.ref W.x,.int pu,.int g,.int m]/\(0<=pu/\pu<(Y.n:i_))/\(0<=g/\g<(Y.n:i_))/\g≠pu/\(1<=m/\m<=1000))\/(∃h q l,vs=[.str "lie",.ref W.x,.int h,.ref q,.int 0]/\h∈p.ls/\p.ls.length<=5/\xq H Z (.ref q) l.2.2/\l∈Y.way))
set_option maxHeartbeats 0 in
theorem Q8 (T:Txt K mg t) : zu P w K mg base CX0 8 t.HK t.HL ["_law_kind","_law_world_here","_law_one","_law_two","_law_three"] (j7v t):=by
 refine T.IB.ok zg (λvs H Q E h=>?_) (λaD A outer s H vs Q E hr h=>?_)
 .obtain ⟨Z,W,Y,T',p,To,R,_,_,_,⟨pu,g,m,rfl,_⟩ | ⟨h,q,l,rfl,_⟩⟩:=h
  .rfl
  .rfl
 .obtain ⟨Z,W,Y,T',p,To,R,S,hT,k,hc⟩:=h
  obtain ⟨L,gn⟩:=S.w.g
  have xU:=gn.wl
  have O:=S.w.o
  have kr:=S.w.kr
  have old : ∀ {H' v},xf H H' -> Q v H':=λsm=>k Z _ Y _ (S.same sm).wait (Fr.same sm)
  rcases hc with ⟨pu,g,m,rfl,hp,hg,ng,hm⟩ | ⟨h,q,l,rfl,hl,l5,uq,lw⟩
  .refine ⟨_,(@jb _ _ _ _ _ (j9 (i:=5) zg.nd a_ (w_ a_) i7)
   (@jb _ _ _ _ _ (j9 (i:=6) zg.nd a_ (w_ a_) i7)
   (@jb _ _ _ _ _ (Nm (i:=7) a_ a_ a_ a_ T.IG T.Pp zg.nd a_ a_ (λ_ _=>(@je _ _ _ (zo (ju eI (pv 0) gb (qc _)) (@je _ _ _ (j9 (i:=5) zg.nd a_ (w_ a_) (Nl (pv 1) T.jk T.OM (Qs T) hr.dn T.ON .nil (@cA _ _ _ _ _ _ _ (pv 2) (pv 3) (pv 4) a_ a_ a_)))) (@je _ _ _ (zo (ju eI (pv 0) gb (qc _)) zd (@je _ _ _ (zo (ju eI (pv 0) gb (qc _)) (@je _ _ _ (j9 (i:=5) zg.nd a_ (w_ a_) (j7 (pv 1) T.jk T.Ir (JF T) hr.dn T.Iu .nil jq (@ye _ _ _ _ _ (pv 2) (pv 3) a_ a_)))) zd))))))) (λ_=>(@je _ _ _ (j9 (i:=6) zg.nd a_ (w_ a_) (pv 7)))))
   (@je _ _ _ (j5 (zK (ju Ld (pv 6) i7 (qc _)) (pv 5) (jm (Q7 T) hr.dn a_ T.OW T.Iz.kp T.OX .nil jq (jc (pv 6) jf)))))))),?_⟩
   obtain ⟨row,fG⟩:=gn.row hp.1 hp.2
   have Jr:=gn.al row (r? fG)
   refine ⟨λ U' cls dd H'=>U' = [some (.str "ask"),some (.ref W.x),some (.int pu),some (.int g),some (.int m),some .ar,some .ar,none] /\ xf H H' /\ (cls = .ref t.jW \/ cls = .ref t.vy \/ cls = .ref t.xo),?_,?_⟩
   .refine ⟨_,a_,a_,_,a_,cb ?_⟩
    refine ⟨_,a_,xa1 W.x W.dx _ ⟨a_,O.ob.1,xn,_,a_,_,a_,_,a_,xa9 Z 0 W Y pu g m row ⟨a_,O,kr,gn.ok,hp,hg,ng,hm,fG,by omega,by omega,λ_ d H' s'=>⟨a_,s',.inr (.inr a_)⟩,λo eo ec H' s'=>⟨a_,s',.inl a_⟩,λhcar M' eM'=>⟨λlt H' s'=>⟨a_,s',.inr (.inl a_)⟩,λle H' q O' f' mQ uq=>?_⟩⟩⟩⟩
    refine ⟨_,a_,a_,_,a_,cb ⟨_,a_,?_⟩⟩
    have g2:=(gn.ask (by omega) hp hg ng hm fG).mono (T':=T' + 1) (M':=1000 * (T' + 1)) (s_ _) (by omega)
    obtain ⟨S2,f2⟩:=S.go f' (λ_ z=>z) (S.w.next f' O' mQ g2 ⟨a_,a_,a_⟩)
    exact k Z H' _ _ S2 f2
   .rintro U' cls dd H' ea ⟨rfl,sm,hw⟩ ot
    have sx : ∀ {u:HO},xf H (upd H' ea u):=λ{u}=>sm.trans (jg ot)
    rcases hw with rfl | rfl | rfl
    .refine ⟨t.jW,a_,T.jcq,?_⟩
     refine ⟨_,a_,ja,?_⟩
     rw [Dk]
     refine ⟨_,a_,a_,_,a_,gd ?_⟩
     exact ⟨_,a_,ea,t.jW,false,false,false,false,false,false,true,false,false,false,false,.str "now",a_,ja,T.jv7,T.jwg,by decide,a_,λsR bZ=>old (sx.trans bZ)⟩
    .refine ⟨t.vy,a_,T.jb4,?_⟩
     refine ⟨_,a_,ja,?_⟩
     rw [Dk]
     refine ⟨_,a_,a_,_,a_,gd ?_⟩
     exact ⟨_,a_,xb4 ea t.vy false false false false false false false true false false false (.str "much") ⟨a_,ja,T.js2,T.jto,by decide,a_,λsR bZ=>old (sx.trans bZ)⟩⟩
    .refine ⟨t.xo,a_,T.jb0,?_⟩
     refine ⟨_,a_,ja,?_⟩
     rw [Dk]
     refine ⟨_,a_,a_,_,a_,gd ?_⟩
     exact ⟨_,a_,xb4 ea t.xo false false false false true false false false false false false (.str "purse") ⟨a_,ja,T.js3,T.jth,by decide,a_,λsR bZ=>old (sx.trans bZ)⟩⟩
  .refine ⟨_,(@jb _ _ _ _ _ (j9 (i:=5) zg.nd a_ (w_ a_) i7)
   (@jb _ _ _ _ _ (j9 (i:=6) zg.nd a_ (w_ a_) i7)
   (@jb _ _ _ _ _ (Nm (i:=7) a_ a_ a_ a_ T.IG T.Pp zg.nd a_ a_ (λ_ _=>(@je _ _ _ (zo (ju eI (pv 0) gb (qc _)) (@je _ _ _ (j9 (i:=5) zg.nd a_ (w_ a_) (Nl (pv 1) T.jk T.OM (Qs T) hr.dn T.ON .nil (@cA _ _ _ _ _ _ _ (pv 2) (pv 3) (pv 4) a_ a_ a_)))) (@je _ _ _ (zo (ju eI (pv 0) gb (qc _)) zd (@je _ _ _ (zo (ju eI (pv 0) gb (qc _)) (@je _ _ _ (j9 (i:=5) zg.nd a_ (w_ a_) (j7 (pv 1) T.jk T.Ir (JF T) hr.dn T.Iu .nil jq (@ye _ _ _ _ _ (pv 2) (pv 3) a_ a_)))) zd))))))) (λ_=>(@je _ _ _ (j9 (i:=6) zg.nd a_ (w_ a_) (pv 7)))))
   (@je _ _ _ (j5 (zK (ju Ld (pv 6) i7 (qc _)) (pv 5) (jm (Q7 T) hr.dn a_ T.OW T.Iz.kp T.OX .nil jq (jc (pv 6) jf)))))))),?_⟩
   refine ⟨λ U' cls dd H'=>v?,?_,λ U' cls dd H' ea z=>z.elim⟩
   obtain ⟨lL,lh,lc⟩:=gn.g.y l lw
   have z:=gn.sz
   have z1:=gn.l
   have z2:=gn.ok.k1
   refine ⟨_,a_,a_,_,a_,gd ?_⟩
   refine ⟨_,a_,a_,_,a_,gd ?_⟩
   refine ⟨_,a_,a_,_,a_,cb ?_⟩
   refine ⟨_,a_,xa1 W.x W.dx _ ⟨a_,O.ob.1,xn,_,a_,_,a_,xb2 Z 0 W Y h q l.2.2 p.ls _ _ _ ⟨a_,O,kr,S.w.ly.1,hl,uq,gn.lo _ lL,gn.mw _ lL,z,by omega,by omega,by omega,λ Z' H' O' f' mQ=>?_⟩⟩⟩
   refine ⟨_,a_,a_,_,a_,cb ⟨_,a_,?_⟩⟩
   have g2:=(gn.xr (h:=h) (C_ _ hl) (os:=[l.2.2]) (λo ho=>by rw [m?.mp ho]; exact lL)).mono (T':=T' + 1) (M':=1000 * (T' + 1)) (by omega) (by show 1000 * T' + 16 * 1 <= _; omega)
   obtain ⟨S2,f2⟩:=S.go f' (λr hr=>by rcases hr with hr | hr | hr <;> rw [hr]) (S.w.next f' O' mQ g2 (Cj h [l.2.2] Y).eV)
   exact k Z' H' _ _ S2 f2
theorem Q9 {p n d:i_}(h0:0<=p)(h1:p<n)(d0:0<=d)(d1:d<n-1):0<=(p+1+d)%n/\(p+1+d)%n<n/\(p+1+d)%n≠p:=by
 refine⟨Ĺ _ (by lia),Đ _ (by lia),λz=>?_⟩;have e:=i_.mul_ediv_add_emod (p+1+d) n;rw[z]at e;generalize (p+1+d) / n=q at e;by_cases y:q<=0
 .have:=abq y (show 0<=n by lia);lia
 .have:=abq (show 1<=q by lia) (show 0<=n by lia);lia
noncomputable def j5n (t:Ad):Sp:=λvs H Q _=>∃Z W Y T p To R pa bo few fo ho be ro pu,vs=[.ref To,.ref pa,.int pu]/\Sw t H Z W Y T p To R/\Ps H Z pa W.x bo few fo ho be ro p/\p.Ok/\0<=pu/\pu<(p.ns.length:i_)/\∀H' q o,Sw t H' Z W Y T p To R->Fr dI Z H Z H'->xq H' Z (.ref q) o->vp p.ns.length o=true->o.p=pu->Q (.ref q) H'
theorem juo (T:Txt K mg t):zu P w K mg base CX0 3 t.HP t.HQ ["_law_town_here","_law_parts","_law_purse"] (j5n t):=by
 refine T.Pa.dO FF λ_ A _ s H vs Q E hr h=>?_;obtain⟨Z,W,Y,T',p,To,R,pa,bo,few,fo,ho,be,ro,pu,rfl,S,Bq,ok,p0,p1,k⟩:=h;refine⟨_,(@jb _ _ _ _ _ (j9 (i:=3) FF.nd a_ (w_ a_) (jl jt a_ T.cB boot_len (jc (cx kR (pv 1) jn (λ_ _=>a_)) jf))) (@jb _ _ _ _ _ (j9 (i:=4) FF.nd a_ (w_ a_) (xa lY (xa ir (xa ir (pv 2) jn) (jm (qb T) hr.dn a_ T.qh T.qd.kp T.qg .nil jq (@ye _ _ _ _ _ (pv 0) (xa i9 (pv 3) jn) a_ a_))) (pv 3))) (@je _ _ _ (j5 (@gR _ _ _ _ _ (@Oc _ _ _ _ _ _ _ _ _ (pv 2) (jm (qb T) hr.dn a_ T.qh T.qd.kp T.qg .nil jq (@ye _ _ _ _ _ (pv 0) jn a_ a_)) (pv 4) (xa ir jn (jm (zc T) hr.dn a_ T.zi T.qz.kp T.zh .nil jq (@ye _ _ _ _ _ (pv 0) (@zj _ _ _ _ (@cA _ _ _ _ _ _ _ jn jn (jm (qb T) hr.dn a_ T.qh T.qd.kp T.qg .nil jq (@ye _ _ _ _ _ (pv 0) jn a_ a_)) a_ a_ a_)) a_ a_))) a_ a_ a_ a_)))))),?_⟩;have l2:=ok.l2;have l8:=ok.l8;refine⟨_,a_,xa2 pa _ 5 (.ref be) ⟨a_,a_,ax.of Bq.tp.1,a_,xa0 be _ ⟨a_,.inl (ah.of Bq.be.1),?_⟩⟩⟩;rw[i?];refine⟨_,a_,xa0 _ _ ⟨a_,a_,_,a_,_,a_,xa0 _ _ ⟨a_,a_,xa1 To R ((p.ns.length:i_)-1) ⟨a_,S.tn,by omega,by omega,λd H1 d0 d1 rq k1=>?_⟩⟩⟩⟩;obtain⟨S1,f1⟩:=S.draw rq k1;obtain⟨g0,g1,g2⟩:=Q9 p0 p1 d0 d1;refine(xa0 _ _ ⟨a_,a_,_,a_,xa0 _ _ ⟨a_,a_,(by show(0:i_)<(p.ns.length:i_);omega),?_⟩⟩);refine⟨_,a_,_,a_,xa1 To R 3 ⟨a_,S1.tn,by decide,by decide,λn H2 n0 n1 lK k2=>?_⟩⟩;obtain⟨S2,f2⟩:=S1.draw lK k2;refine⟨_,a_,_,a_,_,a_,xa1 To R 12 ⟨a_,S2.tn,by decide,by decide,λm H3 m0 m1 rA k3=>?_⟩⟩;obtain⟨S3,f3⟩:=S2.draw rA k3;refine⟨oz,λl nl=>?_⟩;have s3:=jg (o:=.lst [.int 0,.int 4,.int m]) nl;have Ra:=S3.same s3;obtain⟨n1',n2'⟩:=S3.tn.fresh nl;refine(xa2 To R l _ ⟨a_,Ra.tn,ja,n1',n2',by show 0<3;decide,by show 3<=1000000;decide,λi x H4 ex yI k4=>?_⟩);obtain⟨S4,f4⟩:=Ra.draw yI k4;obtain⟨v,rfl,v0,v1⟩:∃v,x=V.int v/\0<=v/\v<=12:=by
  have:=r? ex;simp only[B_,abF,afg]at this;rcases this with rfl|rfl|rfl
  .exact⟨0,a_,by decide,by decide⟩
  .exact⟨4,a_,by decide,by decide⟩
  .exact⟨m,a_,m0,by omega⟩
 refine⟨_,_,a_,a_,Oa,λq nq=>?_⟩;have s5:=jg (o:=.tup [.int pu,.int n,.int ((pu+1+d)%(p.ns.length:i_)),.int (1+v)]) nq;refine k _ q ⟨pu,n,(pu+1+d)%(p.ns.length:i_),1+v⟩ (S4.same s5) ((((f1.trans f2).trans f3).trans (Fr.same s3)).trans (f4.trans (Fr.same s5))) ⟨q,a_,S4.w.kr.none nq,ja⟩ (qQ.mpr ⟨p0,by show pu<=(p.ns.length:i_)-1;omega,g0,by show(pu+1+d)%(p.ns.length:i_)<=(p.ns.length:i_)-1;omega,λy=>g2 y.symm,n0,by show n<=99;omega,by show 1<=1+v;omega,by show 1+v<=1000;omega⟩) a_
theorem j2a {n aJ:i_}{ly ch kd bd ak wy:c_}:(cZ n aJ ly ch kd bd ak wy).lookup ("total":y_)=some (.int aJ):=by unfold cZ;repeat(first|rw[jj,j_ a_]|rw[jj,f? (by decide+kernel)])
theorem Rb (T:Txt K mg t):zu P w K mg base CX0 1 t.He t.Hf ["thing"] (λvs H Q _=>∃x dx fs,vs=[.ref x]/\H x=some (.ins t.j3 dx fs)/\Q .ar H):=by refine T.Iv.aZ (N:=["thing"]) λ_ A _ s H vs Q E hr h=>?_;obtain⟨x,dx,fs,rfl,hx,k⟩:=h;refine⟨_,(@je _ _ _ (zo (xw (zt (jl X2 a_ T.jy boot_isinstance (@ye _ _ _ _ _ (pv 0) (zk (v:=.ref t.j3) a_ T.Ph a_) a_ a_)))) zd qe)),?_⟩;exact⟨_,a_,xa2 x t.j3 dx fs ⟨a_,hx,T.jk,T.jyz,_,a_,gd k⟩⟩
theorem j01 {is:yz}{i:j?}{x:b? i_×b? i_}(nd:(is.map (·.1)).Nodup)(e:is[i]?=some x):za is x.1=x.2:=(xR x.1 is).symm.trans (IT nd e)
theorem Gn.mI {Y:Wd}{T M:j?}{L:b? O}{ls ns:b? i_}(g:Gn Y T M L ls ns){t:b? i_}(h:t∈yw Y.bd Y.en):∃o∈L,t=bb o/\Y.carried o=true:=by obtain⟨x,hx,rfl⟩:=O_.mp h;obtain⟨h1,h2⟩:=Č.mp hx;obtain⟨o,ol,e⟩:=g.g.b.ks x h1;obtain⟨i,hi,ei⟩:=Î.mp h1;refine⟨o,ol,e,?_⟩;unfold Wd.carried;rw[<-e,j01 g.g.b.nd (by rw[n? hi,ei])];exact h2
theorem Wl.qcr {t:Ad}{H:Hp}{Z:aq}{W:WA}{Y:Wd}{T:j?}{p:Pt}(w:Wl t H Z W Y T p){h:i_}(hh:h∈p.hs):∃B L,Y.keep h=some B/\Gn Y T (1000*T) L p.ls p.ns/\df L T Y.n B/\KX Y.n p.ns B:=by obtain⟨L,g⟩:=w.g;obtain⟨B,ek,km⟩:=yD (by rw[w.h];exact hh:h∈Y.ks.map (·.1));exact(xa0 B L ⟨ek,g,(g.ks _ km).1,(g.ks _ km).2⟩)
theorem int_at {zs:b? i_}{i:j?}{x:V}(e:(zs.map V.int)[i]?=some x):∃z,z∈zs/\x= .int z:=by obtain⟨z,hz,e⟩:=O_.mp (r? e);exact⟨z,hz,e.symm⟩
theorem oJ {t:Ad}{H:Hp}{Z:aq}{W:WA}{Y:Wd}{T:j?}{p:Pt}{To R a:c_}{zs:b? i_}{Q:VK}(S:Sw t H Z W Y T p To R)(u:Un H Z a (zs.map V.int))(l0:0<zs.length)(l1:zs.length<=1000)(k:∀z H',z∈zs->Sw t H' Z W Y T p To R->Fr dI Z H Z H'->Q (.int z) H'):Q1 [.ref To,.ref a] H Q E0:=by obtain⟨n1,n2⟩:=u.neT S;refine(xa2 To R a _ ⟨a_,S.tn,u.1,n1,n2,by rw[i?];exact l0,by rw[i?];lia,λi x H' ex hT kT=>?_⟩);obtain⟨z,hz,rfl⟩:=int_at ex;obtain⟨S',f'⟩:=S.draw hT kT;exact k z H' hz S' f'
noncomputable def qcb (K:e?)(t:Ad):Sp:=λvs H Q _=>∃Z W Y T p To R pa bo few fo ho be ro sh,vs=[.ref To,.ref pa,.int sh]/\Sw t H Z W Y T p To R/\Ps H Z pa W.x bo few fo ho be ro p/\p.Ok/\T<=46/\JI t H Z W T p To R Q
set_option maxHeartbeats 0 in
theorem j03 (T:Txt K mg t) : zu P w K mg base CX0 10 t.HR t.HS ["_law_town_here","_law_parts","_law_share"] (qcb K t):=by
 refine T.Pb.dO xj λ_ A _ s H vs Q E hr h=>?_
 obtain ⟨Z,W,Y,T',p,To,R,pa,bo,few,fo,ho,be,ro,sh,rfl,S,Bq,ok,hT,k⟩:=h
 refine ⟨_,(@jb _ _ _ _ _ (lU (pv 1) (pE a_ (qf (jw (i:=3) xj.nd a_ (w_ a_)) (qf (jw (i:=4) xj.nd a_ (w_ a_)) (qf (jw (i:=5) xj.nd a_ (w_ a_)) (qf (jw (i:=6) xj.nd a_ (w_ a_)) (qf (jw (i:=7) xj.nd a_ (w_ a_)) (qf (jw (i:=8) xj.nd a_ (w_ a_)) (qf (jw (i:=9) xj.nd a_ (w_ a_)) pD)))))))))
  (@jb _ _ _ _ _ (j9 (i:=10) xj.nd a_ (w_ a_) (jl jt a_ T.cB boot_len (jc (pv 8) jf)))
  (@jb _ _ _ _ _ (j9 (i:=11) xj.nd a_ (w_ a_) (jm (qb T) hr.dn a_ T.qh T.qd.kp T.qg .nil jq (@ye _ _ _ _ _ (pv 0) jn a_ a_)))
  (@je _ _ _ (zo (ju zU (pv 11) (pv 2) (qc _)) (@je _ _ _ (j8 (jm (jsw T) hr.dn a_ T.jm4 T.O8.kp T.jmw .nil jq (@ye _ _ _ _ _ (pv 0) (pv 3) a_ a_)))) (@je _ _ _ (zo (PW.pt (kJ (ju eI (xa lY (pv 11) jn) jn (qc _)) (lS (ju (ou (K:=K) a_ hr.units) (pv 9) (@zj _ _ _ _ jf) (qc _))))) (@jb _ _ _ _ _ (j9 (i:=12) xj.nd a_ (w_ a_) (jm (juo T) hr.dn a_ T.jpx T.Pa.kp T.jpe .nil jq (@cA _ _ _ _ _ _ _ (pv 0) (pv 1) (jm (zc T) hr.dn a_ T.zi T.qz.kp T.zh .nil jq (@ye _ _ _ _ _ (pv 0) (pv 9) a_ a_)) a_ a_ a_)))
  (@jb _ _ _ _ _ (j8 (j7 (pv 3) T.jk T.jkx (jsy T) hr.dn T.jnh .nil jq (@ye _ _ _ _ _ (pv 12) (jm (zc T) hr.dn a_ T.zi T.qz.kp T.zh .nil jq (@ye _ _ _ _ _ (pv 0) (pv 7) a_ a_)) a_ a_)))
  (@je _ _ _ (zo (ju (ou (K:=K) a_ hr.units) (pv 6) (@zj _ _ _ _ jf) (qc _)) (@je _ _ _ (j8 (j7 (pv 3) T.jk T.Ir (JF T) hr.dn T.Iu .nil jq (@ye _ _ _ _ _ (jm (zc T) hr.dn a_ T.zi T.qz.kp T.zh .nil jq (@ye _ _ _ _ _ (pv 0) (pv 6) a_ a_)) (pv 12) a_ a_)))) qe)))) (@je _ _ _ (zo (PW.pt (kJ (ju (ou (K:=K) a_ hr.units) (pv 6) (@zj _ _ _ _ jf) (qc _)) (kJ (ju (ou (K:=K) a_ hr.units) (vg (pv 3) T.jk T.ko (Jn T) hr.dn T.Iq .nil jq) (@zj _ _ _ _ jf) (qc _)) (lS (ju eI (jm (qb T) hr.dn a_ T.qh T.qd.kp T.qg .nil jq (@ye _ _ _ _ _ (pv 0) jn a_ a_)) jn (qc _)))))) (@je _ _ _ (j8 (jm (Q8 T) hr.dn a_ T.O4 T.IB.kp T.O5 .nil jq (@Fs _ _ _ _ _ _ _ _ _ _ _ gb (pv 3) (jm (zc T) hr.dn a_ T.zi T.qz.kp T.zh .nil jq (@ye _ _ _ _ _ (pv 0) (pv 6) a_ a_)) (cx kR (jm (zc T) hr.dn a_ T.zi T.qz.kp T.zh .nil jq (@ye _ _ _ _ _ (pv 0) (vg (pv 3) T.jk T.ko (Jn T) hr.dn T.Iq .nil jq) a_ a_)) jn (λ_ _=>a_)) jn a_ a_ a_ a_ a_)))) (@je _ _ _ (zo (PW.pt (kJ (ju (ou (K:=K) a_ hr.units) (vg (pv 3) T.jk T.OJ (Qp T) hr.dn T.OK .nil jq) (@zj _ _ _ _ jf) (qc _)) (lS (ju eI (jm (qb T) hr.dn a_ T.qh T.qd.kp T.qg .nil jq (@ye _ _ _ _ _ (pv 0) jn a_ a_)) jn (qc _))))) (@je _ _ _ (j8 (j7 (pv 3) T.jk T.jm0 (jts T) hr.dn T.jpt .nil jq (@ye _ _ _ _ _ (jm (zc T) hr.dn a_ T.zi T.qz.kp T.zh .nil jq (@ye _ _ _ _ _ (pv 0) (vg (pv 3) T.jk T.OJ (Qp T) hr.dn T.OK .nil jq) a_ a_)) (jm (zc T) hr.dn a_ T.zi T.qz.kp T.zh .nil jq (@ye _ _ _ _ _ (pv 0) (pv 7) a_ a_)) a_ a_)))) (@jb _ _ _ _ _ (j9 (i:=13) xj.nd a_ (w_ a_) (jm (qb T) hr.dn a_ T.qh T.qd.kp T.qg .nil jq (@ye _ _ _ _ _ (pv 0) (pv 10) a_ a_)))
  (@jb _ _ _ _ _ (j9 (i:=14) xj.nd a_ (w_ a_) (xa lY (xa ir (xa ir (pv 13) jn) (jm (qb T) hr.dn a_ T.qh T.qd.kp T.qg .nil jq (@ye _ _ _ _ _ (pv 0) (xa i9 (pv 10) jn) a_ a_))) (pv 10)))
  (@je _ _ _ (j8 (jm (Q8 T) hr.dn a_ T.O4 T.IB.kp T.O5 .nil jq (@Fs _ _ _ _ _ _ _ _ _ _ _ gb (pv 3) (pv 13) (pv 14) (xa ir jn (jm (zc T) hr.dn a_ T.zi T.qz.kp T.zh .nil jq (@ye _ _ _ _ _ (pv 0) (@zj _ _ _ _ (@cA _ _ _ _ _ _ _ jn jn (jm (qb T) hr.dn a_ T.qh T.qd.kp T.qg .nil jq (@ye _ _ _ _ _ (pv 0) jn a_ a_)) a_ a_ a_)) a_ a_))) a_ a_ a_ a_ a_))))))))))))))))),?_⟩
 have l2:=ok.l2
 have l8:=ok.l8
 refine bF λN hN=>⟨_,a_,xa0 pa _ ⟨a_,ax.of Bq.tp.1,a_,xa0 _ _ ⟨a_,xa0 _ _ ⟨a_,xa0 _ _ ⟨a_,xa0 _ _ ⟨a_,xa0 _ _ ⟨a_,xa0 _ _ ⟨a_,xa0 _ _ ⟨a_,a_,?_⟩⟩⟩⟩⟩⟩⟩⟩⟩
 refine hN _ _ (bF λN hN=>⟨_,a_,xa0 be _ ⟨a_,.inl (ah.of Bq.be.1),?_⟩⟩)
 rw [i?]
 refine hN _ _ (bF λN hN=>⟨_,a_,xa1 To R 10 ⟨a_,S.tn,by decide,by decide,λkd H1 kd0 BU rq k1=>?_⟩⟩)
 obtain ⟨S1,f1⟩:=S.draw rq k1
 have B1:=Bq.fr f1
 refine hN [some (.ref To),some (.ref pa),some (.int sh),some (.ref W.x),some (.int bo),some (.int few),some (.ref fo),some (.ref ho),some (.ref be),some (.ref ro),some (.int (p.ns.length:i_)),some (.int kd),none,none,none] H1 (sQ λN hN=>⟨_,a_,_,a_,xa0 _ _ ⟨a_,a_,_,a_,hN _ _ (bh (λ_=>?_) (λ_=>?_))⟩⟩)
 .refine ⟨_,a_,_,a_,xa6 Z W Y T' p To R ⟨a_,S1,ok.ll,hT,λ Z' H' Y' v S' f'=>?_⟩⟩
  exact k Z' H' Y' _ S' ((rn f1).trans f')
 obtain ⟨L,gn⟩:=S.w.g
 have xU:=gn.wl
 have z0:=gn.l
 have z1:=gn.ok.k1
 have z2:=ok.ll
 have bl:=gn.sz.bd
 have bne : ∀ x ∈ Y.bd,x.1 ≠ []:=λx hx z=>by
  obtain ⟨o,_,e⟩:=gn.g.b.ks x hx
  rw [e] at z
  cases z
 refine' (λkey=>_:(∀ HB,Sw t HB Z W Y T' p To R -> Fr dI Z H Z HB -> (_:Hp -> Prop) HB) -> _) _
 rotate_left
 .refine sQ λN hN=>⟨_,a_,xa0 _ _ ⟨a_,a_,(by show (0:i_) < 2; decide),a_,_,a_,bh (λ_=>?_) (λ_=>hN _ _ (gd ?_))⟩⟩
  rotate_left
  .exact key H1 S1 f1
  refine ⟨_,a_,cz,λe ne=>?_⟩
  have s2:=jg (o:=.lst []) ne
  have S2:=S1.same s2
  have f2:Fr dI Z H Z (upd H1 e (.lst [])):=f1.trans (Fr.same s2)
  have B2:=Bq.fr f2
  refine (xa2 _ _ _ p.cs.length ⟨a_,a_,ah.of B2.ro.1,ah.of ja,i? ..,_,a_,?_⟩)
  generalize upd H1 e (.lst []) = H2 at S2 f2 B2
  refine hN _ _ (bh (λz=>?_) (λ_=>?_))
  rotate_left
  .exact key H2 S2 f2
  have nc : 0 < p.cs.length:=ŋ λy=>by rw [y] at z; cases z
  refine bF λN hN=>⟨_,a_,_,a_,_,a_,_,a_,oJ S2 B2.ro nc ok.cl λpu H3 Rc S3 f3=>?_⟩
  have B3:=B2.fr f3
  obtain ⟨Ck,JL⟩:=ok.c pu Rc
  refine (xa8 Z W Y T' p To R pa bo few fo ho be ro pu ⟨a_,S3,B3,ok,Ck,JL,λH4 q o S4 f4 uq4 io eo=>?_⟩)
  have B4:=B3.fr f4
  refine hN _ _ (bF λN hN=>⟨_,a_,xa1 W.x W.dx _ ⟨a_,S4.w.o.ob.1,xn,_,a_,_,a_,_,a_,oJ S4 B4.ho ok.h0 (by have:=ok.h1; omega) λh H5 hh S5 f5=>?_⟩⟩)
  have Rf:=uq4.fr f5
  have B5:=B4.fr f5
  have Rg:vp Y.n o = true:=by rw [S.w.n]; exact io
  have oc:o.p ∈ Y.fF:=by rw [S.w.c,eo]; exact Rc
  have hk:h ∈ Y.ks.map (·.1):=by rw [S.w.h]; exact hh
  obtain ⟨B,ek,km⟩:=yD hk
  refine (xa9 Z 0 W Y q o h B ⟨a_,S5.w.o,S5.w.kr,Rf,Rg,oc,ek,by omega,λH6 O6 f6 kr6=>?_⟩)
  have yJ:=gn.qbz Rg oc hk
  obtain ⟨S6,f6'⟩:=S5.go f6 (λr hr=>by rw [hr]) (S5.w.next f6 O6 kr6 (yJ.mono (T':=T' + 1) (M':=1000 * (T' + 1)) (s_ _) (by omega)) ⟨a_,a_,a_⟩)
  have F6:Fr rm Z H Z H6:=(rn (((f2.trans f3).trans f4).trans f5)).trans f6'
  have B6:=B5.fr f6
  have uq6:=Rf.fr f6
  refine hN _ _ (sQ λN hN=>⟨_,a_,cz,λe' ne'=>?_⟩)
  have s7:=jg (o:=.lst []) ne'
  have S7:=S6.same s7
  have F7:Fr rm Z H Z (upd H6 e' (.lst [])):=F6.trans (Fr.same s7)
  have B7:=B6.fr (P:=λ_=>v?) (Fr.same s7)
  have Rh:=uq6.fr (P:=λ_=>v?) (Fr.same s7)
  refine (xa2 _ _ _ p.ls.length ⟨a_,a_,ah.of B7.fo.1,ah.of ja,i? ..,_,a_,?_⟩)
  generalize upd H6 e' (.lst []) = H7 at S7 F7 B7 Rh
  refine hN _ _ (bh (λz=>?_) (λ_=>k Z H7 _ _ S7 F7))
  have nl : 0 < p.ls.length:=ŋ λy=>by rw [y] at z; cases z
  refine ⟨_,a_,xa1 W.x W.dx _ ⟨a_,S7.w.o.ob.1,xn,_,a_,_,a_,oJ S7 B7.fo nl (by omega) λh' H8 Ri S8 f8=>?_⟩⟩
  have uq8:=Rh.fr f8
  refine ⟨_,a_,xb2 Z 0 W _ h' q o p.ls _ _ _ ⟨a_,S8.w.o,S8.w.kr,S8.w.ly.1,Ri,uq8,yJ.lo _ t?,yJ.mw _ t?,yJ.sz,(by rw [E?]; omega),(by show Y.ks.length + p.ls.length + 1 <= 1000; omega),by omega,λ Z9 H9 O9 f9 kr9=>?_⟩⟩
  have g9:=(yJ.xr (h:=h') (C_ _ Ri) (os:=[o]) (λu hu=>by rw [m?.mp hu]; exact t?)).mono (T':=T' + 1) (M':=1000 * (T' + 1)) (s_ _) (by show 1000 * T' + 1 + 16 * 1 <= _; omega)
  obtain ⟨S9,f9'⟩:=S8.go f9 (λr hr=>by rcases hr with hr | hr | hr <;> rw [hr]) (S8.w.next f9 O9 kr9 g9 (Cj h' [o] _).eV)
  exact k Z9 H9 _ _ S9 ((F7.trans (rn f8)).trans f9')
 rintro HA SA fA
 refine' (λkey=>_:(∀ HB,Sw t HB Z W Y T' p To R -> Fr dI Z H Z HB -> (_:Hp -> Prop) HB) -> _) _
 rotate_left
 .refine sQ λN hN=>⟨_,a_,cz,λe ne=>?_⟩
  have s2:=jg (o:=.lst []) ne
  have S2:=SA.same s2
  have f2:Fr dI Z H Z (upd HA e (.lst [])):=fA.trans (Fr.same s2)
  have B2:=Bq.fr f2
  refine (xa2 _ _ _ p.ls.length ⟨a_,a_,ah.of B2.fo.1,ah.of ja,i? ..,_,a_,?_⟩)
  generalize upd HA e (.lst []) = H2 at S2 f2 B2
  refine bh (λz=>?_) (λ_=>hN _ _ (gd ?_))
  rotate_left
  .exact key H2 S2 f2
  have nl : 0 < p.ls.length:=ŋ λy=>by rw [y] at z; cases z
  refine ⟨_,a_,xa1 W.x W.dx _ ⟨a_,S2.w.o.ob.1,xn,xa2 Z 0 W Y ⟨a_,S2.w.o,by omega,λr xs nr px=>⟨cz,λe' ne'=>?_⟩⟩⟩⟩
  have s3:=jg (o:=.lst xs) nr
  have s4:=jg (o:=.lst []) ne'
  have S3:=(S2.same s3).same s4
  have f3:Fr dI Z H Z (upd (upd H2 r (.lst xs)) e' (.lst [])):=f2.trans (Fr.same (s3.trans s4))
  have Jt:g? (de (upd (upd H2 r (.lst xs)) e' (.lst [])) Z) xs Y.way:=Paired.gi px λ_ _=>de.fr (P:=λ_=>v?) (Fr.same (s3.trans s4))
  refine (xa2 r xs e' Y.way.length ⟨a_,a_,ah.of (s4 _ _ ja),ah.of ja,q? Jt,_,a_,?_⟩)
  generalize upd (upd H2 r (.lst xs)) e' (.lst []) = H3 at S3 f3
  refine bh (λz=>?_) (λ_=>hN _ _ (gd ?_))
  rotate_left
  .exact key H3 S3 f3
  have nw : 0 < Y.way.length:=ŋ λy=>by rw [y] at z; cases z
  refine ⟨_,a_,xa1 To R 3 ⟨a_,S3.tn,by decide,by decide,λd H4 d0 d1 yI k4=>?_⟩⟩
  obtain ⟨S4,f4⟩:=S3.draw yI k4
  have F4:=f3.trans f4
  refine ⟨a_,_,a_,hN _ _ (bh (λ_=>?_) (λ_=>?_))⟩
  rotate_left
  .exact key H4 S4 F4
  have B4:=Bq.fr F4
  refine ⟨_,a_,_,a_,_,a_,oJ S4 B4.fo nl (by omega) λh H5 hh S5 f5=>?_⟩
  refine ⟨_,a_,_,a_,xa1 W.x W.dx _ ⟨a_,S5.w.o.ob.1,xn,xa2 Z 0 W Y ⟨a_,S5.w.o,by omega,λr' aE Cm Rj=>?_⟩⟩⟩
  have lx:aE.length = Y.way.length:=q? Rj
  have s6:=jg (o:=.lst aE) Cm
  obtain ⟨n1,n2⟩:=S5.tn.fresh Cm
  have S6:=S5.same s6
  have f6:Fr dI Z H Z (upd H5 r' (.lst aE)):=(F4.trans f5).trans (Fr.same s6)
  refine (xa2 To R r' aE ⟨a_,S6.tn,ja,n1,n2,by omega,by omega,λi x H7 ex tF k7=>?_⟩)
  obtain ⟨S7,f7⟩:=S6.draw tF k7
  obtain ⟨l,el,ul⟩:=qa Rj ex
  obtain ⟨a,q,rfl,_,h1,uq⟩:=(ul.fr (P:=λ_=>v?) (Fr.same s6)).fr f7
  exact (xa2 a _ 2 (.ref q) ⟨a_,a_,ax.of h1,a_,xa6 Z W Y T' p To R ⟨S7,hT,λ Z' H' Y' v S' f'=>k Z' H' Y' _ S' ((rn (f6.trans f7)).trans f'),.inr (xa1 h q l ⟨a_,hh,ok.ll,uq,r? el⟩)⟩⟩)
 rintro HC SC fC
 refine' (λkey=>_:(∀ HB,Sw t HB Z W Y T' p To R -> Fr dI Z H Z HB -> (_:Hp -> Prop) HB) -> _) _
 rotate_left
 .refine sQ λN hN=>⟨_,a_,xa1 W.x W.dx _ ⟨a_,SC.w.o.ob.1,xn,xa2 Z 0 W Y ⟨a_,SC.w.o,by omega,gn.g.b.nd,bne,λr vs ts H1 nr s1 q1 q2 q3 h1=>⟨cz,λe ne=>?_⟩⟩⟩⟩
  have s2:=jg (o:=.lst []) ne
  have S2:=(SC.same s1).same s2
  have f2:Fr dI Z H Z (upd H1 e (.lst [])):=fC.trans (Fr.same (s1.trans s2))
  refine (xa2 r vs e ts.length ⟨a_,a_,ah.of (s2 _ _ h1),ah.of ja,q? q3,_,a_,?_⟩)
  generalize upd H1 e (.lst []) = H2 at S2 f2
  refine bh (λz=>?_) (λ_=>hN _ _ (gd ?_))
  rotate_left
  .exact key H2 S2 f2
  have nt:ts ≠ []:=λy=>by rw [y] at z; cases z
  have nt2 : 0 < (yw Y.bd Y.en).length:=by
   rw [<- q1.length_eq]
   exact b?.length_pos_iff.mpr nt
  refine ⟨_,a_,xa1 To R 4 ⟨a_,S2.tn,by decide,by decide,λd H3 d0 d1 rA k3=>?_⟩⟩
  obtain ⟨S3,f3⟩:=S2.draw rA k3
  have F3:=f2.trans f3
  refine ⟨a_,_,a_,hN _ _ (bh (λ_=>?_) (λ_=>?_))⟩
  rotate_left
  .exact key H3 S3 F3
  refine ⟨_,a_,xa1 W.x W.dx _ ⟨a_,S3.w.o.ob.1,xn,_,a_,_,a_,xa1 W.x W.dx _ ⟨a_,S3.w.o.ob.1,xn,xa2 Z 0 W Y ⟨a_,S3.w.o,by omega,gn.g.b.nd,bne,λr' aV bE H4 Cm s4 Rk q2' Rl h4=>?_⟩⟩⟩⟩
  have S4:=S3.same s4
  have F4:Fr dI Z H Z H4:=F3.trans (Fr.same s4)
  obtain ⟨n1,n2⟩:=S3.tn.fresh Cm
  have lv:aV.length = (yw Y.bd Y.en).length:=(q? Rl).trans Rk.length_eq
  have lc:(yw Y.bd Y.en).length <= Y.bd.length:=by
   unfold yw
   rw [i?]
   exact Q_ _ _
  refine (xa2 To R r' aV ⟨a_,S4.tn,h4,n1,n2,by omega,by omega,λi x H5 ex Az k5=>?_⟩)
  obtain ⟨S5,f5⟩:=S4.draw Az k5
  obtain ⟨ti,eti,a,rfl,ha⟩:=qa Rl ex
  obtain ⟨o,oL,rfl,oc⟩:=gn.mI (Rk.mem_iff.mp (r? eti))
  have uo:xq H4 Z (.ref a) o:=⟨a,a_,S4.w.kr.tup ha,ha⟩
  have uo5:=uo.fr f5
  have B5:=Bq.fr (F4.trans f5)
  refine ⟨_,a_,_,a_,oJ S5 B5.ho ok.h0 (by have:=ok.h1; omega) λh H6 hh S6 f6=>?_⟩
  have hk:h ∈ Y.ks.map (·.1):=by rw [S.w.h]; exact hh
  obtain ⟨B,ek,km⟩:=yD hk
  refine (xa9 Z 0 W Y a o h B ⟨a_,S6.w.o,S6.w.kr,uo5.fr f6,gn.lo _ oL,ek,oc,by omega,λH7 O7 f7 kr7=>?_⟩)
  have g7:=(gn.QW oL hk (b:=false) λ_=>oc).mono (T':=T' + 1) (M':=1000 * (T' + 1)) (by omega) (by omega)
  obtain ⟨S7,f7'⟩:=S6.go f7 (λr hr=>by rw [hr]) (S6.w.next f7 O7 kr7 g7 ⟨a_,a_,a_⟩)
  exact k Z H7 _ _ S7 ((rn ((F4.trans f5).trans f6)).trans f7')
 rintro HD SD fD
 refine bF λN hN=>⟨_,a_,_,a_,xa1 To R (p.ns.length:i_) ⟨a_,SD.tn,by omega,by omega,λpu H1 Ck JL rq k1=>?_⟩⟩
 obtain ⟨S1,f1⟩:=SD.draw rq k1
 refine hN _ _ (bF λN hN=>⟨_,a_,xa0 _ _ ⟨a_,a_,_,a_,_,a_,xa0 _ _ ⟨a_,a_,xa1 To R ((p.ns.length:i_) - 1) ⟨a_,S1.tn,by omega,by omega,λd H2 d0 d1 lK k2=>?_⟩⟩⟩⟩)
 obtain ⟨S2,f2⟩:=S1.draw lK k2
 obtain ⟨g0,g1,g2⟩:=Q9 Ck JL d0 d1
 refine (xa0 _ _ ⟨a_,a_,_,a_,xa0 _ _ ⟨a_,a_,(by show (0:i_) < (p.ns.length:i_); omega),?_⟩⟩)
 refine hN _ _ ⟨_,a_,_,a_,_,a_,_,a_,_,a_,xa1 To R 30 ⟨a_,S2.tn,by decide,by decide,λm H3 m0 m1 rA k3=>?_⟩⟩
 obtain ⟨S3,f3⟩:=S2.draw rA k3
 refine ⟨oz,λl nl=>?_⟩
 have s4:=jg (o:=.lst ([0,4,m].map V.int)) nl
 have S4:=S3.same s4
 have u4:Un (upd H3 l (.lst ([0,4,m].map V.int))) Z l ([0,4,m].map V.int):=⟨ja,S3.w.kr.none nl⟩
 refine oJ S4 u4 (by show 0 < 3; decide) (by show 3 <= 1000; decide) λv H5 hv S5 f5=>?_
 have v01 : 0 <= v /\ v <= 30:=by
  simp only [B_,abF,afg] at hv
  rcases hv with rfl | rfl | rfl <;> omega
 have en:(Y.n:i_) = (p.ns.length:i_):=by rw [S.w.n]
 have F5:Fr dI Z H Z H5:=(((fD.trans f1).trans f2).trans f3).trans ((Fr.same s4).trans f5)
 exact (xa0 _ _ ⟨a_,a_,xa6 Z W Y T' p To R ⟨S5,hT,λ Z' H' Y' v S' f'=>k Z' H' Y' _ S' ((rn F5).trans f'),.inl (xa1 pu ((pu + 1 + d) % (p.ns.length:i_)) (1 + v) ⟨a_,⟨Ck,by omega⟩,⟨g0,by omega⟩,g2,by omega,by omega⟩)⟩⟩)
structure Tw (H:Hp)(Z:aq)(To R:c_):Prop where
 kr:aw Z H
 tn:dv To R H
 tr:yF Z To R
section
variable {H H':Hp}{Z:aq}{To R:c_}
theorem Tw.same (s:xf H H')(x:Tw H Z To R):Tw H' Z To R:=⟨x.kr.same s,x.tn.same s,x.tr⟩
theorem Tw.draw (x:Tw H Z To R)(hT:dv To R H')(k:lB To R H H'):Tw H' Z To R/\Fr dI Z H Z H':=⟨⟨QZ x.kr hT k,hT,x.tr⟩,JH x.tr k⟩
end
structure Few (Y:Wd)(p:Pt)(cr few:i_):Prop where
 en:Y.en=cr-few
 lf:(p.ls.length:i_)<=few
 f3:3*few<cr
 c8:cr<=8
 hr:∀x∈p.hs++p.ls,0<=x/\x<cr
 nr:∀i∈p.ns,0<=i/\i<=1000
 n4:p.ns.length<=4
noncomputable def j44 (t:Ad):Sp:=λvs H Q _=>∃Z To R,vs=[.ref To]/\Tw H Z To R/\∀Z' H' W Y pa cr few fo ho be ro p,p.Ok->Sw t H' Z' W Y 0 p To R->Ps H' Z' pa W.x cr few fo ho be ro p->Few Y p cr few->Fr rm Z H Z' H'->Q (.ref pa) H'
set_option maxHeartbeats 0 in
theorem jui (T:Txt K mg t) : zu P w K mg base CX0 8 t.HI t.HJ ["_law_town_here"] (j44 t):=by
 refine T.O0.dO yx λ_ A _ s H vs Q E hr h=>?_
 obtain ⟨Z,To,R,rfl,S,k⟩:=h
 refine ⟨_,(@jb _ _ _ _ _ (j9 (i:=1) yx.nd a_ (w_ a_) (jm (qb T) hr.dn a_ T.qh T.qd.kp T.qg .nil jq (@ye _ _ _ _ _ (pv 0) jn a_ a_)))
  (@jb _ _ _ _ _ (j9 (i:=2) yx.nd a_ (w_ a_) (xa ir (xa ir (xa zT jn (pv 1)) jn) (jm (qb T) hr.dn a_ T.qh T.qd.kp T.qg .nil jq (@ye _ _ _ _ _ (pv 0) jn a_ a_))))
  (@jb _ _ _ _ _ (j9 (i:=3) yx.nd a_ (ţ a_) (jm (Q3 T) hr.dn a_ T.OY T.IA.kp T.OZ .nil jq (@cA _ _ _ _ _ _ _ (pv 0) (pv 2) (pv 1) a_ a_ a_)))
  (@jb _ _ _ _ _ (Vo (i:=4) yx.nd a_ a_ (N':=["_law_k","_law_town_here"]) (ix:=[none,some 0]) (yg (by kernel_rfl)) a_ (rP a_ T.sO (jc (xa ir jn (jm (qb T) hr.dn a_ T.qh T.qd.kp T.qg .nil jq (@ye _ _ _ _ _ (pv 0) jn a_ a_))) jf)) (λ_ _ _ _=>(jw (i:=0) Zu a_ (w_ a_) (.inr a_))) (λ_ _ _ _=>sf) (λ_ _ _ _=>(jm (zc T) hr.dn a_ T.zi T.qz.kp T.zh .nil jq (@ye _ _ _ _ _ (pv 1) (@zj _ _ _ _ (@Fs _ _ _ _ _ _ _ _ _ _ _ jn jn jn jn (jm (qb T) hr.dn a_ T.qh T.qd.kp T.qg .nil jq (@ye _ _ _ _ _ (pv 1) jn a_ a_)) a_ a_ a_ a_ a_)) a_ a_))))
  (@jb _ _ _ _ _ (j9 (i:=5) yx.nd a_ (w_ a_) (jm (Q3 T) hr.dn a_ T.OY T.IA.kp T.OZ .nil jq (@cA _ _ _ _ _ _ _ (pv 0) (jl jt a_ T.cB boot_len (jc (pv 4) jf)) jn a_ a_ a_)))
  (@jb _ _ _ _ _ (j9 (i:=6) yx.nd a_ (w_ a_) (W6 T.jzc (jom T) hr.dn a_ T.Ph T.jfc jq (jc (pv 2) jf) (iw (pv 1) (iw (pv 4) (iw (pv 3) (iw (pv 5) nJ))))))
  (@je _ _ _ (j5 (@gR _ _ _ _ _ (@Zh _ _ _ _ _ _ _ _ _ _ _ _ _ _ _ (pv 6) (pv 2) (pv 1) (pv 3) (jI (N':=["_law_k","_law_foes"]) (ix:=[none,some 3]) (yg (by kernel_rfl)) a_ (rP a_ T.sO (jc (pv 2) jf)) (λ_ _ _ _=>(jw (i:=0) Zt a_ (w_ a_) (.inr a_))) (λ_ _ _ _=>(nW (ju (MX (K:=K) a_) (pv 0) (pv 1) (by with_unfolding_all rfl)))) (λ_ _ _ _=>(pv 0))) (pv 4) (pv 5) a_ a_ a_ a_ a_ a_ a_)))))))))),?_⟩
 refine ⟨_,a_,xa1 To R 3 ⟨a_,S.tn,by decide,by decide,λf H1 f0 f1 rq k1=>?_⟩⟩
 obtain ⟨S1,r1⟩:=S.draw rq k1
 refine ⟨_,a_,xa0 _ _ ⟨a_,a_,.inl ⟨by decide,by decide⟩,xa0 _ _ ⟨a_,a_,_,a_,xa1 To R 2 ⟨a_,S1.tn,by decide,by decide,λd H2 d0 d1 lK k2=>?_⟩⟩⟩⟩
 obtain ⟨S2,r2⟩:=S1.draw lK k2
 have F2:=r1.trans r2
 obtain ⟨h,eh⟩ : ∃ h:i_,h = 3 * f + 1 + d:=⟨_,a_⟩
 refine (xa0 _ _ ⟨a_,a_,?_⟩)
 dsimp only
 rw [<- eh]
 have h1 : 1 <= h:=by omega
 have h8:h <= 16:=by omega
 have lt : 3 * f < h:=by omega
 refine ⟨_,a_,_,a_,_,a_,xa2 To R h f ⟨a_,S2.tn,by omega,by omega,λfo ls H3 nfo rA k3 hfo xX xY Cn=>?_⟩⟩
 rw [j_ f0] at Cn
 obtain ⟨S3,r3⟩:=S2.draw rA k3
 have F3:=F2.trans r3
 have U3:Un H3 Z fo (ls.map V.int):=⟨hfo,S2.kr.none nfo⟩
 show ip 3 (.ref fo) [some (.ref To),some (.int f),some (.int h),none,none,none,none] H3 _
 refine ⟨_,a_,xa1 To R 3 ⟨a_,S3.tn,by decide,by decide,λc H4 c0 c1 yI k4=>?_⟩⟩
 obtain ⟨S4,r4⟩:=S3.draw yI k4
 have U4:=U3.fr r4
 have F4:=F3.trans r4
 refine (xa0 _ _ ⟨a_,a_,2 + c,a_,by omega,by omega,Ef (lo:=0) (n:=(2 + c).toNat) (λi ys U H'=>∃ v zs,U = [v,some (.ref To)] /\ ys = (zs:b? i_).map V.int /\ zs.length = i /\ (∀ z ∈ zs,0 <= z /\ z <= 1000) /\ Tw H' Z To R /\ Fr dI Z H4 Z H') (xa0 none [] ⟨a_,a_,a_,(λ_ z=>by cases z),S4,Fr.refl⟩) ?_ ?_ ?_⟩)
 .rintro i ys U H' hi ⟨v,zs,rfl,rfl,lz,_⟩
  rw [i?]
  exact BQ (by omega)
 .rintro i ys U H' hi ⟨v,zs,rfl,rfl,lz,rz,S5,r5⟩
  dsimp only [ip,pX]
  rw [j_ a_]
  refine ⟨_,a_,_,a_,xa1 To R 40 ⟨a_,S5.tn,by decide,by decide,λm H6 m0 m1 hT6 k6=>?_⟩⟩
  obtain ⟨S6,r6⟩:=S5.draw hT6 k6
  refine ⟨Zd,λl nl=>?_⟩
  have s7:=jg (o:=.lst ([0,5,20,1000,m].map V.int)) nl
  have S7:=S6.same s7
  obtain ⟨n1,n2⟩:=S6.tn.fresh nl
  refine (xa2 To R l ([0,5,20,1000,m].map V.int) ⟨a_,S7.tn,ja,n1,n2,by show 0 < 5; decide,by show 5 <= 1000000; decide,λj x H8 ex hT8 k8=>?_⟩)
  obtain ⟨S8,r8⟩:=S7.draw hT8 k8
  obtain ⟨z,hz,rfl⟩:=int_at ex
  refine (xa0 _ (zs ++ [z]) ⟨a_,by rw [H_]; rfl,by rw [r_,lz]; rfl,λy hy=>?_,S8,(r5.trans r6).trans ((Fr.same s7).trans r8)⟩)
  rcases A_.mp hy with hy | hy
  .exact rz y hy
  .rw [m?.mp hy]
   simp only [B_,abF,afg] at hz
   rcases hz with rfl | rfl | rfl | rfl | rfl <;> omega
 rintro ys U H5 ⟨v,ns,rfl,rfl,lz,rz,S5,r5⟩ be Rm
 have s6:=jg (o:=.lst (ns.map V.int)) Rm
 have S6:=S5.same s6
 have JM:Un (upd H5 be (.lst (ns.map V.int))) Z be (ns.map V.int):=⟨ja,S5.kr.none Rm⟩
 have Rn:Un (upd H5 be (.lst (ns.map V.int))) Z fo (ls.map V.int):=(U4.fr r5).fr (P:=λ_=>v?) (Fr.same s6)
 have F6:Fr dI Z H Z (upd H5 be (.lst (ns.map V.int))):=(F4.trans r5).trans (Fr.same s6)
 generalize upd H5 be (.lst (ns.map V.int)) = H6 at S6 JM Rn F6
 show ip 4 (.ref be) [some (.ref To),some (.int f),some (.int h),some (.ref fo),none,none,none] H6 _
 refine ⟨_,a_,_,a_,xa0 be _ ⟨a_,.inl (ah.of JM.1),?_⟩⟩
 rw [i?]
 refine (xa2 To R (ns.length:i_) 2 ⟨a_,S6.tn,by omega,by omega,λro cs H7 nro tF k7 hro upc BW lnc=>?_⟩)
 rw [j_ (by decide)] at lnc
 obtain ⟨S7,r7⟩:=S6.draw tF k7
 have Uro:Un H7 Z ro (cs.map V.int):=⟨hro,S6.kr.none nro⟩
 have JN:=JM.fr r7
 have JO:=Rn.fr r7
 have F7:=F6.trans r7
 show ip 5 (.ref ro) [some (.ref To),some (.int f),some (.int h),some (.ref fo),some (.ref be),none,none] H7 _
 refine ⟨_,a_,_,a_,_,a_,_,a_,_,a_,λx dx nx Cg ne=>?_⟩
 obtain ⟨fm,krm⟩:=Q0 (C:=t.j3) nx Cg ne (r:=(0,.x)) S7.kr
 have rB:=JN.fr fm
 have rE:=JO.fr fm
 have rF:=Uro.fr fm
 have ln:ns.length = (2 + c).toNat:=lz
 refine (xb3 (aB Z x (0,.x)) 0 x dx h f be ns fo ro cs ls ⟨a_,ja,qu,krm,⟨h1,h8⟩,⟨f0,by omega⟩,lt,rB.1,(λr hr=>by rw [rB.2] at hr; cases hr),by omega,by omega,rz,.inl ⟨rE.1,λr hr=>by rw [rE.2] at hr; cases hr⟩,xX,xY,Cn,.inl ⟨rF.1,λr hr=>by rw [rF.2] at hr; cases hr⟩,upc,BW,λ Z' H8 W ex JP O ly f8 kr8=>⟨a_,?_⟩⟩)
 have gn:=qcz (cs:=cs) ⟨h1,h8⟩ f0 lt (by omega:ns.length <= 8) (λx hx=>(rz x hx).1) Cn xY
 have ek:(w0 h f ns cs ls).ks.map (·.1) = bo ls h.toNat:=by
  show ((bo ls h.toNat).map λi=>(i,kD ns)).map (·.1) = _
  rw [Ÿ]
  exact map_id _
 have lk:(bo ls h.toNat).length = (w0 h f ns cs ls).ks.length:=by rw [<- ek,i?]
 have k0:=gn.ok.k0
 have k1:=gn.ok.k1
 obtain ⟨tn8,tr8⟩:=rj f8 (λz=>by cases z) (λz=>by cases z) (S7.tn.same (λb u e=>(fm b u e (λ_ _ z=>z)).1)) ⟨by rw [qv (S7.tn.fresh nx).1.symm]; exact S7.tr.1,by rw [qv (S7.tn.fresh nx).2.symm]; exact S7.tr.2⟩
 have S8:Sw t H8 Z' W (w0 h f ns cs ls) 0 ⟨ns,cs,ls,bo ls h.toNat⟩ To R:=⟨⟨O,kr8,ly,⟨[],gn⟩,a_,a_,ek,JP⟩,tn8,tr8⟩
 have JQ:=rB.fr f8
 have yK:=rE.fr f8
 have JR:=rF.fr f8
 show ip 6 (V.ref x) [some (.ref To),some (.int f),some (.int h),some (.ref fo),some (.ref be),some (.ref ro),none] H8 _
 refine ⟨_,a_,_,a_,_,a_,_,a_,_,a_,h,a_,by omega,by omega,Ef (lo:=0) (n:=h.toNat) (λi ys U H'=>∃ v,U = [v,some (.ref fo)] /\ H' = H8 /\ ys = (bo ls i).map V.int) ⟨none,a_,a_,a_⟩ ?_ ?_ ?_⟩
 .rintro i ys U H' hi ⟨v,rfl,rfl,rfl⟩
  rw [i?]
  have:=Jw ls i
  exact BQ (by omega)
 .rintro i ys U H' hi ⟨v,rfl,rfl,rfl⟩
  have e0:(0:i_) + (i:i_) = i:=acV _
  rw [e0]
  refine ⟨_,a_,_,a_,xa0 fo _ ⟨a_,.inl (ah.of yK.1),a_,oB _,_,a_,?_⟩⟩
  rw [j_ a_,w6]
  by_cases z:(i:i_) ∈ ls
  .rw [j' z]
   refine gd ⟨_,a_,a_,?_⟩
   rw [BV,j_ z,å]
  .rw [t_ z]
   refine cb ⟨_,a_,_,a_,a_,?_⟩
   rw [BV,f? z,H_]
   rfl
 rintro ys U H9 ⟨v,rfl,rfl,rfl⟩ ho Ro
 have cW:=jg (o:=.lst ((bo ls h.toNat).map V.int)) Ro
 refine ⟨_,a_,_,a_,Zf,λpa Rp=>?_⟩
 have eS:=jg (o:=.tup [.ref x,.int h,.int f,.ref fo,.ref ho,.ref be,.ref ro]) Rp
 have fs:Fr (λ_=>v?) Z' H9 Z' _:=Fr.same (cW.trans eS)
 have S11:=(S8.same cW).same eS
 refine k Z' _ W _ pa h f fo ho be ro _ ⟨by show 2 <= ns.length; omega,by show ns.length <= 8; omega,BW,by show cs.length <= 1000; omega,by show ls.length <= 5; omega,by show 0 < (bo ls h.toNat).length; omega,by show (bo ls h.toNat).length <= 16; omega⟩ S11 ⟨⟨?_,(S8.same cW).w.kr.none Rp⟩,yK.fr fs,⟨eS _ _ ja,S8.w.kr.none Ro⟩,JQ.fr fs,JR.fr fs⟩ ⟨a_,Cn,lt,by omega,λx hx=>?_,rz,by show ns.length <= 4; omega⟩ (((F7.mono λ_ z=>.inr z).trans (fm.mono λ_ z=>z.elim)).trans ((f8.mono λ_ z=>.inl z).trans (fs.mono λ_ z=>z.elim)))
 rotate_left
 .rcases A_.mp hx with z | z
  .have:=Jv (show x ∈ bo ls h.toNat from z)
   omega
  .exact xY x z
 rw [ex]
 exact ja
theorem j9e {K:e?}{a:c_}{xs:b? V}{g:TG}{ti:TT}{te:TE}{U0:St}{H0:Hp}{Q:VK}(Pv:j?->b? V->St->Hp->Prop)(h0:Pv 0 [] U0 H0)(hl:∀i ys U H,i<=xs.length->Pv i ys U H->ax K H a xs/\ys.length<=k?)(hs:∀i x ys U H,xs[i]?=some x->Pv i ys U H->g x U H λ U2 H2=>ti U2 H2 λb H3=>if b=true then te U2 H3 λy H4=>Pv (i+1) (ys++[y]) U2 H4 else Pv (i+1) ys U2 H3)(hd:∀ys U H,Pv xs.length ys U H->∀p,H p=none->Q (.ref p) (upd H p (.lst ys))):
  xE (rO K a) g ti te U0 H0 Q:=BF xs.length Pv h0 (λi ys U H hi p=>(hl i ys U H hi p).2) (λi ys U H hi p=>⟨(xa0 xs (xs[i]) ⟨(hl i ys U H (Ć hi) p).1,by simp[hi]⟩),λx H' y=>by have q:=(hl i ys U H (Ć hi) p).1;obtain⟨e,z⟩:=y;subst e;exact hs i x ys U _ (z xs q) p⟩) λys U H p=>⟨⟨xs,(hl _ ys U H (s_ _) p).1,s_ _⟩,hd ys U H p⟩
theorem jp4 (T:Txt K mg t):zu P w K mg base CX0 1 t.Gu t.Gw ["self"] (λvs H Q _=>∃Z id h k A dk B,vs=[.ref k]/\xm t H Z id h k A dk B/\∀H' p,xf H H'->H p=none->cC H' (B.zm,B.held) p->Q (.ref p) H'):=by
 refine T.ji8.aZ (N:=["self"]) λ_ A _ s H vs Q E hr h=>?_;obtain⟨Z,id,h,k,A',dk,B,rfl,R,q⟩:=h;refine⟨_,(@je _ _ _ (j5 (@gR _ _ _ _ _ (@ye _ _ _ _ _ (y4 Af a_ T.oA boot_tuple (jc (j4 (pv 0) a_) jf)) (y4 Af a_ T.oA boot_tuple (jc (j4 (pv 0) a_) jf)) a_ a_)))),?_⟩;refine⟨_,a_,xa3 k _ dk _ _ ⟨a_,R.ob,T.jo,T.qt,(xb A').2.1,xa0 (A' 2) _ ⟨a_,.inl ⟨ah.of R.nn,λl1 h1=>?_⟩⟩⟩⟩;have s1:=jg (o:=.tup (B.zm.map V.int)) h1;refine⟨_,a_,xa3 k _ dk _ _ ⟨a_,s1 _ _ R.ob,T.jo,T.xc,(xb A').1,xa0 (A' 1) _ ⟨a_,.inl ⟨ah.of (s1 _ _ R.he),λl2 h2=>?_⟩⟩⟩⟩;have s2:=jg (o:=.tup (B.held.map V.int)) h2;refine⟨by show 2<=k?;decide,λp hp=>?_⟩;have s3:=jg (o:=.tup [.ref l1,.ref l2]) hp;refine q _ p (s1.trans (s2.trans s3)) ?_ (xa0 l1 l2 ⟨ja,?_,?_⟩)
 .cases e:H p with
  |none=>rfl
  |some u=>exact v_ (s2 _ _ (s1 _ _ e)) (by rw[hp];intro z;cases z)
 .exact s3 _ _ (s2 _ _ ja)
 .exact s3 _ _ ja
theorem Rq (T:Txt K mg t):zu P w K mg base CX0 4 t.Hg t.Hh ["world","house"] (λvs H Q _=>∃Z id W Y h B,vs=[.ref W.x,.int h]/\qo t H Z id W Y/\Y.keep h=some B/\∀H' p,xf H H'->H p=none->cC H' (B.zm,B.held) p->Q (.ref p) H'):=by
 refine T.Iw.aZ (N:=["world","house"]) λ_ A _ s H vs Q E hr h=>?_;obtain⟨Z,id,W,Y,h,B,rfl,O,e,q⟩:=h;refine⟨_,(@jb _ _ _ _ _ (j8 (jm (Rb T) hr.dn a_ T.OO T.Iv.kp T.OP .nil jq (jc (pv 0) jf))) (@je _ _ _ (j5 (vg (j7 (pv 0) T.jk T.zv (x8 T) hr.dn T.xl .nil jq (jc (pv 1) jf)) T.jo T.jh1 (jp4 T) hr.dn T.jjl .nil jq)))),?_⟩;exact⟨_,a_,xa1 W.x _ _ ⟨a_,O.ob.1,_,a_,xa1 W.x W.dx _ ⟨a_,O.ob.1,xn,_,a_,xa5 Z id W Y h B ⟨a_,O,e,λk A' dk R=>(xa1 k dk _ ⟨a_,R.ob,fX A',xa6 Z id h k A' dk B ⟨a_,R,q⟩⟩)⟩⟩⟩⟩
noncomputable def JS (n:j?)(ks:b? i_):Prop:=ks.length=n/\∀k∈ks,0<=k/\k<=100000
noncomputable def y8 (n:j?)(aJ:i_)(k:Cut):Prop:=JS n k.1/\JS n k.2/\k.2.sum=aJ
theorem Rr (T:Txt K mg t):zu P w K mg base CX0 3 t.Hi t.Hj ["thing","many"] (λvs H Q _=>∃a ks n,vs=[.ref a,.int (n:j?)]/\H a=some (.tup (ks.map V.int))/\JS n ks/\n<=1000/\∀H',xf H H'->Q (.bl true) H'):=by
 refine T.Iy.aZ (N:=["thing","many"]) λ_ A _ s H vs Q E hr h=>?_;obtain⟨a,ks,n,rfl,e,⟨ln,rg⟩,l1,k⟩:=h;refine⟨_,(@jb _ _ _ _ _ (zo (PW.pt (eX (xw (zt (jl sr a_ T.jy boot_isinstance (@ye _ _ _ _ _ (pv 0) (lR (v:=.ty "tuple") a_ T.oA boot_tuple a_) a_ a_)))) (fQ (ju rQ (jl jt a_ T.cB boot_len (jc (pv 0) jf)) (pv 1) (qc _))))) (@je _ _ _ (j5 gQ)) qe) (@je _ _ _ (j5 (jl (Mp a_) a_ T.Pq boot_all (jc (jI (N':=["each"]) (ix:=[none]) (yg (by kernel_rfl)) a_ (@K1 _ _ _ _ (pv 0)) (λ_ _ _ _=>(jw (i:=0) Zv a_ (w_ a_) (.inr a_))) (λ_ _ _ _=>sf) (λ_ _ _ _=>(jm (qy T) hr.dn a_ T.zb T.qr.kp T.zf .nil jq (@cA _ _ _ _ _ _ _ (pv 0) jn (zk (v:=.int 100000) a_ T.jnj.choose_spec ⟨_,a_⟩) a_ a_ a_)))) jf))))),?_⟩;refine⟨_,a_,xa2 _ _ _ true ⟨a_,.tup e,a_,_,a_,gd ?_⟩⟩;refine⟨_,a_,xa0 a _ ⟨a_,.inr (ax.of e),_,a_,a_,_,a_,?_⟩⟩;rw[i?,ln,j' (a_:V.int (n:i_)=V.int n)];refine gd ?_;refine⟨_,a_,a,a_,⟨_,ax.of e⟩,j9e (K:=K) (a:=a) (xs:=ks.map V.int) (λi ys U' H'=>∃v,U'=[v]/\H'=H/\ys=(l' i true).map V.bl) ⟨none,a_,a_,a_⟩ ?_ ?_ ?_⟩
 .rintro i ys U' H' hi ⟨v,rfl,rfl,rfl⟩
  refine⟨ax.of e,hJ ?_⟩;rw[i?]at hi⊢;rw[W?];omega
 .rintro i x ys U' H' hx ⟨v,rfl,rfl,rfl⟩
  dsimp only[ip,pX];rw[j_ a_];obtain⟨z,hz,rfl⟩:=int_at hx;refine⟨_,a_,xa1 z 0 100000 ⟨a_,?_⟩⟩;rw[j' (rg z hz)];exact⟨_,a_,a_,by rw[adp,H_];rfl⟩
 .rintro ys U' H' ⟨v,rfl,rfl,rfl⟩ p hp
  refine(xa0 p (l' (ks.map V.int).length true) ⟨a_,ah.of ja,?_⟩);rw[show(l' (ks.map V.int).length true).all id=true by rw[b?.all_replicate];simp];exact k _ (jg hp)
theorem j1q (T:Txt K mg t):zu P w K mg base CX0 4 t.Hk t.Hl ["thing","purses","total"] (λvs H Q _=>∃a k n aJ,vs=[.ref a,.int (n:j?),.int aJ]/\cC H k a/\y8 n aJ k/\n<=1000/\∀H',xf H H'->Q (.bl true) H'):=by
 refine T.OU.dO FD λ_ A _ s H vs Q E hr h=>?_;obtain⟨a,k,n,aJ,rfl,⟨c,d,h1,h2,h3⟩,⟨g1,g2,g3⟩,l1,q⟩:=h;refine⟨_,(@jb _ _ _ _ _ (zo (PW.pt (eX (xw (zt (jl sr a_ T.jy boot_isinstance (@ye _ _ _ _ _ (pv 0) (lR (v:=.ty "tuple") a_ T.oA boot_tuple a_) a_ a_)))) (fQ (ju rQ (jl jt a_ T.cB boot_len (jc (pv 0) jf)) jn (qc _))))) (@je _ _ _ (j5 gQ)) qe) (@jb _ _ _ _ _ (lU (pv 0) (pE a_ (qf (jw (i:=3) FD.nd a_ (w_ a_)) (qf (jw (i:=4) FD.nd a_ (w_ a_)) pD)))) (@je _ _ _ (j5 (lT (jm (Rr T) hr.dn a_ T.OS T.Iy.kp T.OT .nil jq (@ye _ _ _ _ _ (pv 3) (pv 1) a_ a_)) (lT (jm (Rr T) hr.dn a_ T.OS T.Iy.kp T.OT .nil jq (@ye _ _ _ _ _ (pv 4) (pv 1) a_ a_)) (pA (kP eI (jl (NK a_) a_ T.sN boot_sum (jc (pv 4) jf)) (pv 2) (qc _))))))))),?_⟩;refine⟨_,a_,xa2 _ _ _ true ⟨a_,.tup h1,a_,_,a_,gd ?_⟩⟩;refine⟨_,a_,xa0 a _ ⟨a_,.inr (ax.of h1),a_,_,a_,gd ?_⟩⟩;refine⟨_,a_,xa0 a _ ⟨a_,ax.of h1,a_,xa0 _ _ ⟨a_,xa0 _ _ ⟨a_,a_,?_⟩⟩⟩⟩;refine⟨_,a_,_,a_,xa1 c k.1 n ⟨a_,h2,g1,l1,λH1 s1=>⟨_,a_,cb ?_⟩⟩⟩;refine⟨_,a_,_,a_,xa1 d k.2 n ⟨a_,s1 _ _ h3,g2,l1,λH2 s2=>⟨_,a_,cb ?_⟩⟩⟩;refine⟨_,a_,xa0 d k.2 ⟨a_,ax.of (s2 _ _ (s1 _ _ h3)),_,a_,a_,?_⟩⟩;rw[g3,j' (a_:V.int aJ=V.int aJ)];exact q _ (s1.trans s2)
noncomputable def lM (x Bq:c_):b? (y_×V):=wm "board" (.ref Bq) (wm "world" (.ref x) [])
theorem Co (x Bq:c_):(lM x Bq).lookup ("board":y_)=some (.ref Bq):=by unfold lM;rw[jj,j_ a_]
theorem Cp (x Bq:c_):(lM x Bq).lookup ("world":y_)=some (.ref x):=by unfold lM;rw[jj,f? (by decide+kernel),jj,j_ a_]
theorem tG (x Bq:c_){m:y_}(h1:¬m="board")(h2:¬m="world"):(lM x Bq).lookup m=none:=by unfold lM;rw[jj,f? h1,jj,f? h2];rfl
structure mS (P:n_)(w:z?)(t:Ad)(H:Hp)(Z:aq)(C dC Bq dB S:c_)(en:i_)(x:c_)(xs:P2)(ps:jx):Prop where
 ob:H C=some (.ins t.qm dC (lM x Bq))/\Z C=some (8,.x)
 bd:jX P w t H Bq dB S en xs ps
 rb:Z Bq=some (8,.bd)
 rs:Z S=some (8,.sd)
 rl:∀y∈xs,∃c,y.2.2= .ref c/\Z c=some (8,.sg)
theorem tH {Z:aq}{H:Hp}{b:c_}{ys:b? V}(k:aw Z H)(e:H b=some (.tup ys)):Z b=none:=by
 cases er:Z b with
 |none=>rfl
 |some r=>obtain⟨u,hu,nu⟩:=k b r er;rw[e]at hu;cases hu;exact nu.elim
theorem mS.fr {P:n_}{w:z?}{t:Ad}{H H':Hp}{Z Z':aq}{C dC Bq dB S:c_}{en:i_}{x:c_}{xs:P2}{ps:jx}{F:Role->Prop}(h:mS P w t H Z C dC Bq dB S en x xs ps)(kr:aw Z H)(f:Fr F Z H Z' H')(n:∀p,¬F (8,p)):mS P w t H' Z' C dC Bq dB S en x xs ps:=by
 have tp:∀b ys,H b=some (.tup ys)->H' b=some (.tup ys):=λb ys e=>(dS f e (tH kr e)).1;have go:∀{a:c_}{u:HO}{p:Part},H a=some u->Z a=some (8,p)->H' a=some u/\Z' a=some (8,p):=λ{a u p} e r=>cq f e r (n p);have oS:∃u,H S=some u:=h.bd.sg.1.elim (λe=>⟨_,e⟩) λe=>⟨_,e.2⟩;obtain⟨u,hu⟩:=oS;have iB:=go hu h.rs;have Rt:∀y∈xs,∃c,y.2.2= .ref c/\Z' c=some (8,.sg)/\∀u,H c=some u->H' c=some u:=λy hy=>by obtain⟨c,e,r⟩:=h.rl y hy;obtain⟨u,hu,_⟩:=kr c _ r;exact⟨c,e,(go hu r).2,λu' dq=>(go dq r).1⟩
 refine⟨go h.ob.1 h.ob.2,⟨(go h.bd.ob h.rb).1,⟨?_,λy hy=>(h.bd.sg.2 y hy).keeps tp⟩,?_,h.bd.un⟩,(go h.bd.ob h.rb).2,iB.2,λy hy=>let⟨c,e,r,_⟩:=Rt y hy;⟨c,e,r⟩⟩
 .rcases h.bd.sg.1 with e|⟨e1,e⟩
  .exact .inl (go e h.rs).1
  .exact .inr ⟨e1,(go e h.rs).1⟩
 .have aux:∀{aE:P2}{tI:jx},(∀y∈aE,y∈xs)->g? (iH H) aE tI->g? (iH H') aE tI:=λ{aE tI} sub q=>by
   induction q with
   |nil=>exact .nil
   |@cons y p ys ps a r ih=>obtain⟨e,b,eb,hb⟩:=a;obtain⟨c,ec,_,kc⟩:=Rt y (sub y (by simp));rw[eb]at ec;cases ec;exact .cons ⟨e,b,eb,kc _ hb⟩ (ih λz hz=>sub z (by simp[hz]))
  exact aux (λ_ z=>z) h.bd.hs
open Classical in
noncomputable def lN (Z : aq) (xs aE:P2) : aq:=λa=>if ∃ y ∈ aE,y.2.2 = .ref a then some (8,.sg) else if ∃ y ∈ xs,y.2.2 = .ref a then none else Z a
theorem mS.put {P:n_}{w:z?}{t:Ad}{H H2:Hp}{Z:aq}{C dC Bq dB S:c_}{en:i_}{x:c_}{xs aE:P2}{ps tI:jx}(h:mS P w t H Z C dC Bq dB S en x xs ps)(kr:aw Z H)(B2:jX P w t H2 Bq dB S en aE tI)(k2:∀c u,H c=some u->c≠S->lD xs c->H2 c=some u)(iY:∀c u,H c=some u->lD xs c->lD aE c):mS P w t H2 (lN Z xs aE) C dC Bq dB S en x aE tI/\Fr (λr=>r.1=8) Z H (lN Z xs aE) H2/\aw (lN Z xs aE) H2:=by
 have lG:∀{a:c_},(∃y∈xs,y.2.2= .ref a)->Z a=some (8,.sg):=λ{a} ⟨y,m,e⟩=>by obtain⟨c,ec,rc⟩:=h.rl y m;rw[e]at ec;cases ec;exact rc
 have nS:∀{a:c_}{r:Role}{u:HO},Z a=some r->H a=some u->r≠(8,.sg)->lN Z xs aE a=some r:=λ{a r u} er eu n=>by have n1:¬∃y∈xs,y.2.2= .ref a:=λz=>n (o_ (er.symm.trans (lG z)));have n3:¬∃y∈aE,y.2.2= .ref a:=λ⟨y,m,e'⟩=>iY a u eu (λy m e=>n1 ⟨y,m,e⟩) y m e';unfold lN;rw[f? n3,f? n1];exact er
 have f2:Fr (λr=>r.1=8) Z H (lN Z xs aE) H2:=λa u e n=>by have n1:¬∃y∈xs,y.2.2= .ref a:=λz=>n _ (lG z) a_;have n2:lD xs a:=λy m e=>n1 ⟨y,m,e⟩;have n3:¬∃y∈aE,y.2.2= .ref a:=λ⟨y,m,e'⟩=>iY a u e n2 y m e';refine⟨k2 a u e (λz=>n _ (z ▸ h.rs) a_) n2,?_⟩;unfold lN;rw[f? n3,f? n1]
 have yL:∀y∈aE,∃c l,y.2.2= .ref c/\H2 c=some (.lst l):=λy m=>by obtain⟨j,hj,ej⟩:=Î.mp m;obtain⟨pp,_,_,c,ec,hc⟩:=qa B2.hs (by rw[n? hj,ej]);exact(xa0 c _ ⟨ec,hc⟩)
 have oS:∃u,H2 S=some u/\oE u:=B2.sg.1.elim (λe=>⟨_,e,q_⟩) λe=>⟨_,e.2,q_⟩;have oS1:∃u,H S=some u:=h.bd.sg.1.elim (λe=>⟨_,e⟩) λe=>⟨_,e.2⟩;obtain⟨uS,hS⟩:=oS1;have bV:aw (lN Z xs aE) H2:=λa ro e=>by
  unfold lN at e;split at e
  .rename_i Jq;obtain⟨y,m,ev⟩:=Jq;obtain⟨c,l,ec,hc⟩:=yL y m;rw[ev]at ec;cases ec;exact⟨_,hc,q_⟩
  .split at e
   .cases e
   .rename_i n1;obtain⟨u,hu,nu⟩:=kr a ro e;by_cases z:a=S
    .subst z;exact oS
    .exact⟨u,k2 a u hu z (λy m e=>n1 ⟨y,m,e⟩),nu⟩
 have oC:H2 C=some (.ins t.qm dC (lM x Bq)):=k2 _ _ h.ob.1 (λz=>by
  have:=h.ob.2;rw[z,h.rs]at this;cases this) λy m e=>by
  have:=h.ob.2;rw[lG ⟨y,m,e⟩]at this;cases this
 refine⟨⟨⟨oC,nS h.ob.2 h.ob.1 (by intro z;cases z)⟩,B2,nS h.rb h.bd.ob (by intro z;cases z),nS h.rs hS (by intro z;cases z),λy m=>?_⟩,f2,bV⟩;obtain⟨c,l,ec,hc⟩:=yL y m;refine⟨c,ec,?_⟩;unfold lN;rw[j_ ⟨y,m,ec⟩]
theorem jmb (T:Txt K mg t):zu P w K mg base CX0 3 t.vn t.Hm ["self","world"] (λvs H Q E=>∃C dC x,vs=[.ref C,x]/\H C=some (.ins t.qm dC [])/\∃Z id W Y,x= .ref W.x/\qo t H Z id W Y/\aw Z H/\Z C=some (8,.x)/\id≠8/\∀Z' H' Bq dB S,mS P w t H' Z' C dC Bq dB S Y.en W.x [] []->Fr (λr=>r.1=8) Z H Z' H'->aw Z' H'->Q .ar H'):=by
 refine T.je0.aZ (N:=["self","world"]) λ_ A _ s H vs Q E hr h=>?_;obtain⟨C,dC,x,rfl,hC,Z,id,W,Y,rfl,O,kr,rC,n8,q⟩:=h;refine⟨_,(@jb _ _ _ _ _ (j8 (jm (Rb T) hr.dn a_ T.OO T.Iv.kp T.OP .nil jq (jc (pv 1) jf))) (@jb _ _ _ _ _ (dN (pv 0) (pv 1) a_) (@je _ _ _ (dN (pv 0) (zZ T.OB (PM T) hr.dn a_ T.Pg T.OD .nil jq (jc (j4 (j4 (pv 1) a_) a_) jf)) a_)))),?_⟩;refine⟨_,a_,xa1 W.x _ _ ⟨a_,O.ob.1,?_⟩⟩;refine⟨_,a_,_,a_,xa2 C _ dC _ ⟨a_,hC,T.ze,T.xu,(by show 0<1000;decide),?_⟩⟩;have f1:Fr (λr=>r.1=8) Z H Z (upd H C (.ins t.qm dC (wm "world" (.ref W.x) []))):=Fr.put rC a_;have bJ:aw Z (upd H C (.ins t.qm dC (wm "world" (.ref W.x) []))):=kr.put;have O1:=O.fr (λ_ z=>n8 z) f1;have sH:upd H C (.ins t.qm dC (wm "world" (.ref W.x) [])) C=some (.ins t.qm dC (wm "world" (.ref W.x) [])):=ja;generalize upd H C (.ins t.qm dC (wm "world" (.ref W.x) []))=H1 at f1 bJ O1 sH⊢;obtain⟨_,_,aa,Bw,_⟩:=O1.bd;refine⟨_,a_,xa3 W.x _ W.dx _ _ ⟨a_,O1.ob.1,T.jk,T.x9,xP,xa3 W.bd _ W.db _ _ ⟨a_,Bw.ob,T.qj,T.qk,wo _ _,λ Bq dB hB Ru ne=>(xa1 Bq dB Y.en ⟨a_,ja,λS H3 JT B3 k3=>⟨a_,?_⟩⟩)⟩⟩⟩;have s2:∀b u,H1 b=some u->H3 b=some u:=λb u e=>by
  have bB:=jh e hB;exact k3 b u (by rw[jd bB,jd (jh e Ru)];exact e) bB
 have CB:C≠Bq:=jh sH hB;have SB:S≠Bq:=λz=>by rw[z,ja]at JT;cases JT
 have Rv:H1 S=none:=by
  cases e:H1 S with
  |none=>rfl
  |some u=>
   have:upd (upd H1 dB (.own Bq)) Bq (.ins t.y6 dB []) S=some u:=by rw[jd SB,jd (jh e Ru)];exact e
   rw[JT]at this;cases this
 have CS:C≠S:=jh sH Rv;refine⟨_,a_,xa2 C _ dC _ ⟨a_,s2 _ _ sH,T.ze,T.xt,(by show 1<1000;decide),?_⟩⟩;have f3:Fr (λr=>r.1=8) Z H1 (aB (aB Z Bq (8,.bd)) S (8,.sd)) (upd H3 C (.ins t.qm dC (lM W.x Bq))):=λa u e n=>by have naC:a≠C:=λz=>n _ (z ▸ rC) a_;refine⟨by rw[jd naC];exact s2 _ _ e,?_⟩;rw[qv (jh e Rv),qv (jh e hB)]
 refine q (aB (aB Z Bq (8,.bd)) S (8,.sd)) _ Bq dB S ⟨⟨ja,by rw[qv CS,qv CB];exact rC⟩,⟨by rw[jd CB.symm];exact B3.ob,⟨.inr ⟨a_,by rw[jd CS.symm];exact B3.sg⟩,λ_ z=>by cases z⟩,.nil,.nil⟩,by rw[qv SB.symm,qu],qu,λ_ z=>by cases z⟩ (f1.trans f3) λa r e=>?_;by_cases z:a=S
 .subst z;exact⟨.dT [],by rw[jd CS.symm];exact B3.sg,q_⟩
 .rw[qv z]at e;by_cases y:a=Bq
  .subst y;exact⟨.ins _ _ _,by rw[jd CB.symm];exact B3.ob,q_⟩
  .rw[qv y]at e;by_cases x:a=C
   .subst x;exact⟨_,ja,q_⟩
   .obtain⟨u,hu,nu⟩:=bJ a r e;exact⟨u,by rw[jd x];exact s2 _ _ hu,nu⟩
theorem Rw (T:Txt K mg t):zu P w K mg base CX0 5 t.uv t.uj ["self","cut"] (λvs H Q _=>∃(C dC Bq:c_)(W:WA)(n:j?)(a:c_)(k:Cut),vs=[.ref C,.ref a]/\H C=some (.ins t.qm dC (lM W.x Bq))/\H W.x=some (.ins t.j3 W.dx (W.fs n))/\cC H k a/\y8 n W.aJ k/\n<=1000/\∀H',xf H H'->Q .ar H'):=by refine T.jeb.aZ (N:=["self","cut"]) λ_ A _ s H vs Q E hr h=>?_;obtain⟨C,dC,Bq,W,n,a,k,rfl,hC,hW,hk,gk,l1,q⟩:=h;refine⟨_,(@je _ _ _ (zo (xw (zt (pN (j1q T) hr.dn a_ T.jyy T.OU.kp T.js6 jq (jc (pv 1) jf) (iw (j4 (j4 (pv 0) a_) a_) (iw (j4 (j4 (pv 0) a_) a_) nJ))))) zd qe)),?_⟩;exact⟨_,a_,_,a_,xa3 C _ dC _ _ ⟨a_,hC,T.ze,T.xu,Cp _ _,xa3 W.x _ W.dx _ _ ⟨a_,hW,T.jk,T.yj,BN,_,a_,xa3 C _ dC _ _ ⟨a_,hC,T.ze,T.xu,Cp _ _,xa3 W.x _ W.dx _ _ ⟨a_,hW,T.jk,T.Pj,j2a,xa2 a k n W.aJ ⟨a_,hk,gk,l1,λH1 s1=>⟨_,a_,gd (q _ s1)⟩⟩⟩⟩⟩⟩⟩
structure i0 (P:n_)(w:z?)(t:Ad)(H:Hp)(Z:aq)(W:WA)(Y:Wd)(C dC Bq dB S:c_)(en:i_)(xs:P2)(ps:jx):Prop where
 wr:qo t H Z 0 W Y
 ct:mS P w t H Z C dC Bq dB S en W.x xs ps
 kr:aw Z H
theorem i0.same {P:n_}{w:z?}{t:Ad}{H H':Hp}{Z:aq}{W:WA}{Y:Wd}{C dC Bq dB S:c_}{en:i_}{xs:P2}{ps:jx}(s:xf H H')(h:i0 P w t H Z W Y C dC Bq dB S en xs ps):i0 P w t H' Z W Y C dC Bq dB S en xs ps:=⟨h.wr.same s,h.ct.fr (F:=λ_=>v?) h.kr (Fr.same s) λ_ z=>z,h.kr.same s⟩
noncomputable def mT (ps:jx)(k:Cut)(h:i_):jx:=if h∈jv ps k then ps else jY ps k h
noncomputable def Cq:Role->Prop:=λr=>r.1=8
theorem yM {H H':Hp}{Z Z':aq}{F:Role->Prop}{k:Cut}{b:c_}(f:Fr F Z H Z' H')(kr:aw Z H)(h:cC H k b):cC H' k b:=by obtain⟨c,d,h1,h2,h3⟩:=h;exact(xa0 c d ⟨(dS f h1 (tH kr h1)).1,(dS f h2 (tH kr h2)).1,(dS f h3 (tH kr h3)).1⟩)
noncomputable def oK (P:n_)(w:z?)(t:Ad)(H:Hp)(Z:aq)(W:WA)(Y:Wd)(C dC Bq dB S:c_)(en:i_)(ps:jx)(k:Cut)(h:i_)(N:aq->Hp->Prop):Prop:=∀Z' H' aE,i0 P w t H' Z' W Y C dC Bq dB S en aE (mT ps k h)->Fr Cq Z H Z' H'->N Z' H'
theorem oK.old {P:n_}{w:z?}{t:Ad}{H H':Hp}{Z:aq}{W:WA}{Y:Wd}{C dC Bq dB S:c_}{en h:i_}{xs:P2}{ps:jx}{k:Cut}{N:aq->Hp->Prop}(q:oK P w t H Z W Y C dC Bq dB S en ps k h N)(R:i0 P w t H Z W Y C dC Bq dB S en xs ps)(z:h∈jv ps k)(s:xf H H'):N Z H':=by refine q Z H' xs ?_ (Fr.same s);rw[mT,j_ z];exact R.same s
theorem oK.new {P:n_}{w:z?}{t:Ad}{H H2:Hp}{Z:aq}{W:WA}{Y:Wd}{C dC Bq dB S:c_}{en h:i_}{xs aE:P2}{ps:jx}{k:Cut}{N:aq->Hp->Prop}(q:oK P w t H Z W Y C dC Bq dB S en ps k h N)(R:i0 P w t H Z W Y C dC Bq dB S en xs ps)(z:h∉jv ps k)(B2:jX P w t H2 Bq dB S en aE (jY ps k h))(k2:∀c u,H c=some u->c≠S->lD xs c->H2 c=some u)(iY:∀c u,H c=some u->lD xs c->lD aE c):∃Z',Fr Cq Z H Z' H2/\N Z' H2:=by
 obtain⟨c2,f,kr⟩:=R.ct.put R.kr B2 k2 iY;refine⟨_,f,q _ H2 aE ?_ f⟩;rw[mT,f? z];exact⟨R.wr.fr (λ_ z=>by cases z) f,c2,kr⟩
theorem jr8 (T:Txt K mg t):zu P w K mg base CX0 5 t.Hn t.Ho ["self","house"] (λvs H Q _=>∃Z W Y C dC Bq dB S en xs ps h B,vs=[.ref C,.int h]/\i0 P w t H Z W Y C dC Bq dB S en xs ps/\Y.keep h=some B/\xs.length<=1000/\(jv ps (B.zm,B.held)).length<=1000/\∀p,oK P w t H Z W Y C dC Bq dB S en ps (B.zm,B.held) h λ_ H'=>cC H' (B.zm,B.held) p->Q (.ref p) H'):=by
 refine T.jkq.dO Oh λ_ A _ s H vs Q E hr h=>?_;obtain⟨Z,W,Y,C,dC,Bq,dB,S,en,xs,ps,h,B,rfl,R,e,lx,lh,q⟩:=h;refine⟨_,(@jb _ _ _ _ _ (j9 (i:=2) Oh.nd a_ (w_ a_) (jm (Rq T) hr.dn a_ T.OQ T.Iw.kp T.OR .nil jq (@ye _ _ _ _ _ (j4 (pv 0) a_) (pv 1) a_ a_))) (@jb _ _ _ _ _ (j8 (j7 (j4 (pv 0) a_) T.qj T.Im (PJ T) hr.dn T.Io .nil jq (@ye _ _ _ _ _ (pv 1) (pv 2) a_ a_))) (@je _ _ _ (j5 (pv 2))))),?_⟩;refine⟨_,a_,xa3 C _ dC _ _ ⟨a_,R.ct.ob.1,T.ze,T.xu,Cp _ _,_,a_,xa5 Z 0 W Y h B ⟨a_,R.wr,e,λH1 p s1 hp c1=>?_⟩⟩⟩;have R1:=R.same s1;have q1:oK P w t H1 Z W Y C dC Bq dB S en ps (B.zm,B.held) h _:=λ Z' H' aE R2 f=>q p Z' H' aE R2 ((Fr.same s1).trans f);refine⟨_,a_,xa3 C _ dC _ _ ⟨a_,R1.ct.ob.1,T.ze,T.xt,Co _ _,xa1 Bq dB _ ⟨a_,R1.ct.bd.ob,lC _ _ (by decide+kernel) (by decide+kernel),_,a_,_,a_,xa4 Bq dB S en xs ps p (B.zm,B.held) h ⟨a_,R1.ct.bd,c1.pair,lx,lh,λz H2 s2=>⟨_,a_,q1.old R1 z s2 (c1.same s2)⟩,λz aE H2 B2 k2 iY=>?_⟩⟩⟩⟩;obtain⟨Z',f,n⟩:=q1.new R1 z B2 k2 iY;exact⟨_,a_,n (yM f R1.kr c1)⟩
theorem jsv (T:Txt K mg t):zu P w K mg base CX0 6 t.Hq t.Hr ["self","liar","cut"] (λvs H Q _=>∃Z W Y C dC Bq dB S en xs ps h ls a k,vs=[.ref C,.int h,.ref a]/\i0 P w t H Z W Y C dC Bq dB S en xs ps/\H W.ly=some (.lst ((ls:b? i_).map V.int))/\h∈ls/\cC H k a/\y8 Y.n W.aJ k/\Y.n<=1000/\xs.length<=1000/\(jv ps k).length<=1000/\oK P w t H Z W Y C dC Bq dB S en ps k h λ_ H'=>Q .ar H'):=by
 refine T.jm6.aZ (N:=["self","liar","cut"]) λ_ A _ s H vs Q E hr h=>?_;obtain⟨Z,W,Y,C,dC,Bq,dB,S,en,xs,ps,h,ls,a,k,rfl,R,hl,hm,c,gk,l1,lx,lh,q⟩:=h;refine⟨_,(@jb _ _ _ _ _ (j8 (j7 (j4 (pv 0) a_) T.jk T.uf (QN T) hr.dn T.OL .nil jq (jc (pv 1) jf))) (@jb _ _ _ _ _ (j8 (j7 (pv 0) T.ze T.gz (Rw T) hr.dn T.pq .nil jq (jc (pv 2) jf))) (@je _ _ _ (j8 (j7 (j4 (pv 0) a_) T.qj T.Im (PJ T) hr.dn T.Io .nil jq (@ye _ _ _ _ _ (pv 1) (pv 2) a_ a_)))))),?_⟩;refine⟨_,a_,xa3 C _ dC _ _ ⟨a_,R.ct.ob.1,T.ze,T.xu,Cp _ _,xa1 W.x W.dx _ ⟨a_,R.wr.ob.1,xn,_,a_,xa5 Z 0 W Y h ls ⟨a_,R.wr,hl,hm,?_⟩⟩⟩⟩;refine⟨_,a_,xa1 C dC _ ⟨a_,R.ct.ob.1,tG _ _ (by decide+kernel) (by decide+kernel),_,a_,xa6 C dC Bq W Y.n a k ⟨a_,R.ct.ob.1,R.wr.ob.1,c,gk,l1,λH1 s1=>?_⟩⟩⟩;have R1:=R.same s1;have q1:oK P w t H1 Z W Y C dC Bq dB S en ps k h _:=λ Z' H' aE R2 f=>q Z' H' aE R2 ((Fr.same s1).trans f);refine⟨_,a_,xa3 C _ dC _ _ ⟨a_,R1.ct.ob.1,T.ze,T.xt,Co _ _,xa1 Bq dB _ ⟨a_,R1.ct.bd.ob,lC _ _ (by decide+kernel) (by decide+kernel),_,a_,_,a_,xa4 Bq dB S en xs ps a k h ⟨a_,R1.ct.bd,(c.same s1).pair,lx,lh,λz H2 s2=>q1.old R1 z s2,λz aE H2 B2 k2 iY=>?_⟩⟩⟩⟩;obtain⟨Z',f,n⟩:=q1.new R1 z B2 k2 iY;exact n
theorem jjf (T:Txt K mg t):zu P w K mg base CX0 6 t.gr t.gm ["self","cut"] (λvs H Q _=>∃Z W Y C dC Bq dB S en xs ps a k,vs=[.ref C,.ref a]/\i0 P w t H Z W Y C dC Bq dB S en xs ps/\cC H k a/\y8 Y.n W.aJ k/\Y.n<=1000/\(jv ps k).length<64/\∀H' r (ns:b? i_),xf H H'->H' r=some (.lst (ns.map V.int))->ns.Perm (jv ps k)->ns.Pairwise (·<=·)->Q (.ref r) H'):=by
 refine T.jcy.aZ (N:=["self","cut"]) λ_ A _ s H vs Q E hr h=>?_;obtain⟨Z,W,Y,C,dC,Bq,dB,S,en,xs,ps,a,k,rfl,R,c,gk,l1,l64,q⟩:=h;refine⟨_,(@jb _ _ _ _ _ (j8 (j7 (pv 0) T.ze T.gz (Rw T) hr.dn T.pq .nil jq (jc (pv 1) jf))) (@je _ _ _ (j5 (j7 (j4 (pv 0) a_) T.qj T.jea (jlm T) hr.dn T.jex .nil jq (jc (pv 1) jf))))),?_⟩;refine⟨_,a_,xa1 C dC _ ⟨a_,R.ct.ob.1,tG _ _ (by decide+kernel) (by decide+kernel),_,a_,xa6 C dC Bq W Y.n a k ⟨a_,R.ct.ob.1,R.wr.ob.1,c,gk,l1,λH1 s1=>?_⟩⟩⟩;have R1:=R.same s1;exact⟨_,a_,xa3 C _ dC _ _ ⟨a_,R1.ct.ob.1,T.ze,T.xt,Co _ _,xa1 Bq dB _ ⟨a_,R1.ct.bd.ob,lC _ _ (by decide+kernel) (by decide+kernel),_,a_,xa9 Bq dB S en xs ps a k ⟨a_,R1.ct.bd.rd,c.same s1,l64,λH2 r ns s2 _ e p o=>q H2 r ns (s1.trans s2) e p o⟩⟩⟩⟩
theorem jrx (T:Txt K mg t):zu P w K mg base CX0 3 t.Hs t.Ht ["self"] (λvs H Q _=>∃Z W Y C dC Bq dB S en xs ps,vs=[.ref C]/\i0 P w t H Z W Y C dC Bq dB S en xs ps/\ps.length<64/\(ps.map (·.1)).Nodup/\∀H' r eD bI,xf H H'->H' r=some (.lst eD)->eN K H' eD bI->bI.Perm (qq ps en)->bI.Pairwise (λa b=>eC a b=true)->Q (.ref r) H'):=by
 refine T.jk0.aZ (N:=["self"]) λ_ A _ s H vs Q E hr h=>?_;obtain⟨Z,W,Y,C,dC,Bq,dB,S,en,xs,ps,rfl,R,l64,nd,q⟩:=h;refine⟨_,(@je _ _ _ (j5 (vg (j4 (pv 0) a_) T.qj T.OE (jop T) hr.dn T.OF .nil jq))),?_⟩;exact⟨_,a_,xa3 C _ dC _ _ ⟨a_,R.ct.ob.1,T.ze,T.xt,Co _ _,xa1 Bq dB _ ⟨a_,R.ct.bd.ob,lC _ _ (by decide+kernel) (by decide+kernel),xa5 Bq dB S en xs ps ⟨a_,R.ct.bd,l64,nd,λH' r us eD bI s1 _ e a1 a2 a3 a4 a5=>q H' r eD bI s1 e a3 a4 a5⟩⟩⟩⟩
theorem yN {α:Type}{a:α}:[a].Nodup:=X?.mpr ⟨λz=>(by cases z),acS⟩
noncomputable def lO (gs:jx)(k:Cut)(l:b? i_):jx:=if k∈gs.map (·.1)then gs.map (λg=>if g.1=k then(g.1,l)else g)else gs++[(k,l)]
noncomputable def fK (H:Hp)(Z:aq)(x:K2×c_×V)(p:Cut×b? i_):Prop:=x.1=k2 p.1/\∃b,x.2.2= .ref b/\H b=some (.lst (p.2.map V.int))/\Z b=none
theorem fK.hc {H:Hp}{Z:aq}{xs:P2}{ps:jx}(h:g? (fK H Z) xs ps):g? (iH H) xs ps:=Paired.gi h λ_ _ ⟨e,b,e2,e3,_⟩=>⟨e,b,e2,e3⟩
theorem fK.fr {H H':Hp}{Z Z':aq}{F:Role->Prop}{xs:P2}{ps:jx}(f:Fr F Z H Z' H')(h:g? (fK H Z) xs ps):g? (fK H' Z') xs ps:=Paired.gi h λ_ _ ⟨e,b,e2,e3,e4⟩=>⟨e,b,e2,dS f e3 e4⟩
theorem Rx {α β:Type}{F G:α->β->Prop}{f:α->α}{g:β->β}{xs:b? α}{ys:b? β}(p:g? F xs ys)(h:∀x y,x∈xs->y∈ys->F x y->G (f x) (g y)):g? G (xs.map f) (ys.map g):=by
 induction p with
 |nil=>exact .nil
 |cons a r ih=>rw[y?,y?];exact .cons (h _ _ t? t? a) (ih λx y hx hy=>h x y (u_ _ hx) (u_ _ hy))
theorem fK.put {H:Hp}{Z:aq}{xs:P2}{ps:jx}{k:Cut}{l:b? i_}{b r:c_}(h:g? (fK H Z) xs ps)(e:H r=some (.lst (l.map V.int)))(n:Z r=none):g? (fK H Z) (fu xs (k2 k) b (.ref r)) (lO ps k l):=by
 have q:(cy xs (k2 k)).isSome=true↔k∈ps.map (·.1):=by
  clear e n;induction h with
  |nil=>simp[cy]
  | @cons x p xs ps a t ih=>
   by_cases z:p.1=k
   .have z':x.1=k2 k:=by rw[a.1,z]
    rw[IU z'];simp[z]
   .have z':¬x.1=k2 k:=λy=>z (BG (a.1.symm.trans y));rw[IV z',ih,y?,B_];exact⟨.inr,λy=>y.resolve_left λy=>z y.symm⟩
 unfold fu lO;by_cases z:k∈ps.map (·.1)
 .rw[j_ z,j_ (q.mpr z)];refine Rx h λx p _ _ a=>?_;by_cases y:p.1=k
  .rw[j_ y,j_ (by rw[a.1,y])];exact⟨a.1,r,a_,e,n⟩
  .rw[f? y,f? λz=>y (BG (a.1.symm.trans z))];exact a
 .rw[f? z,f? λy=>z (q.mp y)];exact qi h ⟨a_,r,a_,e,n⟩
theorem tJ {k:Cut}:∀{ps:jx},k∉ps.map (·.1)->jv ps k=[]
 |[],_=>a_
 |p::ps,h=>by rw[jv,f? λz=>h (by rw[<-z];exact t?)];exact tJ λz=>h (u_ _ z)
theorem yO {p:Cut×b? i_}:∀{ps:jx},(ps.map (·.1)).Nodup->p∈ps->jv ps p.1=p.2:=λnd h=>by obtain⟨i,hi⟩:=aam.mp h;exact BI nd hi
theorem j6y {k:Cut}{h:i_}{ps:jx}(nd:(ps.map (·.1)).Nodup)(m:k∈ps.map (·.1)):mT ps k h=ps.map (λc=>if c.1=k then(c.1,if h∈c.2 then c.2 else c.2++[h])else c):=by
 unfold mT;have aux:∀{ps:jx},(ps.map (·.1)).Nodup->k∈ps.map (·.1)->h∉jv ps k->jY ps k h=ps.map (λc=>if c.1=k then(c.1,if h∈c.2 then c.2 else c.2++[h])else c):=λ{ps}=>by
  induction ps with
  |nil=>intro _ m;cases m
  |cons p ps ih=>
   intro nd m nh;rw[y?,X?]at nd;rw[jY,y?];rw[jv]at nh;by_cases z:p.1=k
   .rw[j_ z]at nh;rw[j_ z,j_ z,f? nh];congr 1;refine(map_id ps).symm.trans (Ę λc hc=>?_);rw[f? λy=>nd.1 (by rw[z,<-y];exact N_ hc)];rfl
   .rw[f? z]at nh;rw[f? z,f? z,ih nd.2 ((B_.mp m).resolve_left λy=>z y.symm) nh]
 by_cases z:h∈jv ps k
 .rw[j_ z];refine(map_id ps).symm.trans (Ę λc hc=>?_);by_cases y:c.1=k
  .rw[j_ y,j_ (by rw[<-yO nd hc,y];exact z)];rfl
  .rw[f? y];rfl
 .rw[f? z];exact aux nd m z
theorem j38 {k:Cut}{h:i_}{ps:jx}(m:k∉ps.map (·.1)):mT ps k h=ps++[(k,[h])]:=by unfold mT;rw[tJ m,f? (λz=>by cases z)];exact IW m
structure bN (p:Pt)(cs gs:jx)(ks:b? Cut)(T:j?):Prop where
 eq:g? (λg c:Cut×b? i_=>g.1=c.1/\g.2.Perm c.2/\g.2.Pairwise (·<·)) gs cs
 nd:(cs.map (·.1)).Nodup
 hn:∀c∈cs,c.2.Nodup/\∀h∈c.2,h∈p.hs++p.ls/\(h∈p.ls\/c.1∈ks)
 gc:∀c∈cs,y8 p.ns.length p.ns.sum c.1
 gk:∀k∈ks,y8 p.ns.length p.ns.sum k
 lc:cs.length<=T
 lk:ks.length<=T
theorem JU {gs cs:jx}{F:Cut×b? i_->Cut×b? i_->Prop}(h:g? (λg c:Cut×b? i_=>g.1=c.1/\F g c) gs cs):gs.map (·.1)=cs.map (·.1):=by
 induction h with
 |nil=>rfl
 |cons a r ih=>rw[y?,y?,a.1,ih]
theorem bN.wait {p:Pt}{cs gs:jx}{ks:b? Cut}{T:j?}(i:bN p cs gs ks T):bN p cs gs ks (T+1):=⟨i.eq,i.nd,i.hn,i.gc,i.gk,Ã i.lc,Ã i.lk⟩
theorem bN.add {p:Pt}{cs gs:jx}{ks bI:b? Cut}{T:j?}{k:Cut}{h:i_}{l:b? i_}(i:bN p cs gs ks T)(g:y8 p.ns.length p.ns.sum k)(hh:h∈p.hs++p.ls)(hk:h∈p.ls\/k∈bI)(sub:∀x∈ks,x∈bI)(gk:∀x∈bI,y8 p.ns.length p.ns.sum x)(lk:bI.length<=T+1)(up:l.Pairwise (·<·))(ml:∀x,x∈l↔x∈jv gs k\/x=h):bN p (mT cs k h) (lO gs k l) bI (T+1):=by
 have ek:=JU i.eq;have Ry:l.Nodup:=up.imp λh=>i_.ne_of_lt h;have nde:(gs.map (·.1)).Nodup:=by rw[ek];exact i.nd
 by_cases z:k∈cs.map (·.1)
 .rw [j6y i.nd z];have z':k∈gs.map (·.1):=by rw[ek];exact z
  unfold lO;rw[j_ z'];have keys:(cs.map (λc=>if c.1=k then(c.1,if h∈c.2 then c.2 else c.2++[h])else c)).map (·.1)=cs.map (·.1):=by rw[Ÿ];refine Ę λc _=>?_;show(if c.1=k then(c.1,if h∈c.2 then c.2 else c.2++[h])else c).1=c.1;split<;>rfl
  refine⟨Rx i.eq λg c hg hc a=>?_,by rw[keys];exact i.nd,λc' il=>?_,λc' il=>?_,gk,by rw[i?];exact Ã i.lc,lk⟩
  .by_cases y:c.1=k
   .rw[j_ y,j_ (a.1.trans y)];refine⟨a.1,(abO Ry ?_).mpr λx=>?_,up⟩
    .have:=(i.hn c hc).1;split
     .exact this
     .rename_i nh;exact ä.mpr ⟨this,yN,λx hx y hy e=>nh (by rw[<-m?.mp hy,<-e];exact hx)⟩
    .have e2:jv gs k=g.2:=by rw[<-y,<-a.1];exact yO nde hg
     rw[ml,e2,a.2.1.mem_iff];split
     .rename_i hm;exact⟨λq=>q.elim id λq=>by rw[q];exact hm,.inl⟩
     .rw[A_,m?]
   .rw[f? y,f? λz=>y (a.1.symm.trans z)];exact a
  .obtain⟨c,hc,rfl⟩:=O_.mp il;obtain⟨n1,n2⟩:=i.hn c hc;have old:∀x∈c.2,x∈p.hs++p.ls/\(x∈p.ls\/c.1∈bI):=λx hx=>⟨(n2 x hx).1,(n2 x hx).2.imp id (sub _)⟩;by_cases y:c.1=k
   .rw[j_ y];by_cases nh:h∈c.2
    .rw[j_ nh];exact⟨n1,old⟩
    .rw[f? nh];refine⟨ä.mpr ⟨n1,yN,λx hx y hy e=>nh (by rw[<-m?.mp hy,<-e];exact hx)⟩,λx hx=>?_⟩;rcases A_.mp hx with q|q
     .exact old x q
     .rw[m?.mp q];exact⟨hh,by rw[y];exact hk⟩
   .rw[f? y];exact⟨n1,old⟩
  .obtain⟨c,hc,rfl⟩:=O_.mp il;by_cases y:c.1=k
   .rw[j_ y];exact i.gc c hc
   .rw[f? y];exact i.gc c hc
 .have z':k∉gs.map (·.1):=by rw[ek];exact z
  rw[j38 z];unfold lO;rw[f? z'];rw[tJ z']at ml;refine⟨qi i.eq ⟨a_,(abO Ry (yN)).mpr λx=>by rw[ml,m?];exact⟨λq=>q.resolve_left λz=>(by cases z),.inr⟩,up⟩,?_,λc hc=>?_,λc hc=>?_,gk,by rw[r_];exact abf i.lc,lk⟩
  .rw[H_];exact ä.mpr ⟨i.nd,yN,λx hx y hy e=>z (by have:=m?.mp hy;rw[<-show y=k from this,<-e];exact hx)⟩
  .rcases A_.mp hc with q|q
   .exact⟨(i.hn c q).1,λx hx=>⟨((i.hn c q).2 x hx).1,((i.hn c q).2 x hx).2.imp id (sub _)⟩⟩
   .rw[m?.mp q];exact⟨yN,λx hx=>by rw[m?.mp hx];exact⟨hh,hk⟩⟩
  .rcases A_.mp hc with q|q
   .exact i.gc c q
   .rw[m?.mp q];exact g
theorem bN.len {p:Pt}{cs gs:jx}{ks:b? Cut}{T:j?}(i:bN p cs gs ks T)(h8:p.hs.length+p.ls.length<=50)(k:Cut):(jv cs k).length<=50:=by
 by_cases z:k∈cs.map (·.1)
 .obtain⟨c,hc,rfl⟩:=O_.mp z;rw[yO i.nd hc];have:=tq (i.hn c hc).1 (ys:=p.hs++p.ls) λx hx=>((i.hn c hc).2 x hx).1;rw[r_]at this;lia
 .rw[tJ z];exact W_ _
theorem bN.Rz {p:Pt}{cs gs:jx}{ks:b? Cut}{T:j?}(i:bN p cs gs ks T)(k:Cut):(jv gs k).Perm (jv cs k)/\(jv gs k).Pairwise (·<·)/\∀x∈jv gs k,x∈p.hs++p.ls:=by
 have ek:=JU i.eq;by_cases z:k∈gs.map (·.1)
 .obtain⟨g,hg,rfl⟩:=O_.mp z;obtain⟨j,hj⟩:=aam.mp hg;obtain⟨c,hc,a1,a2,a3⟩:=qa i.eq hj;rw[yO (by rw[ek];exact i.nd) hg,a1,yO i.nd (r? hc)];exact⟨a2,a3,λx hx=>((i.hn c (r? hc)).2 x (a2.mem_iff.mp hx)).1⟩
 .rw[tJ z,tJ (by rw[<-ek];exact z)];exact⟨.nil,.nil,λ_ z=>by cases z⟩
theorem bN.carried {p:Pt}{cs gs:jx}{ks:b? Cut}{T:j?}(i:bN p cs gs ks T)(en:i_):qq gs en=qq cs en:=by
 have h:=i.eq;unfold qq;clear i;induction h with
 |nil=>rfl
 |@cons g c gs cs a r ih=>
  rw[aeo,aeo,a.2.1.length_eq];split
  .rw[y?,y?,a.1,ih]
  .exact ih
theorem bN.good {p:Pt}{cs gs:jx}{ks:b? Cut}{T:j?}{en:i_}(i:bN p cs gs ks T)(he:(p.ls.length:i_)<en){k:Cut}(h:k∈qq cs en):k∈ks/\y8 p.ns.length p.ns.sum k:=by
 obtain⟨c,hc,rfl⟩:=O_.mp h;obtain⟨m,l⟩:=Č.mp hc;refine⟨?_,i.gc c m⟩;by_cases z:c.1∈ks
 .exact z
 exfalso;have:=tq (i.hn c m).1 (ys:=p.ls) λx hx=>((i.hn c m).2 x hx).2.resolve_right z;have:=w? l;lia
theorem jxr {cs:jx}{en:i_}(nd:(cs.map (·.1)).Nodup):(qq cs en).Nodup:=nd.sublist (aaQ.map _)
theorem RA (cs:jx)(en:i_):(qq cs en).length<=cs.length:=by unfold qq;rw[i?];exact Q_ _ _
theorem j4m {a b c:b? Cut}(h1:a.Perm c)(h2:a.Pairwise (λa b=>eC a b=true))(h3:b.Perm c)(h4:b.Pairwise (λa b=>eC a b=true)):a=b:=ō (λx y _ _ p q=>by rw[NC p]at q;cases q) h2 h4 (h1.trans h3.symm)
theorem j43 {a b:b? i_}(h1:a.Perm b)(h2:a.Pairwise (·<=·))(h4:b.Pairwise (·<·)):a=b:=ō (λx y _ _ p q=>aeq p q) h2 (h4.imp λh=>i_.le_of_lt h) h1
theorem j0l {Y:Wd}{L:b? O}{p:Pt}{T:j?}{B:Kp}(ki:df L T Y.n B)(kx:KX Y.n p.ns B)(en:Y.n=p.ns.length)(hT:T<=1000)(hs:p.ns.sum<=100000):y8 p.ns.length p.ns.sum (B.zm,B.held)/\∀j:j?,j<p.ns.length->gI B.zm j=((iZ j B.done).length:i_):=by
 have nx:∀j:j?,j<p.ns.length->gI B.zm j=((iZ j B.done).length:i_):=λj hj=>kx.nm j (by lia) (by lia);refine⟨⟨⟨by rw[<-en];exact ki.ok.x,λk hk=>?_⟩,⟨by rw[<-en];exact ki.ok.h,λk hk=>⟨kx.h0 k hk,?_⟩⟩,kx.hs⟩,nx⟩
 .obtain⟨j,hj,rfl⟩:=Î.mp hk;have lx:=ki.ok.x;have e:B.zm[j]=gI B.zm (j:i_):=by
   unfold gI;rw[show((j:i_)).toNat=j by lia,n? hj];rfl
  have:=nx j (by rw[<-en,<-lx];exact hj);have l:(iZ j B.done).length<=B.done.length:=Q_ _ _;have:=ki.sz.dw;rw[e];lia
 .have aux:∀{xs:b? i_},(∀x∈xs,0<=x)->0<=xs.sum/\∀k∈xs,k<=xs.sum:=λ{xs}=>by
   induction xs with
   |nil=>exact λ_=>⟨aaB _,λ_ z=>by cases z⟩
   |cons x xs ih=>
    intro h;obtain⟨a,b⟩:=ih λy hy=>h y (u_ _ hy);have:=h x t?;rw[abg];refine⟨by lia,λk hk=>?_⟩;rcases B_.mp hk with rfl|hk
    .omega
    .have:=b k hk;lia
  have:=(aux kx.h0).2 k hk;rw[kx.hs]at this;exact i_.le_trans this hs
noncomputable abbrev lst (a To pa x:c_)(cr few:i_)(fo ho be ro C Sd Sl:c_)(l:b? (f_ V)):St:=[some (.ref a),some (.ref To),some (.ref pa),some (.ref x),some (.int cr),some (.int few),some (.ref fo),some (.ref ho),some (.ref be),some (.ref ro),some (.ref C),some (.ref Sd),some (.ref Sl)]++l
theorem cC.has {K:e?}{H:Hp}{k:Cut}{b:c_}(h:cC H k b):aH K H (dE k) (.ref b):=by obtain⟨c,d,h1,h2,h3⟩:=h;exact iF.has (xa1 b c d ⟨a_,ax.of h1,ax.of h2,ax.of h3⟩)
theorem RB {K:e?}{H:Hp}{r:c_}{us:b? V}{ks:b? Cut}(e:H r=some (.lst us))(h:eN K H us ks):aH K H (.lst (ks.map dE)) (.ref r):=by rw[aH];exact(xa0 r us ⟨a_,ah.of e,jzy (λx k h=>iF.has h) h⟩)
theorem j5l (ks:b? Cut):cE (.lst (ks.map dE)) (.lst (ks.map dE))=true:=by
 rw[cE];induction ks with
 |nil=>simp[cT]
 |cons k ks ih=>rw[y?,cT,AW,j' a_,ih];rfl
theorem j5d (ks:b? Cut):cU (.lst (ks.map dE))<=60:=by
 have:gX (ks.map dE)<=10:=by
  induction ks with
  |nil=>simp[gX]
  |cons k ks ih=>
   rw[y?,gX];have:cU (dE k)<=10:=by unfold dE;simp only[cU,gX,uV];decide
   lia
 rw[cU];lia
structure bP (P:n_)(w:z?)(t:Ad)(H:Hp)(Z:aq)(W:WA)(Y:Wd)(T:j?)(p:Pt)(To R pa:c_)(cr few:i_)(fo ho be ro C dC Bq dB S Sd Sl:c_)(xs:P2)(cs:jx)(ys:P2)(gs:jx)(us:b? V)(ks:b? Cut):Prop where
 sw:Sw t H Z W Y T p To R
 ps:Ps H Z pa W.x cr few fo ho be ro p
 ct:mS P w t H Z C dC Bq dB S (cr-few) W.x xs cs
 sd:gM P w H Sd ys/\Z Sd=some (7,.own 0)
 hs:g? (fK H Z) ys gs
 st:H Sl=some (.lst us)/\Z Sl=some (7,.own 1)
 su:g? (fB H) us ks
section
variable {P:n_}{w:z?}{t:Ad}{H H':Hp}{Z Z':aq}{W:WA}{Y Y':Wd}{T T':j?}{p:Pt}{To R pa:c_}{cr few:i_}{fo ho be ro C dC Bq dB S Sd Sl:c_}{xs aE:P2}{cs i3:jx}{ys:P2}{gs:jx}{us:b? V}{ks:b? Cut}
theorem JV {F:Role->Prop}(f:Fr F Z H Z' H')(kr:aw Z H)(n:¬F (7,.own 0))(h:gM P w H Sd ys/\Z Sd=some (7,.own 0)):gM P w H' Sd ys/\Z' Sd=some (7,.own 0):=by
 have tp:∀b ys,H b=some (.tup ys)->H' b=some (.tup ys):=λb ys e=>(dS f e (tH kr e)).1;obtain⟨⟨h1,h2⟩,r⟩:=h;rcases h1 with e|⟨e1,e⟩
 .obtain⟨a,b⟩:=cq f e r n;exact⟨⟨.inl a,λx hx=>(h2 x hx).keeps tp⟩,b⟩
 .obtain⟨a,b⟩:=cq f e r n;exact⟨⟨.inr ⟨e1,a⟩,λx hx=>(h2 x hx).keeps tp⟩,b⟩
theorem Cr {F:Role->Prop}(f:Fr F Z H Z' H')(kr:aw Z H)(h:g? (fB H) us ks):g? (fB H') us ks:=Paired.gi h λ_ _ ⟨b,e,c⟩=>⟨b,e,yM f kr c⟩
theorem bP.fr {F:Role->Prop}(h:bP P w t H Z W Y T p To R pa cr few fo ho be ro C dC Bq dB S Sd Sl xs cs ys gs us ks)(f:Fr F Z H Z' H')(n7:∀q,¬F (7,q))(n8:∀q,¬F (8,q))(sw:Sw t H' Z' W Y' T' p To R):bP P w t H' Z' W Y' T' p To R pa cr few fo ho be ro C dC Bq dB S Sd Sl xs cs ys gs us ks:=⟨sw,h.ps.fr f,h.ct.fr h.sw.w.kr f n8,JV f h.sw.w.kr (n7 _) h.sd,fK.fr f h.hs,cq f h.st.1 h.st.2 (n7 _),Cr f h.sw.w.kr h.su⟩
theorem bP.same (s:xf H H')(h:bP P w t H Z W Y T p To R pa cr few fo ho be ro C dC Bq dB S Sd Sl xs cs ys gs us ks):bP P w t H' Z W Y T p To R pa cr few fo ho be ro C dC Bq dB S Sd Sl xs cs ys gs us ks:=h.fr (F:=λ_=>v?) (Fr.same s) (λ_ z=>z) (λ_ z=>z) (h.sw.same s)
theorem bP.room (h:bP P w t H Z W Y T p To R pa cr few fo ho be ro C dC Bq dB S Sd Sl xs cs ys gs us ks):i0 P w t H Z W Y C dC Bq dB S (cr-few) xs cs:=⟨h.sw.w.o,h.ct,h.sw.w.kr⟩
theorem bP.cut (h:bP P w t H Z W Y T p To R pa cr few fo ho be ro C dC Bq dB S Sd Sl xs cs ys gs us ks)(r:i0 P w t H' Z' W Y C dC Bq dB S (cr-few) aE i3)(f:Fr Cq Z H Z' H'):bP P w t H' Z' W Y T p To R pa cr few fo ho be ro C dC Bq dB S Sd Sl aE i3 ys gs us ks:=by obtain⟨a,b⟩:=rj f (λz=>by cases z) (λz=>by cases z) h.sw.tn h.sw.tr;exact⟨⟨h.sw.w.fr f (λ_ z=>by cases z) r.kr,a,b⟩,h.ps.fr f,r.ct,JV f h.sw.w.kr (λz=>by cases z) h.sd,fK.fr f h.hs,cq f h.st.1 h.st.2 (λz=>by cases z),Cr f h.sw.w.kr h.su⟩
theorem bP.draw (h:bP P w t H Z W Y T p To R pa cr few fo ho be ro C dC Bq dB S Sd Sl xs cs ys gs us ks)(S':Sw t H' Z W Y T p To R)(f:Fr dI Z H Z H'):bP P w t H' Z W Y T p To R pa cr few fo ho be ro C dC Bq dB S Sd Sl xs cs ys gs us ks:=h.fr f (λ_ z=>by rcases z with z|z<;>cases z) (λ_ z=>by rcases z with z|z<;>cases z) S'
theorem j5j (gs:jx)(k:Cut)(l:b? i_):k∈(lO gs k l).map (·.1):=by
 unfold lO;by_cases z:k∈gs.map (·.1)
 .rw[j_ z];obtain⟨g,hg,e⟩:=O_.mp z;refine O_.mpr ⟨_,N_ hg,?_⟩;rw[j_ e];exact e
 .rw[f? z,H_];exact C_ _ t?
theorem bP.wait (h:bP P w t H Z W Y T p To R pa cr few fo ho be ro C dC Bq dB S Sd Sl xs cs ys gs us ks):bP P w t H Z W Y (T+1) p To R pa cr few fo ho be ro C dC Bq dB S Sd Sl xs cs ys gs us ks:=⟨h.sw.wait,h.ps,h.ct,h.sd,h.hs,h.st,h.su⟩
theorem bP.j80 (h:bP P w t H Z W Y T p To R pa cr few fo ho be ro C dC Bq dB S Sd Sl xs cs ys gs us ks){c:c_}{k:Cut}(ck:cC H k c):bP P w t (upd H Sl (.lst (us++[.ref c]))) Z W Y T p To R pa cr few fo ho be ro C dC Bq dB S Sd Sl xs cs ys gs (us++[.ref c]) (ks++[k])/\cC (upd H Sl (.lst (us++[.ref c]))) k c:=by
 have f:Fr (λr=>r=(7,.own 1)) Z H Z (upd H Sl (.lst (us++[.ref c]))):=Fr.put h.st.2 a_;have kr:aw Z (upd H Sl (.lst (us++[.ref c]))):=h.sw.w.kr.put;obtain⟨a,b⟩:=rj f (λz=>by cases z) (λz=>by cases z) h.sw.tn h.sw.tr;have c2:=yM f h.sw.w.kr ck;exact⟨⟨⟨h.sw.w.fr f (λ_ z=>by cases z) kr,a,b⟩,h.ps.fr f,h.ct.fr h.sw.w.kr f (λ_ z=>by cases z),JV f h.sw.w.kr (λz=>by cases z) h.sd,fK.fr f h.hs,⟨ja,h.st.2⟩,qi (Cr f h.sw.w.kr h.su) ⟨c,a_,c2⟩⟩,c2⟩
theorem bP.signed (h:bP P w t H Z W Y T p To R pa cr few fo ho be ro C dC Bq dB S Sd Sl xs cs ys gs us ks){r c:c_}{k:Cut}{l:b? i_}(e:H r=some (.lst (l.map V.int)))(nr:Z r=none)(ck:cC H k c):bP P w t (upd H Sd (dP P w Sd (fu ys (k2 k) c (.ref r)))) Z W Y T p To R pa cr few fo ho be ro C dC Bq dB S Sd Sl xs cs (fu ys (k2 k) c (.ref r)) (lO gs k l) us ks:=by
 have f:Fr (λr=>r=(7,.own 0)) Z H Z (upd H Sd (dP P w Sd (fu ys (k2 k) c (.ref r)))):=Fr.put h.sd.2 a_;have kr:aw Z (upd H Sd (dP P w Sd (fu ys (k2 k) c (.ref r)))):=h.sw.w.kr.put;obtain⟨a,b⟩:=rj f (λz=>by cases z) (λz=>by cases z) h.sw.tn h.sw.tr;have tp:∀b ba,H b=some (.tup ba)->upd H Sd (dP P w Sd (fu ys (k2 k) c (.ref r))) b=some (.tup ba):=λb ys e=>(dS f e (tH h.sw.w.kr e)).1;refine⟨⟨h.sw.w.fr f (λ_ z=>by cases z) kr,a,b⟩,h.ps.fr f,h.ct.fr h.sw.w.kr f (λ_ z=>by cases z),⟨⟨.inl ja,λx hx=>?_⟩,h.sd.2⟩,fK.put (fK.fr f h.hs) (dS f e nr).1 nr,cq f h.st.1 h.st.2 (λz=>by cases z),Cr f h.sw.w.kr h.su⟩;unfold fu at hx;split at hx
 .obtain⟨y,hy,rfl⟩:=O_.mp hx;have:=(h.sd.1.2 y hy).keeps tp;split
  .exact this
  .exact this
 .rcases A_.mp hx with q|q
  .exact(h.sd.1.2 x q).keeps tp
  .rw[m?.mp q];exact ck.pair.keeps tp
end
noncomputable def j2n (K:e?):Sp:=λvs H Q _=>∃(a:c_)(ns:b? i_),vs=[.ref a]/\ah K H a (ns.map V.int)/\ns.length<=63/\∀H',Q (.bl true) H'
set_option maxHeartbeats 0 in
theorem j87 (T:Txt K mg t) : zu P w K mg base CX0 12 t.HU t.HV ["_law_script"] (j2n K):=by
 refine T.qac.dO (k:=11) vq λ_ A _ s H vs Q E hr h=>?_
 obtain ⟨a,ns,rfl,hS,hn,k⟩:=h
 refine ⟨_,(@jb _ _ _ _ _ (j9 (i:=1) vq.nd a_ (w_ a_) (jm (jw2 T) hr.dn a_ T.jrr T.OV.kp T.jra .nil jq (jc (pv 0) jf)))
  (@jb _ _ _ _ _ (j9 (i:=2) vq.nd a_ (w_ a_) (jm (jui T) hr.dn a_ T.jo5 T.O0.kp T.jo0 .nil jq (jc (pv 1) jf)))
  (@jb _ _ _ _ _ (lU (pv 2) (pE a_ (qf (jw (i:=3) vq.nd a_ (ţ a_)) (qf (jw (i:=4) vq.nd a_ (ţ a_)) (qf (jw (i:=5) vq.nd a_ (ţ a_)) (qf (jw (i:=6) vq.nd a_ (w_ a_)) (qf (jw (i:=7) vq.nd a_ (w_ a_)) (qf (jw (i:=8) vq.nd a_ (ţ a_)) (qf (jw (i:=9) vq.nd a_ (w_ a_)) pD)))))))))
  (@jb _ _ _ _ _ (j9 (i:=10) vq.nd a_ (w_ a_) (zZ T.jtb (jmb T) hr.dn a_ T.jwq T.je3 .nil jq (jc (pv 3) jf)))
  (@jb _ _ _ _ _ (j9 (i:=11) vq.nd a_ (ţ a_) Al)
  (@jb _ _ _ _ _ (@j9 _ _ 12 _ _ _ _ vq.nd a_ (ţ a_) (@zj _ _ _ _ jf) (by rfl) (by first | exact .inl a_ | exact .inr rfl))
  (@jb _ _ _ _ _ (pI Ŗ a_ (rP a_ T.sO (jc jn jf)) (jw (i:=13) vq.nd a_ (w_ a_)) (@jb _ _ _ _ _ (j9 (i:=14) vq.nd a_ (w_ a_) (jm (qb T) hr.dn a_ T.qh T.qd.kp T.qg .nil jq (@ye _ _ _ _ _ (pv 1) jn a_ a_)))
  (@jb _ _ _ _ _ (zo (ju eI (pv 14) jn (qc _)) (@jb _ _ _ _ _ (j9 (i:=15) vq.nd a_ (ţ a_) (jm (zc T) hr.dn a_ T.zi T.qz.kp T.zh .nil jq (@ye _ _ _ _ _ (pv 1) (pv 7) a_ a_)))
  (@jb _ _ _ _ _ (j9 (i:=16) vq.nd a_ (w_ a_) (j7 (pv 10) T.ze T.jjk (jr8 T) hr.dn T.jk3 .nil jq (jc (pv 15) jf)))
  (@jb _ _ _ _ _ (j9 (i:=17) vq.nd a_ (w_ a_) (y4 Af a_ T.oA boot_tuple (jc (Yn (N':=["_law_k","_law_house","_law_world_here"]) (ix:=[none,some 15,some 3]) (Ym (y := "_law_k") (by kernel_rfl)) a_ (rP a_ T.sO (jc (jl jt a_ T.cB boot_len (jc (pv 8) jf)) jf)) (λ_ _ _ _=>(jw (i:=0) Zz a_ (ţ a_) (.inl (ú _)))) (λ_ _ _ _=>sf) (λ_ _ _ _=>(jl (MY (K:=K) a_) a_ T.cB boot_len (jc (jI (N':=["_law_order_here","_law_k"]) (ix:=[none,some 0]) (yg (by kernel_rfl)) a_ (YA (K:=K) a_ (j7 (pv 2) T.jk T.jhz (jp5 T) hr.dn T.jim .nil jq (jc (pv 1) jf))) (λ_ _ _ _=>(jw (i:=0) ZA a_ (w_ a_) (.inr a_))) (λ_ _ _ _=>(nW (ju eI (cx (EI (K:=K) a_) (pv 0) jn (λ_ _=>a_)) (pv 1) (qc _)))) (λ_ _ _ _=>(pv 0))) jf)))) jf)))
  (@jb _ _ _ _ _ (zo (PW.pt (eX (ju (Ar hr.units) (pv 16) (@gR _ _ _ _ _ (@ye _ _ _ _ _ (pv 17) (y4 Af a_ T.oA boot_tuple (jc (j7 (pv 3) T.jk T.jmx (juc T) hr.dn T.jph .nil jq (jc (pv 15) jf)) jf)) a_ a_)) (qc _)) (fQ (ju (Ar hr.units) (jm (Rq T) hr.dn a_ T.OQ T.Iw.kp T.OR .nil jq (@ye _ _ _ _ _ (pv 3) (pv 15) a_ a_)) (pv 16) (qc _))))) (@je _ _ _ (j5 gQ)) qe)
  (@je _ _ _ (j8 (fT A? D_ E_ y3 (pv 12) (jc (pv 16) jf)))))))) (@je _ _ _ (zo (PW.pt (kJ (ju eI (pv 14) jn (qc _)) (lS (ju (ou (K:=K) a_ hr.units) (pv 6) (@zj _ _ _ _ jf) (qc _))))) (@jb _ _ _ _ _ (j9 (i:=15) vq.nd a_ (ţ a_) (jm (zc T) hr.dn a_ T.zi T.qz.kp T.zh .nil jq (@ye _ _ _ _ _ (pv 1) (pv 6) a_ a_)))
  (@jb _ _ _ _ _ (@j9 _ _ 18 _ _ _ _ vq.nd a_ (w_ a_) (@gR _ _ _ _ _ (@ye _ _ _ _ _ (xa MH (@gR _ _ _ _ _ (jc (jm (qb T) hr.dn a_ T.qh T.qd.kp T.qg .nil jq (@ye _ _ _ _ _ (pv 1) jn a_ a_)) jf)) (jl jt a_ T.cB boot_len (jc (pv 8) jf))) (xa Uj (@gR _ _ _ _ _ (jc (jl (An a_) a_ T.sN boot_sum (jc (pv 8) jf)) jf)) (xa MH (@gR _ _ _ _ _ (jc jn jf)) (xa i9 (jl jt a_ T.cB boot_len (jc (pv 8) jf)) jn))) a_ a_)) (by rfl) (by first | exact .inl a_ | exact .inr rfl))
  (@jb _ _ _ _ _ (j9 (i:=16) vq.nd a_ (w_ a_) (jm (zc T) hr.dn a_ T.zi T.qz.kp T.zh .nil jq (@ye _ _ _ _ _ (pv 1) (xa uG (pv 12) (@zj _ _ _ _ (jc (pv 18) jf))) a_ a_)))
  (@je _ _ _ (j8 (j7 (pv 10) T.ze T.jkg (jsv T) hr.dn T.jmt .nil jq (@ye _ _ _ _ _ (pv 15) (pv 16) a_ a_))))))) (@jb _ _ _ _ _ (j8 (jm (j03 T) hr.dn a_ T.jwa T.Pb.kp T.jvs .nil jq (@cA _ _ _ _ _ _ _ (pv 1) (pv 2) jn a_ a_ a_)))
  (@je _ _ _ (j9 (i:=16) vq.nd a_ (w_ a_) i7))))))
  (@jb _ _ _ _ _ (zo (ju Le (pv 16) i7 (qc _)) (@jb _ _ _ _ _ (Ys (my hr) (pv 11) (pv 16) (jl (Zc a_) a_ T.BD boot_sorted (jc (y4 (Zb a_) a_ T.j81 boot_set (jc (xa uG (E9 (my hr) (pv 11) (pv 16) (@zj _ _ _ _ jf) ⟨a_,a_,a_,a_⟩) (@zj _ _ _ _ (jc (pv 15) jf))) jf)) jf)) a_)
  (@je _ _ _ (zo (ju (Ar hr.units) (j7 (pv 10) T.ze T.jbu (jjf T) hr.dn T.jc0 .nil jq (jc (pv 16) jf)) (NM (P:=P) (w:=w) a_ a_ (my hr) (pv 11) (pv 16) (λ_ _=>a_)) (qc _)) (@je _ _ _ (j5 gQ)) qe))) qe)
  (@jb _ _ _ _ _ (j9 (i:=19) vq.nd a_ (w_ a_) (jl (NJ (my hr)) a_ T.BD boot_sorted (jc (Ew (jI (N':=["_law_one","_law_crew","_law_some_here","_law_signed"]) (ix:=[none,some 4,some 5,some 11]) (yg (by kernel_rfl)) a_ (NB (pv 11)) (λ_ _ _ _=>(jw (i:=0) Zy a_ (w_ a_) (.inr a_))) (λ_ _ _ _=>(nW (ju DD (jl (MY (K:=K) a_) a_ T.cB boot_len (jc (NM (P:=P) (w:=w) a_ a_ (my hr) (pv 3) (pv 0) (λ_ _=>a_)) jf)) (xa i9 (pv 1) (pv 2)) (qc _)))) (λ_ _ _ _=>(pv 0)))) jf)))
  (@je _ _ _ (zo (PW.pt (eX (ju (Ar hr.units) (vg (pv 10) T.ze T.jjs (jrx T) hr.dn T.jk2 .nil jq) (pv 19) (qc _)) (fQ (ju (ou (K:=K) a_ hr.units) (jI (N':=["_law_one","_law_stood"]) (ix:=[none,some 12]) (yg (by kernel_rfl)) a_ (@kO _ _ _ _ (pv 19)) (λ_ _ _ _=>(jw (i:=0) Zx a_ (w_ a_) (.inr a_))) (λ_ _ _ _=>(nW (ju (Yy (K:=K) a_ hr.units) (pv 0) (pv 1) (by with_unfolding_all rfl)))) (λ_ _ _ _=>(pv 0))) (@zj _ _ _ _ jf) (qc _))))) (@je _ _ _ (j5 gQ)) qe)))))))
  (@je _ _ _ (j5 (kP (YB (K:=K) a_ hr.units) (jI (N':=["_law_one","_law_begin"]) (ix:=[none,some 8]) (yg (by kernel_rfl)) a_ (@kO _ _ _ _ (pv 19)) (λ_ _ _ _=>(jw (i:=0) Zw a_ (w_ a_) (.inr a_))) (λ_ _ _ _=>(nW (ju rQ (jl (Yz (K:=K) a_ a_) a_ T.sN boot_sum (jc (cx (EI (K:=K) a_) (pv 0) jn (λ_ _=>a_)) jf)) (jl (X3 (K:=K) a_ a_) a_ T.sN boot_sum (jc (pv 1) jf)) (qc _)))) (λ_ _ _ _=>(pv 0))) (@zj _ _ _ _ jf) (qc _))))))))))),?_⟩
 refine bF λN hN=>⟨_,a_,xa0 a ns ⟨a_,hS,λTo R H1 nT nR s1 hT=>?_⟩⟩
 have RC:To ≠ R:=hT.ne
 obtain ⟨Z0,Cs⟩ : ∃ Z0:aq,Z0 = aB (aB (λ_=>none) R (9,.own 1)) To (9,.own 0):=⟨_,a_⟩
 have S0:Tw H1 Z0 To R:=by
  obtain ⟨row,c,t1,t2,t3⟩:=hT
  refine ⟨?_,(xa0 row c ⟨t1,t2,t3⟩),?_⟩
  .rw [Cs]
   exact aw.aB (aw.aB (λ_ _ z=>by cases z) t2 q_) t1 q_
  .rw [Cs]
   exact ⟨qu,by rw [qv RC.symm,qu]⟩
 refine hN _ _ (bF λN hN=>⟨_,a_,xa1 Z0 To R ⟨a_,S0,λ Z1 H2 W Y0 pa cr few fo ho be ro p ok S1 B1 fw F2=>?_⟩⟩)
 refine hN _ _ (bF λN hN=>⟨_,a_,xa0 pa _ ⟨a_,ax.of B1.tp.1,a_,xa0 _ _ ⟨a_,xa0 _ _ ⟨a_,xa0 _ _ ⟨a_,xa0 _ _ ⟨a_,xa0 _ _ ⟨a_,xa0 _ _ ⟨a_,xa0 _ _ ⟨a_,a_,?_⟩⟩⟩⟩⟩⟩⟩⟩⟩)
 have JW : ∀ b u,H b = some u -> H2 b = some u /\ Z1 b = none:=λb u e=>dS F2 (s1 _ _ e) (by rw [Cs,qv (jh e nT),qv (jh e nR)])
 clear Cs S0 RC hT s1 nT nR F2
 refine hN _ _ (bF λN hN=>⟨_,a_,λC dC nC RD oY=>?_⟩)
 obtain ⟨g3,gN⟩:=Q0 (C:=t.qm) (r:=(8,.x)) nC RD oY S1.w.kr
 have O3:=S1.w.o.fr (λ_ z=>z) g3
 refine (xa1 C dC (.ref W.x) ⟨a_,ja,xa2 (aB Z1 C (8,.x)) 0 W Y0 ⟨a_,O3,gN,qu,by decide,λ Z4 H4 Bq dB S c4 f4 Ct=>⟨a_,?_⟩⟩⟩)
 have F4:Fr Cq Z1 H2 Z4 H4:=(g3.mono λ_ z=>z.elim).trans f4
 obtain ⟨a4,b4⟩:=rj F4 (λz=>by cases z) (λz=>by cases z) S1.tn S1.tr
 have S4:Sw t H4 Z4 W Y0 0 p To R:=⟨S1.w.fr F4 (λ_ z=>by cases z) Ct,a4,b4⟩
 have B4:=B1.fr F4
 rw [fw.en] at c4
 have RE:xf H H4:=λb u e=>(dS F4 (JW b u e).1 (JW b u e).2).1
 clear g3 gN O3 f4 F4 a4 b4 nC RD oY JW
 refine hN _ _ (bF λN hN=>λSd Cu=>?_)
 refine hN _ _ (bF λN hN=>⟨by show 0 <= k?; decide,λSl JX=>?_⟩)
 obtain ⟨Z5,e5⟩ : ∃ Z5,Z5 = aB (aB Z4 Sd (7,.own 0)) Sl (7,.own 1):=⟨_,a_⟩
 have f5:Fr (λ_=>v?) Z4 H4 Z5 (upd (upd H4 Sd (.dT [])) Sl (.lst [])):=by rw [e5]; exact (Fr.bY Cu).trans (Fr.bY JX)
 have RF:aw Z5 (upd (upd H4 Sd (.dT [])) Sl (.lst [])):=by rw [e5]; exact (Ct.bY).bY
 have nH:H Sd = none:=by
  cases e:H Sd with
  | none=>rfl
  | some u=>rw [RE _ _ e] at Cu; cases Cu
 have ne5:Sd ≠ Sl:=jh (ja (H:=H4) (a:=Sd) (o:=.dT [])) JX
 obtain ⟨a5,b5⟩:=rj f5 id id S4.tn S4.tr
 have L5:bP P w t (upd (upd H4 Sd (.dT [])) Sl (.lst [])) Z5 W Y0 0 p To R pa cr few fo ho be ro C dC Bq dB S Sd Sl [] [] [] [] [] []:=
  ⟨⟨S4.w.fr f5 (λ_ z=>z) RF,a5,b5⟩,B4.fr f5,c4.fr Ct f5 λ_ z=>z,⟨⟨.inr ⟨a_,by rw [jd ne5]; exact ja⟩,λ_ z=>by cases z⟩,by rw [e5,qv ne5]; exact qu⟩,.nil,⟨ja,by rw [e5]; exact qu⟩,.nil⟩
 generalize upd (upd H4 Sd (.dT [])) Sl (.lst []) = H5 at L5
 clear c4 S4 B4 f5 RF a5 b5 e5 Cu JX Ct S1 B1 RE
 have l2:=ok.l2
 have l4:=fw.n4
 have yP:p.ns.sum <= 100000:=by
  have aux : ∀ {xs:b? i_},(∀ i ∈ xs,0 <= i /\ i <= 1000) -> xs.sum <= 1000 * (xs.length:i_):=λ{xs}=>by
   induction xs with
   | nil=>exact λ_=>aaB _
   | cons x xs ih=>
    intro h
    have:=ih λy hy=>h y (u_ _ hy)
    have:=(h x t?).2
    rw [abg,E?]
    omega
  have:=aux fw.nr
  omega
 refine hN (lst a To pa W.x cr few fo ho be ro C Sd Sl [none,none,none,none,none,none,none]) _ (bF λN hN=>⟨40,a_,by decide,by decide,K6 (lo:=0) (n:=40) (λi U H'=>∃ Z Y xs cs ys gs us ks v1 v2 v3 v4 v5 v6 v7,U = lst a To pa W.x cr few fo ho be ro C Sd Sl [v1,v2,v3,v4,v5,v6,v7] /\ bP P w t H' Z W Y i p To R pa cr few fo ho be ro C dC Bq dB S Sd Sl xs cs ys gs us ks /\ bN p cs gs ks i /\ (0 < i -> ∃ r eD bI,v7 = some (.ref r) /\ H' r = some (.lst eD) /\ eN K H' eD bI /\ ∀ k ∈ bI,y8 p.ns.length p.ns.sum k)) (xa8 Z5 Y0 [] [] [] [] [] [] none none none none none none none ⟨a_,L5,⟨.nil,.nil,(λ_ z=>by cases z),(λ_ z=>by cases z),(λ_ z=>by cases z),s_ _,s_ _⟩,λz=>v_ z (by decide)⟩) ?_ ?_⟩)
 .rintro i U H6 hi ⟨Z6,Y,xs,cs,ys,gs,us,ks,v1,v2,v3,v4,v5,v6,v7,rfl,L6,I6,_⟩
  refine bF λN' JY=>⟨_,a_,xa1 To R 5 ⟨a_,L6.sw.tn,by decide,by decide,λd H7 d0 d1 tF k7=>?_⟩⟩
  obtain ⟨S7,f7⟩:=L6.sw.draw tF k7
  have L7:=L6.draw S7 f7
  clear L6 S7 f7 tF k7
  refine JY (lst a To pa W.x cr few fo ho be ro C Sd Sl [some (.int (0 + (i:i_))),some (.int d),v3,v4,v5,v6,v7]) _ (bF λN' JY=>?_)
  have key : ∀ Z8 H8 Y' aE i3 eD bI v3 v4 v5 v6,bP P w t H8 Z8 W Y' (i + 1) p To R pa cr few fo ho be ro C dC Bq dB S Sd Sl aE i3 ys gs eD bI -> ((v4 = .ar /\ bN p i3 gs bI (i + 1)) \/ ∃ k h c,v3 = some (.int h) /\ v4 = .ref c /\ cC H8 k c /\ i3 = mT cs k h /\ y8 p.ns.length p.ns.sum k /\ h ∈ p.hs ++ p.ls /\ (h ∈ p.ls \/ k ∈ bI) /\ (∀ x ∈ ks,x ∈ bI) /\ (∀ x ∈ bI,y8 p.ns.length p.ns.sum x) /\ bI.length <= i + 1) -> N' (lst a To pa W.x cr few fo ho be ro C Sd Sl [some (.int (0 + (i:i_))),some (.int d),v3,some v4,v5,v6,v7]) H8:=by
   intro Z8 H8 Y' aE i3 eD bI v3 v4 v5 v6 L8 h8
   refine JY _ _ (bF λN2 RG=>?_)
   have tail : ∀ Z9 H9 ba ie,bP P w t H9 Z9 W Y' (i + 1) p To R pa cr few fo ho be ro C dC Bq dB S Sd Sl aE i3 ba ie eD bI -> bN p i3 ie bI (i + 1) -> N2 (lst a To pa W.x cr few fo ho be ro C Sd Sl [some (.int (0 + (i:i_))),some (.int d),v3,some v4,v5,v6,v7]) H9:=by
    intro Z9 H9 ba ie L9 I9
    refine RG _ _ (bF λN3 hN3=>?_)
    have yQ : ∀ ef r yR yS,xf H9 ef -> ef r = some (.lst yR) -> eN K ef yR yS -> yS.Perm (qq ie (cr - few)) -> yS.Pairwise (λa b=>eC a b = true) -> N3 (lst a To pa W.x cr few fo ho be ro C Sd Sl [some (.int (0 + (i:i_))),some (.int d),v3,some v4,v5,v6,some (.ref r)]) ef:=by
     intro ef r yR yS cW RH c8 p8 o8
     have mU:=L9.same cW
     have r8:=mU.room
     refine hN3 _ _ ⟨_,a_,xa1 C dC _ ⟨a_,mU.ct.ob.1,tG _ _ (by decide +kernel) (by decide +kernel),xb2 Z9 W Y' C dC Bq dB S _ aE i3 ⟨a_,r8,by have:=I9.lc; omega,I9.nd,λi4 r2 us9 tK eS hr9 c9 p9 o9=>⟨_,a_,?_⟩⟩⟩⟩
     rw [I9.carried] at p8
     have e9:tK = yS:=j4m p9 o9 p8 o8
     subst e9
     have oM:=mU.same eS
     have lk9:tK.length <= 1000:=by have:=RA i3 (cr - few); have:=p9.length_eq; have:=I9.lc; omega
     refine (xa0 (.lst (tK.map dE)) (.lst (tK.map dE)) ⟨RB hr9 c9,RB (eS _ _ RH) (eN.same eS c8),j5d _,_,a_,?_⟩)
     rw [j5l]
     refine gd ?_
     have lG : ∀ k ∈ tK,k ∈ bI /\ y8 p.ns.length p.ns.sum k:=λk hk=>I9.good (by have:=fw.lf; have:=fw.f3; omega) (p9.mem_iff.mp hk)
     have dg:=eS _ _ RH
     have c11:=eN.same eS c8
     refine ⟨_,a_,r,a_,⟨_,ah.of dg⟩,so (K:=K) (a:=r) (xs:=yR) (λi ys U H'=>∃ v,U = [v,some (.ref Sl)] /\ H' = i4 /\ ys = []) ⟨none,a_,a_,a_⟩ ?_ ?_ ?_⟩
     .rintro i ys U H' hi ⟨v,rfl,rfl,rfl⟩
      exact ⟨ah.of dg,W_ _⟩
     .rintro i y ys U H' ey ⟨v,rfl,rfl,rfl⟩
      obtain ⟨kk,ek,hk⟩:=qa c11 ey
      refine ⟨_,a_,_,a_,xa2 Sl eD kk bI ⟨a_,ah.of oM.st.1,hk,fB.at_ oM.su,_,a_,?_⟩⟩
      rw [j_ a_,j' (lG kk (r? ek)).1]
      exact gd ⟨_,a_,a_,a_⟩
     rintro ys U H' ⟨v,rfl,rfl,rfl⟩ Cv yT
     refine ⟨cz,λJZ mV=>(xa2 Cv [] JZ 0 ⟨a_,a_,ah.of (jg mV _ _ ja),ah.of ja,a_,_,a_,?_⟩)⟩
     have hV:=(jg (o:=.lst []) yT).trans (jg (o:=.lst []) mV)
     exact gd (xa8 Z9 Y' aE i3 ba ie eD bI _ _ _ _ _ _ _ ⟨a_,oM.same hV,I9,λ_=>(xa1 r yR tK ⟨a_,hV _ _ dg,eN.same hV c11,λk hk=>(lG k hk).2⟩)⟩)
    have hk:=L9.hs
    have len:ba.length = ie.length:=q? hk
    have RI:(ie.map (·.1)).Nodup:=by rw [JU I9.eq]; exact I9.nd
    have lg:ie.length <= i + 1:=by have:=q? I9.eq; have:=I9.lc; omega
    refine ⟨_,a_,Sd,a_,?_⟩
    rcases L9.sd.1.1 with hS | ⟨e0,hS⟩
    .refine .inr ⟨ba,hS,λo=>PQ (λi ys U H'=>∃ v,U = [v,some (.int cr),some (.int few),some (.ref Sd)] /\ xf (upd H9 Sd (.az o (dP P w Sd ba))) H' /\ g? (fB H') ys (qq (ie.take i) (cr - few))) ⟨none,a_,xf.refl _,.nil⟩ ?_ ?_ ?_⟩
     .rintro i ys U H' hi ⟨v,rfl,sm,tu⟩
      refine ⟨sm _ _ ja,?_⟩
      rw [q? tu,qq,i?]
      exact hJ (K? (Q_ _ _) (by rw [ø]; omega))
     .rintro i x ys U H' ex ⟨v,rfl,sm,tu⟩
      obtain ⟨pp,ep,e1,_⟩:=qa hk ex
      have gJ : ∀ c u,H9 c = some u -> c ≠ Sd -> H' c = some u:=λc u hc cS=>sm _ _ (by rw [jd cS]; exact hc)
      have cY:H' Sd = some (.az o (dP P w Sd ba)):=sm _ _ ja
      have Rd:jR P w H' Sd ba:=⟨.inl (.inr ⟨o,cY⟩),λx hx=>(L9.sd.1.2 x hx).keeps λb ys e=>gJ _ _ e (L9.sd.1.ne e)⟩
      have pb:fU H' (k2 pp.1) x.2.1:=by
       have:=Rd.2 x (r? ex)
       rwa [e1] at this
      obtain ⟨b,vb,hb⟩ : ∃ b,cy ba (k2 pp.1) = some (.ref b) /\ H9 b = some (.lst (pp.2.map V.int)):=by
       rcases ud (k:=pp.1) (fK.hc hk) with ⟨_,_,h3⟩ | ⟨b,h1,h2⟩
       .exact v_ (N_ (r? ep)) h3
       .rw [BI RI ep] at h2
        exact ⟨b,h1,h2⟩
      have tk:qq (ie.take (i + 1)) (cr - few) = qq (ie.take i) (cr - few) ++ (if cr - few <= (pp.2.length:i_) then [pp.1] else []):=by
       unfold qq
       rw [take_snoc ep,Ĉ,H_]
       by_cases z:cr - few <= (pp.2.length:i_) <;> simp [z]
      refine ⟨_,a_,_,a_,xa3 Sd ba (k2 pp.1) x.2.1 (.ref b) ⟨a_,Rd,a_,pb,vb,xa0 b _ ⟨a_,.inl (ah.of (gJ _ _ hb (L9.sd.1.ny hb))),_,a_,_,a_,xa0 _ _ ⟨a_,a_,xa0 _ _ ⟨a_,a_,_,a_,?_⟩⟩⟩⟩⟩
      rw [i?]
      refine bh (λz=>?_) (λz=>?_)
      .refine ⟨_,a_,_,a_,sm,?_⟩
       rw [tk,j_ (w? z)]
       exact qi tu ⟨_,a_,PO pb⟩
      .refine ⟨_,a_,sm,?_⟩
       rw [tk,f? (λy=>z (j' y)),å]
       exact tu
     .rintro ys U H' ⟨v,rfl,sm,tu⟩ r hr
      rw [len,Ò] at tu
      have cY:H' Sd = some (.az o (dP P w Sd ba)):=sm _ _ ja
      have rS:r ≠ Sd:=(jh cY hr).symm
      have bq : ∀ c u,H' c = some u -> c ≠ Sd -> upd (upd H' r (.lst ys)) Sd (dP P w Sd ba) c = some u:=λc u hc cS=>by
       rw [jd cS,jd (jh hc hr)]
       exact hc
      have mG:xf H9 (upd (upd H' r (.lst ys)) Sd (dP P w Sd ba)):=λc u hc=>by
       by_cases z:c = Sd
       .subst z
        rw [ja,<- hS,hc]
       .exact bq _ _ (sm _ _ (by rw [jd z]; exact hc)) z
      have nS : ∀ {a zs},H' a = some (.tup zs) -> a ≠ Sd:=λ{a zs} e z=>by
       subst z
       rw [cY] at e
       cases e
      have qR:g? (fB (upd (upd H' r (.lst ys)) Sd (dP P w Sd ba))) ys (qq ie (cr - few)):=Paired.gi tu λ_ _ ⟨b,e,c,d,h1,h2,h3⟩=>⟨b,e,xa0 c d ⟨bq _ _ h1 (nS h1),bq _ _ h2 (nS h2),bq _ _ h3 (nS h3)⟩⟩
      refine (xa1 Sd o (dP P w Sd ba) ⟨(by rw [jd rS.symm]; exact cY),(λo' u' z=>?_),q_,xa1 r ys (qq ie (cr - few)) ⟨a_,ah.of (by rw [jd rS]; exact ja),fB.at_ qR,?_,jxr RI,λq' aV bE hq pv pt ct pw=>?_⟩⟩)
      .have z':H Sd = some (.az o' u'):=z
       rw [nH] at z'
       cases z'
      .rw [q? tu]
       have:=RA ie (cr - few)
       omega
      .have s3:=jg (o:=.lst aV) hq
       exact yQ _ q' aV bE (mG.trans s3) ja (eN.same s3 ct) pt pw
    .subst e0
     cases hk
     refine .inl ⟨[],hS,λo=>IP (λi ys U H'=>ys = [] /\ xf (upd H9 Sd (.az o (.dT []))) H') ⟨a_,xf.refl _⟩ ?_ ?_ ?_⟩
     .rintro i ys U H' hi ⟨rfl,sm⟩
      exact ⟨sm _ _ ja,by show 0 <= k?; decide⟩
     .intro i kv b ys U H' ek
      simp at ek
     .rintro ys U H' ⟨rfl,sm⟩ r hr
      have cY:H' Sd = some (.az o (.dT [])):=sm _ _ ja
      have rS:r ≠ Sd:=(jh cY hr).symm
      have mG:xf H9 (upd (upd H' r (.lst [])) Sd (.dT [])):=λc u hc=>by
       by_cases z:c = Sd
       .subst z
        rw [ja,<- hS,hc]
       .rw [jd z]
        have e1:=sm c u (by rw [jd z]; exact hc)
        rw [jd (jh e1 hr)]
        exact e1
      refine (xa1 Sd o (.dT []) ⟨(by rw [jd rS.symm]; exact cY),(λo' u' z=>?_),q_,xa1 r [] [] ⟨a_,ah.of (by rw [jd rS]; exact ja),.nil,by decide,.nil,λq' aV bE hq pv pt ct pw=>?_⟩⟩)
      .have z':H Sd = some (.az o' u'):=z
       rw [nH] at z'
       cases z'
      .have s3:=jg (o:=.lst aV) hq
       exact yQ _ q' aV bE (mG.trans s3) ja (eN.same s3 ct) pt pw
   clear RG
   rcases h8 with ⟨rfl,I8⟩ | ⟨k,h,c,rfl,rfl,ck,rfl,gk,hh,hk,sub,gks,lk⟩
   .exact ⟨_,a_,a_,_,a_,gd (tail Z8 H8 ys gs L8 I8)⟩
   .refine ⟨_,a_,a_,_,a_,cb (bF λN4 hN4=>?_)⟩
    obtain ⟨E6,Ak,RJ⟩:=I6.Rz k
    refine ⟨_,a_,Sd,a_,.inr ⟨ys,L8.sd.1.at_⟩,_,a_,cz,λe1 n1=>?_⟩
    have s1:=jg (o:=.lst []) n1
    have L9:=L8.same s1
    have c9:=ck.same s1
    have tD:upd H8 e1 (.lst []) e1 = some (.lst []):=ja
    generalize upd H8 e1 (.lst []) = H9 at L9 c9 s1 tD
    refine ⟨_,.inr (xa1 ys (k2 k) c ⟨L9.sd.1.at_,a_,c9.pair,a_⟩),?_⟩
    obtain ⟨b,eb,hb⟩ : ∃ b,(cy ys (k2 k)).getD (.ref e1) = .ref b /\ H9 b = some (.lst ((jv gs k).map V.int)):=by
     rcases ud (k:=k) (fK.hc L9.hs) with ⟨h1,h2,_⟩ | ⟨b,h1,h2⟩
     .exact ⟨e1,by rw [h1]; rfl,by rw [h2]; exact tD⟩
     .exact ⟨b,by rw [h1]; rfl,h2⟩
    rw [eb]
    refine ⟨_,a_,iU,λe2 n2=>?_⟩
    have s2:=jg (o:=.lst [.int h]) n2
    have RK:upd H9 e2 (.lst [.int h]) e2 = some (.lst [.int h]):=ja
    have Cw:=s2 _ _ hb
    have hV:=s1.trans s2
    generalize upd H9 e2 (.lst [.int h]) = ef at RK Cw hV
    have lh:=I6.len (by have:=ok.h1; have:=ok.ll; omega) k
    have lg:=E6.length_eq
    refine (xa2 b e2 _ _ ⟨a_,a_,Cw,RK,by rw [i?]; exact hJ (by show _ + 1 <= 1000; omega),λe3 n3=>?_⟩)
    have em:(jv gs k).map V.int ++ [.int h] = (jv gs k ++ [h]).map V.int:=by rw [H_]; rfl
    rw [em]
    have s3:=hV.trans (jg (o:=.lst ((jv gs k ++ [h]).map V.int)) n3)
    have tE:upd ef e3 (.lst ((jv gs k ++ [h]).map V.int)) e3 = some (.lst ((jv gs k ++ [h]).map V.int)):=ja
    generalize upd ef e3 (.lst ((jv gs k ++ [h]).map V.int)) = i4 at s3 tE
    refine (xa0 e3 (jv gs k ++ [h]) ⟨a_,ah.of tE,λz hz=>?_,λe4 js n4 mj hj=>?_⟩)
    .have:z ∈ p.hs ++ p.ls:=by
      rcases A_.mp hz with q | q
      .exact RJ z q
      .rw [m?.mp q]
       exact hh
     have:=fw.hr z this
     have:=fw.c8
     omega
    have s4:=s3.trans (jg (o:=qP w e4 js) n4)
    have RL:upd i4 e4 (qP w e4 js) e4 = some (qP w e4 js):=ja
    dsimp only [dm,Cx.pB]
    generalize upd i4 e4 (qP w e4 js) = oN at s4 RL
    refine (xa0 e4 js ⟨a_,RL,mj,λe5 n5=>?_⟩)
    obtain ⟨_,upj,_⟩:=AY 8 js mj
    obtain ⟨ls,J1⟩ : ∃ ls:b? i_,ls = js.map λ(j:j?)=>(j:i_):=⟨_,a_⟩
    have el:js.map (λ(j:j?)=>V.int (j:i_)) = ls.map V.int:=by rw [J1,Ÿ]; rfl
    rw [el]
    have xX:ls.Pairwise (· < ·):=by rw [J1]; exact aak _ (λa b h=>i_.ofNat_lt.mpr h) upj
    have mls : ∀ x,x ∈ ls ↔ x ∈ jv gs k \/ x = h:=λx=>by
     rw [J1,O_,<- m?,<- A_]
     constructor
     .rintro ⟨j,m,rfl⟩
      exact (hj j).mp m
     .intro m
      have h0 : 0 <= x:=by
       have:x ∈ p.hs ++ p.ls:=by
        rcases A_.mp m with q | q
        .exact RJ x q
        .rw [m?.mp q]
         exact hh
       exact (fw.hr x this).1
      exact ⟨x.toNat,(hj _).mpr (by rw [ĸ h0]; exact m),ĸ h0⟩
    have s5:=s4.trans (jg (o:=.lst (ls.map V.int)) n5)
    have oh:upd oN e5 (.lst (ls.map V.int)) e5 = some (.lst (ls.map V.int)):=ja
    have r5 : Z8 e5 = none:=(L8.sw.w.kr.same s4).none n5
    generalize upd oN e5 (.lst (ls.map V.int)) = tL at s5 oh
    have ig:=L8.same s5
    have c13:=ck.same s5
    have I9:=I6.add gk hh hk sub gks lk xX mls
    refine ⟨_,a_,_,a_,xa2 Sd ys (k2 k) c ⟨a_,ig.sd.1.mut,ig.sd.1.at_,a_,c13.pair,?_,?_⟩⟩
    .have:=q? ig.hs
     have:=q? I6.eq
     have:=I6.lc
     exact F? (show ys.length < 1000 by omega) (by decide)
    have fM:=ig.signed oh r5 c13
    have c14:cC (upd tL Sd (dP P w Sd (fu ys (k2 k) c (.ref e5)))) k c:=by
     obtain ⟨x,y,h1,h2,h3⟩:=c13
     exact (xa0 x y ⟨by rw [jd (ig.sd.1.ne h1)]; exact h1,by rw [jd (ig.sd.1.ne h2)]; exact h2,by rw [jd (ig.sd.1.ne h3)]; exact h3⟩)
    generalize upd tL Sd (dP P w Sd (fu ys (k2 k) c (.ref e5))) = J2 at fM c14
    have J3:y8 Y'.n W.aJ k:=by rw [fM.sw.w.n,fM.sw.w.aJ]; exact gk
    have ln:=fM.sw.w.n
    have l8:=ok.l8
    have lh9:=I9.len (by have:=ok.h1; have:=ok.ll; omega) k
    refine hN4 _ _ ⟨_,a_,xa1 C dC _ ⟨a_,fM.ct.ob.1,tG _ _ (by decide +kernel) (by decide +kernel),_,a_,xb5 Z8 W Y' C dC Bq dB S _ aE _ c k ⟨a_,fM.room,c14,J3,by omega,by omega,λRM r15 J4 J6 J7 RN RO=>?_⟩⟩⟩
    have rG:=fM.same J6
    obtain ⟨q1,q2,_⟩:=I9.Rz k
    obtain ⟨b2,vb2,Cw⟩ : ∃ b,cy (fu ys (k2 k) c (.ref e5)) (k2 k) = some (.ref b) /\ RM b = some (.lst ((jv (lO gs k ls) k).map V.int)):=by
     rcases ud (k:=k) (fK.hc rG.hs) with ⟨_,_,h3⟩ | ⟨b,h1,h2⟩
     .exact v_ (j5j gs k ls) h3
     .exact ⟨b,h1,h2⟩
    have e15:J4 = jv (lO gs k ls) k:=j43 (RN.trans q1.symm) RO q2
    subst e15
    refine ⟨_,a_,_,a_,xa3 Sd _ (k2 k) c _ ⟨a_,rG.sd.1.at_,a_,(c14.same J6).pair,vb2,xa0 _ _ ⟨Mu (ah.of J7),Mu (ah.of Cw),VA _,_,a_,?_⟩⟩⟩
    rw [Vz,j' a_]
    exact gd (tail Z8 RM _ _ rG I9)
  have h0:=ok.h0
  have h16:=ok.h1
  have lc:=I6.lc
  have RP:xs.length <= 1000:=by have:=q? L7.ct.bd.hs; omega
  have l8:=ok.l8
  refine ⟨_,a_,a_,_,a_,bh (λ_=>?_) (λ_=>?_)⟩
  .refine bF λM hM=>⟨_,a_,_,a_,oJ L7.sw L7.ps.ho h0 (by omega) λh H8 hh S8 f8=>?_⟩
   have L8:=L7.draw S8 f8
   clear S8 f8 L7
   obtain ⟨B,L',ek,gn,ki,kx⟩:=L8.sw.w.qcr hh
   obtain ⟨gk,nx⟩:=j0l ki kx L8.sw.w.n (by omega) yP
   have lh:=I6.len (by have:=ok.ll; omega) (B.zm,B.held)
   refine hM _ _ (bF λM hM=>⟨_,a_,xa1 C dC _ ⟨a_,L8.ct.ob.1,tG _ _ (by decide +kernel) (by decide +kernel),_,a_,xb5 Z6 W Y C dC Bq dB S _ xs cs h B ⟨a_,L8.room,ek,RP,by omega,λc Z9 H9 J8 R9 f9 ck=>?_⟩⟩⟩)
   have L9:=L8.cut R9 f9
   clear R9 f9 L8
   have ld : B.done.length <= 1000:=by have:=ki.sz.dw; omega
   have lhd:=ki.ok.h
   have en:=L9.sw.w.n
   refine hM _ _ (bF λM hM=>⟨_,a_,xa0 be _ ⟨a_,.inl (ah.of L9.ps.be.1),?_⟩⟩)
   rw [i?]
   refine ⟨(p.ns.length:i_),a_,by omega,by omega,Ef (lo:=0) (n:=((p.ns.length:j?) : i_).toNat) (λj ys U H'=>∃ v,U = [v,some (.int h),some (.ref W.x)] /\ xf H9 H' /\ ys = ((U_ j).map λq=>((iZ (q:j?) B.done).length:i_)).map V.int) ⟨none,a_,xf.refl _,a_⟩ ?_ ?_ ?_⟩
   .rintro j ys U H' hj ⟨v,rfl,_,rfl⟩
    rw [i?,i?,Ź]
    exact BQ (by omega)
   .rintro j ys U ef hj ⟨v,rfl,cW,rfl⟩
    have e0:(0:i_) + (j:i_) = j:=acV _
    rw [e0]
    dsimp only [ip,pX]
    rw [j_ a_]
    have mU:=L9.same cW
    refine ⟨_,a_,xa1 W.x W.dx _ ⟨a_,mU.sw.w.o.ob.1,xn,_,a_,xa5 Z9 0 W Y h B ⟨a_,mU.sw.w.o,ek,ld,λr zs nr px0=>?_⟩⟩⟩
    have eS:=jg (o:=.lst zs) nr
    have dg:upd ef r (.lst zs) r = some (.lst zs):=ja
    have px:g? (xq (upd ef r (.lst zs)) Z9) zs B.done:=Paired.gi px0 λ_ _=>xq.fr (P:=λ_=>v?) (Fr.same eS)
    generalize upd ef r (.lst zs) = i4 at eS dg px
    have lz:zs.length = B.done.length:=q? px
    refine ⟨r,a_,⟨_,ah.of dg⟩,so (K:=K) (a:=r) (xs:=zs) (λi ys U H'=>∃ v,U = [v,some (.int (j:i_))] /\ H' = i4 /\ ys.length = (iZ j (B.done.take i)).length) ⟨none,a_,a_,a_⟩ ?_ ?_ ?_⟩
    .rintro i ys U H' hi ⟨v,rfl,rfl,ly⟩
     refine ⟨ah.of dg,BQ ?_⟩
     rw [ly]
     refine K? (Q_ _ _) ?_
     rw [ø]
     omega
    .rintro i y ys U H' ey ⟨v,rfl,rfl,ly⟩
     obtain ⟨o,eo,q,rfl,nq,hq⟩:=qa px ey
     have et:iZ j (B.done.take (i + 1)) = iZ j (B.done.take i) ++ if o.p = (j:i_) then [o] else []:=by
      unfold iZ
      rw [take_snoc eo,Ĉ]
      congr 1
      by_cases z:o.p = (j:i_) <;> simp [z]
     refine ⟨_,a_,xa2 q (cL o) 0 (.int o.p) ⟨a_,a_,ax.of hq,a_,_,a_,a_,_,a_,bh (λz=>?_) (λz=>?_)⟩⟩
     .refine ⟨_,a_,_,a_,a_,?_⟩
      rw [et,j_ (V.int.inj (w? z)),r_,r_,ly]
      rfl
     .refine ⟨_,a_,a_,?_⟩
      rw [et,f? (λy=>z (by rw [y]; exact j' a_)),å]
      exact ly
    rintro ys U H' ⟨v,rfl,rfl,ly⟩ r2 nr2
    rw [lz,Ò] at ly
    refine (xa0 r2 ys ⟨a_,.inl (ah.of ja),_,a_,cW.trans (eS.trans (jg nr2)),?_⟩)
    rw [ly,aeM,H_,H_]
    rfl
   rintro ys U ef ⟨v,rfl,cW,rfl⟩ r nr
   have enx:((U_ ((p.ns.length:j?) : i_).toNat).map λq=>((iZ (q:j?) B.done).length:i_)) = B.zm:=by
    rw [show ((p.ns.length:j?) : i_).toNat = p.ns.length by omega]
    have lx:=ki.ok.x
    refine ad0 λj=>?_
    by_cases hj:j < p.ns.length
    .rw [J',b?.getElem?_range hj]
     have e1:=nx j hj
     have e2 : B.zm[((j:i_)).toNat]? = some (gI B.zm (j:i_)):=BJ (by omega) (by omega)
     rw [show ((j:i_)).toNat = j by omega] at e2
     rw [e2,e1]
     rfl
    .rw [ac8 (by rw [i?,Ź]; omega),ac8 (by omega)]
   rw [enx]
   have eS:=cW.trans (jg (o:=.lst (B.zm.map V.int)) nr)
   have dg:upd ef r (.lst (B.zm.map V.int)) r = some (.lst (B.zm.map V.int)):=ja
   generalize upd ef r (.lst (B.zm.map V.int)) = i4 at eS dg
   refine (xa0 r _ ⟨a_,.inl ⟨ah.of dg,λnt nnt=>?_⟩⟩)
   have hV:=eS.trans (jg (o:=.tup (B.zm.map V.int)) nnt)
   have RQ:upd i4 nt (.tup (B.zm.map V.int)) nt = some (.tup (B.zm.map V.int)):=ja
   generalize upd i4 nt (.tup (B.zm.map V.int)) = oN at hV RQ
   have mW:=L9.same hV
   have c12:=ck.same hV
   clear cW eS dg nr L9 ck
   refine hM _ _ (bF λM hM=>⟨_,a_,_,a_,_,a_,xa1 W.x W.dx _ ⟨a_,mW.sw.w.o.ob.1,xn,_,a_,xa5 Z9 0 W Y h B ⟨a_,mW.sw.w.o,ek,by omega,λa1 RS=>(xa0 a1 _ ⟨a_,.inl ⟨ah.of ja,λa2 RT=>⟨oy,λtp RU=>?_⟩⟩⟩)⟩⟩⟩)
   have t1:=jg (o:=.lst (B.held.map V.int)) RS
   have t2:=jg (o:=.tup (B.held.map V.int)) RT
   have t3:=jg (o:=.tup [.ref nt,.ref a2]) RU
   have tM:=t1.trans (t2.trans t3)
   have RV:cC (upd (upd (upd oN a1 (.lst (B.held.map V.int))) a2 (.tup (B.held.map V.int))) tp (.tup [.ref nt,.ref a2])) (B.zm,B.held) tp:=(xa0 nt a2 ⟨ja,tM _ _ RQ,t3 _ _ ja⟩)
   generalize upd (upd (upd oN a1 (.lst (B.held.map V.int))) a2 (.tup (B.held.map V.int))) tp (.tup [.ref nt,.ref a2]) = tL at tM RV
   have ig:=mW.same tM
   have c13:=c12.same tM
   clear t1 t2 t3 tM RS RT RU mW c12
   refine (xa0 (dE (B.zm,B.held)) (dE (B.zm,B.held)) ⟨c13.has,RV.has,Fc _,_,a_,?_⟩)
   rw [AW,j' a_]
   refine gd ?_
   refine ⟨_,a_,_,a_,xa5 Z9 0 W Y h B ⟨a_,ig.sw.w.o,ek,λJ2 p2 Cy np2 c2=>⟨_,a_,xa0 (dE (B.zm,B.held)) (dE (B.zm,B.held)) ⟨c2.has,(c13.same Cy).has,Fc _,_,a_,?_⟩⟩⟩⟩
   rw [AW,j' a_]
   refine gd ?_
   have fM:=ig.same Cy
   have c14:=c13.same Cy
   have lus:=q? fM.su
   have J9:=I6.lk
   refine hM _ _ ⟨_,a_,.inl ⟨a_,_,ah.of fM.st.1⟩,_,a_,xa1 Sl us (.ref c) ⟨a_,a_,fM.st.1,zq (by omega),?_⟩⟩
   obtain ⟨rG,c15⟩:=fM.j80 c14
   refine key Z9 _ Y J8 _ _ _ _ _ _ _ rG.wait (.inr (xa1 _ h c ⟨a_,a_,c15,a_,gk,X_ _ hh,.inr (C_ _ t?),λx hx=>X_ _ hx,λx hx=>?_,by rw [r_]; exact abf J9⟩))
   rcases A_.mp hx with q | q
   .exact I6.gk x q
   .rw [m?.mp q]
    exact gk
  refine sQ λN5 Ka=>?_
  have other : ∀ H8,bP P w t H8 Z6 W Y i p To R pa cr few fo ho be ro C dC Bq dB S Sd Sl xs cs ys gs us ks -> N5 false H8:=λH8 L8=>by
   refine Ka _ _ (gd (bF λM hM=>⟨_,a_,_,a_,xa8 Z6 W Y i p To R pa cr few fo ho be ro 7 ⟨a_,L8.sw,L8.ps,ok,by omega,λ Z9 H9 Y9 v S9 f9=>?_⟩⟩))
   have L9:=L8.fr f9 (λ_ z=>by rcases z with z | z | z <;> cases z) (λ_ z=>by rcases z with z | z | z <;> cases z) S9
   exact hM _ _ (key Z9 H9 Y9 xs cs us ks _ _ _ _ L9 (.inl ⟨a_,I6.wait⟩))
  refine ⟨_,a_,a_,_,a_,bh (λ_=>?_) (λ_=>other H7 L7)⟩
  refine ⟨_,a_,cz,λe ne=>?_⟩
  have L8:=L7.same (jg (o:=.lst []) ne)
  refine (xa2 _ _ e p.ls.length ⟨a_,a_,ah.of L8.ps.fo.1,ah.of ja,i? ..,_,a_,?_⟩)
  generalize upd H7 e (.lst []) = H8 at L8
  by_cases zl:p.ls.length = 0
  .rw [j' zl]
   exact other H8 L8
  rw [t_ zl]
  have nl : 0 < p.ls.length:=ŋ zl
  have ll:=ok.ll
  refine Ka _ _ (cb (bF λM hM=>⟨_,a_,_,a_,oJ L8.sw L8.ps.fo nl (by omega) λh H9 hh S9 f9=>?_⟩))
  have L9:=L8.draw S9 f9
  clear other L7 L8 S9 f9 Ka
  refine hM _ _ (bF λM hM=>⟨_,a_,xa1 To R 3 ⟨a_,L9.sw.tn,by decide,by decide,λg ef g0 g1 yU k10=>?_⟩⟩)
  obtain ⟨RW,tN⟩:=L9.sw.draw yU k10
  have mU:=L9.draw RW tN
  clear L9 RW tN yU k10
  refine ⟨iU,λq1 n1=>?_⟩
  have s1:=jg (o:=.tup [.int g]) n1
  have Kb:upd ef q1 (.tup [.int g]) q1 = some (.tup [.int g]):=ja
  have oM:=mU.same s1
  generalize upd ef q1 (.tup [.int g]) = i4 at Kb oM
  clear s1 n1 mU
  have flat : ∀ (x:i_) (n:j?),(l' n [V.int x]).flatten = (l' n x).map V.int:=λx n=>by
   induction n with
   | zero=>rfl
   | succ n ih=>rw [X',ŀ,ih,X',y?]; rfl
  refine ⟨_,a_,xa0 be _ ⟨a_,.inl (ah.of oM.ps.be.1),?_⟩⟩
  rw [i?]
  refine (xa1 q1 (p.ns.length:i_) [.int g] ⟨a_,a_,ax.of Kb,(by intro z; cases z),by omega,by omega,?_,λz=>by omega,λ_ q2 n2=>?_⟩)
  .rw [show ((p.ns.length:j?) : i_).toNat = p.ns.length by omega]
   exact hJ (by show 1 * p.ns.length <= 1000; omega)
  rw [flat,show ((p.ns.length:j?) : i_).toNat = p.ns.length by omega]
  have s2:=jg (o:=.tup ((l' p.ns.length g).map V.int)) n2
  have gO:upd i4 q2 (.tup ((l' p.ns.length g).map V.int)) q2 = some (.tup ((l' p.ns.length g).map V.int)):=ja
  have mW:=oM.same s2
  generalize upd i4 q2 (.tup ((l' p.ns.length g).map V.int)) = oN at gO mW
  clear s2 n2 oM Kb
  refine ⟨_,a_,xa0 be p.ns ⟨a_,ah.of mW.ps.be.1,iU,λq3 n3=>?_⟩⟩
  have s3:=jg (o:=.tup [.int p.ns.sum]) n3
  have oO:upd oN q3 (.tup [.int p.ns.sum]) q3 = some (.tup [.int p.ns.sum]):=ja
  have ig:=mW.same s3
  have gO:=s3 _ _ gO
  generalize upd oN q3 (.tup [.int p.ns.sum]) = tL at gO oO ig
  clear s3 n3 mW
  refine ⟨iU,λq4 n4=>?_⟩
  have s4:=jg (o:=.tup [.int 0]) n4
  have Kc:upd tL q4 (.tup [.int 0]) q4 = some (.tup [.int 0]):=ja
  have fM:=ig.same s4
  have gO:=s4 _ _ gO
  have oO:=s4 _ _ oO
  generalize upd tL q4 (.tup [.int 0]) = J2 at gO oO Kc fM
  clear s4 n4 ig
  refine ⟨_,a_,xa0 be _ ⟨a_,.inl (ah.of fM.ps.be.1),?_⟩⟩
  rw [i?]
  refine (xa0 _ _ ⟨a_,a_,?_⟩)
  have fin : ∀ tO fk,bP P w t tO Z6 W Y i p To R pa cr few fo ho be ro C dC Bq dB S Sd Sl xs cs ys gs us ks -> cC tO (l' p.ns.length g,p.ns.sum :: l' (p.ns.length - 1) (0:i_)) fk -> M (lst a To pa W.x cr few fo ho be ro C Sd Sl [some (.int (0 + (i:i_))),some (.int d),some (.int h),v4,v5,some (.ref fk),v7]) tO:=by
   intro tO fk Kd RX
   have gf : y8 p.ns.length p.ns.sum (l' p.ns.length g,p.ns.sum :: l' (p.ns.length - 1) (0:i_)):=by
    have pos : 0 <= p.ns.sum:=by
     have aux : ∀ {xs:b? i_},(∀ i ∈ xs,0 <= i /\ i <= 1000) -> 0 <= xs.sum:=λ{xs}=>by
      induction xs with
      | nil=>exact λ_=>aaB _
      | cons x xs ih=>
       intro h
       have:=ih λy hy=>h y (u_ _ hy)
       have:=(h x t?).1
       rw [abg]
       omega
     exact aux fw.nr
    refine ⟨⟨W?,λk hk=>?_⟩,⟨?_,λk hk=>?_⟩,?_⟩
    .rw [ÿ hk]
     omega
    .show (l' (p.ns.length - 1) (0:i_)).length + 1 = p.ns.length
     rw [W?]
     omega
    .rcases B_.mp hk with rfl | hk
     .exact ⟨pos,yP⟩
     .rw [ÿ hk]
      omega
    .show (p.ns.sum :: l' (p.ns.length - 1) (0:i_)).sum = p.ns.sum
     have z0 : ∀ n:j?,(l' n (0:i_)).sum = 0:=λn=>by
      induction n with
      | zero=>rfl
      | succ n ih=>rw [X',abg,ih]; rfl
     rw [abg,z0]
     omega
   have J9:=I6.lk
   have lus:=q? Kd.su
   refine hM _ _ (bF λM hM=>⟨_,a_,_,a_,_,a_,iU,λe6 n6=>?_⟩)
   have s8:=jg (o:=.lst [.ref fk]) n6
   have yV:=Kd.same s8
   have Ke:upd tO e6 (.lst [.ref fk]) e6 = some (.lst [.ref fk]):=ja
   have c18:=RX.same s8
   generalize upd tO e6 (.lst [.ref fk]) = RY at Ke c18 yV
   refine (xa2 Sl e6 us [.ref fk] ⟨a_,a_,yV.st.1,Ke,hJ (by show us.length + 1 <= 1000; omega),λe7 n7=>?_⟩)
   have s9:=jg (o:=.lst (us ++ [.ref fk])) n7
   have yW:=yV.same s9
   have yH:upd RY e7 (.lst (us ++ [.ref fk])) e7 = some (.lst (us ++ [.ref fk])):=ja
   have c19:=c18.same s9
   obtain ⟨m1,m2⟩:=yV.sw.tn.fresh n7
   generalize upd RY e7 (.lst (us ++ [.ref fk])) = H19 at yH c19 yW
   clear s8 s9 n6 n7 Kd yV Ke c18 RX
   refine (xa2 To R e7 (us ++ [.ref fk]) ⟨a_,yW.sw.tn,yH,m1,m2,by rw [r_]; exact afz _,by rw [r_]; show us.length + 1 <= 1000000; omega,λj x H20 ex Kf k20=>?_⟩)
   obtain ⟨S20,oP⟩:=yW.sw.draw Kf k20
   have mX:=yW.draw S20 oP
   have pc:g? (fB H20) (us ++ [.ref fk]) (ks ++ [(l' p.ns.length g,p.ns.sum :: l' (p.ns.length - 1) (0:i_))]):=qi mX.su ⟨fk,a_,yM oP yW.sw.w.kr c19⟩
   obtain ⟨kk,Kg,c,rfl,ck⟩:=qa pc ex
   have RZ:y8 p.ns.length p.ns.sum kk:=by
    rcases A_.mp (r? Kg) with q | q
    .exact I6.gk kk q
    .rw [m?.mp q]
     exact gf
   have J3:y8 Y.n W.aJ kk:=by rw [mX.sw.w.n,mX.sw.w.aJ]; exact RZ
   have ln:=mX.sw.w.n
   have lh:=I6.len (by omega) kk
   refine hM _ _ ⟨_,a_,xa1 C dC _ ⟨a_,mX.ct.ob.1,tG _ _ (by decide +kernel) (by decide +kernel),_,a_,_,a_,xa8 Z6 W Y C dC Bq dB S _ xs cs h p.ls c kk ⟨a_,mX.room,mX.sw.w.ly.1,hh,ck,J3,by omega,RP,by omega,λ Z9 H21 J8 R21 oQ=>?_⟩⟩⟩
   exact key Z9 H21 Y J8 _ us ks _ _ _ _ (mX.cut R21 oQ).wait (.inr (xa1 kk h c ⟨a_,a_,yM oQ mX.sw.w.kr ck,a_,RZ,C_ _ hh,.inl hh,λ_ hx=>hx,I6.gk,Ã J9⟩))
  have cont : ∀ q6 G',bP P w t G' Z6 W Y i p To R pa cr few fo ho be ro C dC Bq dB S Sd Sl xs cs ys gs us ks -> G' q2 = some (.tup ((l' p.ns.length g).map V.int)) -> G' q6 = some (.tup ((p.ns.sum :: l' (p.ns.length - 1) (0:i_)).map V.int)) -> ∀ fk,G' fk = none -> M (lst a To pa W.x cr few fo ho be ro C Sd Sl [some (.int (0 + (i:i_))),some (.int d),some (.int h),v4,v5,some (.ref fk),v7]) (upd G' fk (.tup [.ref q2,.ref q6])):=λq6 G' L16 gO hq6 fk yX=>by
   have s7:=jg (o:=.tup [.ref q2,.ref q6]) yX
   exact fin _ fk (L16.same s7) (xa0 q2 q6 ⟨ja,s7 _ _ gO,s7 _ _ hq6⟩)
  clear fin hM
  have cat : ∀ (z:c_) (G:Hp) (Qc:VK),bP P w t G Z6 W Y i p To R pa cr few fo ho be ro C dC Bq dB S Sd Sl xs cs ys gs us ks -> G q2 = some (.tup ((l' p.ns.length g).map V.int)) -> G q3 = some (.tup [.int p.ns.sum]) -> G z = some (.tup ((l' (p.ns.length - 1) (0:i_)).map V.int)) -> (∀ q6 G',bP P w t G' Z6 W Y i p To R pa cr few fo ho be ro C dC Bq dB S Sd Sl xs cs ys gs us ks -> G' q2 = some (.tup ((l' p.ns.length g).map V.int)) -> G' q6 = some (.tup ((p.ns.sum :: l' (p.ns.length - 1) (0:i_)).map V.int)) -> Qc (.ref q6) G') -> LA K (.ref q3) (.ref z) G Qc:=by
   intro z G Qc rG gO oO hz kc
   refine (xa2 q3 z [.int p.ns.sum] _ ⟨a_,a_,ax.of oO,ax.of hz,(by intro z; cases z),?_,λe=>?_,λ_ q6 n6=>?_⟩)
   .rw [i?,W?]
    exact hJ (by show 1 + (p.ns.length - 1) <= 1000; omega)
   .have:=T_ ć e
    rw [i?,W?] at this
    exact v_ this (by show ¬ p.ns.length - 1 = 0; omega)
   .have s6:=jg (o:=.tup ([.int p.ns.sum] ++ (l' (p.ns.length - 1) (0:i_)).map V.int)) n6
    exact kc q6 _ (rG.same s6) (s6 _ _ gO) ja
  refine (xa1 q4 ((p.ns.length:i_) - 1) [.int 0] ⟨a_,a_,ax.of Kc,(by intro z; cases z),by omega,by omega,?_,λz=>?_,λ_ q5 n5=>?_⟩)
  .rw [show ((p.ns.length:i_) - 1).toNat = p.ns.length - 1 by omega]
   exact hJ (by show 1 * (p.ns.length - 1) <= 1000; omega)
  .exact cat q4 J2 _ fM gO oO (by rw [show p.ns.length - 1 = 1 by omega]; exact Kc) λq6 G' a1 a2 a3=>⟨oy,λfk yX=>cont q6 G' a1 a2 a3 fk yX⟩
  .rw [flat,show ((p.ns.length:i_) - 1).toNat = p.ns.length - 1 by omega]
   have s5:=jg (o:=.tup ((l' (p.ns.length - 1) (0:i_)).map V.int)) n5
   exact cat q5 _ _ (fM.same s5) (s5 _ _ gO) (s5 _ _ oO) ja λq6 G' a1 a2 a3=>⟨oy,λfk yX=>cont q6 G' a1 a2 a3 fk yX⟩
 .rintro U H6 ⟨Z6,Y,xs,cs,ys,gs,us,ks,v1,v2,v3,v4,v5,v6,v7,rfl,L6,I6,hg⟩
  obtain ⟨r,eD,bI,rfl,hr,cu,gg⟩:=hg (by decide)
  refine hN _ _ ⟨_,a_,r,a_,⟨_,ah.of hr⟩,so (K:=K) (a:=r) (xs:=eD) (λi ys U H'=>∃ v,U = [v,some (.ref be)] /\ H' = H6 /\ ys = []) ⟨none,a_,a_,a_⟩ ?_ ?_ ?_⟩
  .rintro i ys U H' hi ⟨v,rfl,rfl,rfl⟩
   exact ⟨ah.of hr,W_ _⟩
  .rintro i y ys U H' ey ⟨v,rfl,rfl,rfl⟩
   obtain ⟨kk,Kg,b,c,d,rfl,h1,h2,h3⟩:=qa cu ey
   refine ⟨_,a_,xa2 b _ 1 (.ref d) ⟨a_,a_,h1,a_,xa0 d kk.2 ⟨a_,h3,_,a_,xa0 be p.ns ⟨a_,ah.of L6.ps.be.1,?_⟩⟩⟩⟩
   refine ⟨a_,_,a_,?_⟩
   rw [(gg kk (r? Kg)).2.2,j' (a_:V.int p.ns.sum = V.int p.ns.sum)]
   exact gd ⟨_,a_,a_,a_⟩
  rintro ys U H' ⟨v,rfl,rfl,rfl⟩ Cv yT
  exact ⟨cz,λJZ mV=>(xa2 Cv [] JZ 0 ⟨a_,a_,ah.of (jg mV _ _ ja),ah.of ja,a_,k _⟩)⟩
end
noncomputable abbrev aN (K:e?)(x:y_)(v:f_ b_):Prop:=afr K Þ x=some v
noncomputable abbrev aF (K:e?)(a:c_)(x:y_)(v:f_ b_):Prop:=G_ K (.ref a) x=some v
noncomputable abbrev aL (K:e?)(f:c_)(n q:y_)(s:I_)(oc:b_)(od:f_ c_)(kV dc pm:b_)(an:f_ c_)(cd ct:b_)(sl:C? (f_ b_)):Prop:=K.lookup f=some ⟨oc,od,.func (ô n q (rZ s) (iN s) (jr s) .none kV dc pm an cd ct),sl⟩
noncomputable abbrev aC (K:e?)(q:b_)(s:y_):Prop:=aah K q s=true
noncomputable abbrev aK (K:e?)(f:c_):Prop:=Û K (.ref f)=true
noncomputable abbrev aI (K:e?)(f:c_):Prop:=aaV K (.ref f)=true
noncomputable abbrev aR (K:e?)(s:y_)(f:c_):Prop:=aN K s (some (.ref f))
noncomputable abbrev aG (K:e?)(c:c_)(s:y_)(f:c_):Prop:=aF K c s (some (.ref f))
noncomputable abbrev aM (K:e?)(f:c_)(n:y_)(s:I_)(oc:b_)(od:f_ c_)(kV dc pm:b_)(an:f_ c_)(cd ct:b_)(sl:C? (f_ b_)):Prop:=aL K f n n s oc od kV dc pm an cd ct sl
set_option maxHeartbeats 4000000 in
set_option autoImplicit true in
set_option relaxedAutoImplicit true in
theorem all_mk {l:W.OpenLaw} {w:World} {K:W.Frag} {h:Heap} {mg:Str -> Option Value} {fa:Addr} (X:K.In h) (G:h.Ns mainGlobals mg) (hfa:mg "law" = some (.ref fa))
 {q2 q3 q4 q5 q6 q7:Value}
 (cm0:aR K "Board" ik)
 (cg0:W.plainGet K ik Str.empty = true) (ch0:W.hasDictIn K ik = true) (co0:W.plainOver K ik = true) (cs0:aF K ik "__setattr__" (some (.builtin "object.__setattr__")))
 (cn0_0:aF K ik "enough" none)
 (cn0_1:aF K ik "signers" none)
 (cm1:aR K "Keeper" cH)
 (cg1:W.plainGet K cH Str.empty = true) (ch1:W.hasDictIn K cH = true) (co1:W.plainOver K cH = true) (cs1:aF K cH "__setattr__" (some (.builtin "object.__setattr__")))
 (cn1_0:aF K cH "held" none)
 (cn1_1:aF K cH "next_numbers" none)
 (cn1_2:aF K cH "done" none)
 (cn1_3:aF K cH "heard" none)
 (cn1_4:aF K cH "unvoted" none)
 (cn1_5:aF K cH "choices" none)
 (cn1_6:aF K cH "waiting" none)
 (cm2:aR K "World" bA)
 (cg2:W.plainGet K bA Str.empty = true) (ch2:W.hasDictIn K bA = true) (co2:W.plainOver K bA = true) (cs2:aF K bA "__setattr__" (some (.builtin "object.__setattr__")))
 (ia2:aF K bA "__class__" (some (.builtin "object.__class__"))) (in2:W.specialIn K (.builtin "object.__class__") "__get__" = some (some (.builtin "getset_descriptor.__get__"))) (it2:W.takesIn K (.builtin "object.__class__") = some true) (im2:W.mroIn K bA (.type "object") = some true) (ik2:W.kitOne K (.ref bA) (.ref bA) = some true)
 (cn2_0:aF K bA "purses" none)
 (cn2_1:aF K bA "total" none)
 (cn2_2:aF K bA "lying" none)
 (cn2_3:aF K bA "cheating" none)
 (cn2_4:aF K bA "keepers" none)
 (cn2_5:aF K bA "board" none)
 (cn2_6:aF K bA "asked" none)
 (cn2_7:aF K bA "on_way" none)
 (cm3:aR K "Book" fN)
 (cg3:W.plainGet K fN Str.empty = true) (ch3:W.hasDictIn K fN = true) (co3:W.plainOver K fN = true) (cs3:aF K fN "__setattr__" (some (.builtin "object.__setattr__")))
 (cn3_0:aF K fN "held" none)
 (cn3_1:aF K fN "next_numbers" none)
 (cn3_2:aF K fN "done" none)
 (cm4:aR K "Cutting" gP)
 (cg4:W.plainGet K gP Str.empty = true) (ch4:W.hasDictIn K gP = true) (co4:W.plainOver K gP = true) (cs4:aF K gP "__setattr__" (some (.builtin "object.__setattr__")))
 (cn4_0:aF K gP "world" none)
 (cn4_1:aF K gP "board" none)
 (xm0:aR K "NoPurse" eT)
 (xm1:aR K "TooMuch" iK)
 (xm2:aR K "NotNow" iL)
 (xm3:aR K "PurseError" oR)
 (xm4:aR K "BadCut" Cz)
 (xm5:aR K "BadText" CA)
 (xm6:aR K "BadPaper" CC)
 (xm7:aR K "NoHouse" CD)
 (xm8:aR K "NoLetter" CF)
 (xm9:aR K "BadNumber" CG)
 (xm10:aR K "BadOrder" mY)
 (xm11:aR K "BadHouses" mZ)
 (a0:aR K "is_whole" f0)
 (l0:av K "is_whole" "is_whole" A3 f0 dd0)
 (a1:aR K "is_between" f1)
 (l1:aM K f1 "is_between" A4 o1 r1 v1 d1 p1 s1 q1 t1 u1)
 (c1:aC K q1 "is_between") (k1:aK K f1)
 (a2:aR K "is_order" f2)
 (l2:aM K f2 "is_order" A5 o2 r2 (.ref kd2) d2 p2 s2 q2 t2 u2)
 (c2:aC K q2 "is_order") (k2:aK K f2)
 (e2:W.nsIn K kd2 "purses" = some (some (.int 8 kt2)))
 (a3:aR K "place_of" f3)
 (l3:aM K f3 "place_of" A6 o3 r3 v3 d3 p3 s3 q3 t3 u3)
 (c3:aC K q3 "place_of") (k3:aK K f3)
 (a4:aR K "are_rising" f4)
 (l4:aM K f4 "are_rising" wI o4 r4 v4 d4 p4 s4 q4 t4 u4)
 (c4:aC K q4 "are_rising") (k4:aK K f4)
 (a5:aR K "is_rising_row" f5)
 (l5:aM K f5 "is_rising_row" A7 o5 r5 v5 d5 p5 s5 q5 t5 u5)
 (c5:aC K q5 "is_rising_row") (k5:aK K f5)
 (a6:aR K "is_house_count" f6)
 (l6:aM K f6 "is_house_count" ky o6 r6 v6 d6 p6 s6 q6 t6 u6)
 (c6:aC K q6 "is_house_count") (k6:aK K f6)
 (a7:aR K "is_few" f7)
 (l7:aM K f7 "is_few" A8 o7 r7 v7 d7 p7 s7 q7 t7 u7)
 (c7:aC K q7 "is_few") (k7:aK K f7)
 (a8:aR K "outnumber" f8)
 (l8:aM K f8 "outnumber" Fv o8 r8 v8 d8 p8 s8 q8 t8 u8)
 (c8:aC K q8 "outnumber") (k8:aK K f8)
 (a9:aR K "enough_of" f9)
 (l9:aM K f9 "enough_of" Fw o9 r9 v9 d9 p9 s9 q9 t9 u9)
 (c9:aC K q9 "enough_of") (k9:aK K f9)
 (a10:aR K "are_sums" tN)
 (l10:av K "are_sums" "are_sums" A9 tN D10)
 (a11:aR K "are_first_sums" Kh)
 (l11:av K "are_first_sums" "are_first_sums" kq Kh D11)
 (a12:aG K eT "__init__" eE)
 (l12:av K "__init__" "NoPurse.__init__" va eE D12)
 (xrn12:AJ K eT eE = true) (xd12a:aF K eT "__setattr__" (some (.builtin "object.__setattr__"))) (xd12b:aF K eT "__getattribute__" (some (.builtin "BaseException.__getattribute__"))) (xd12c:aF K eT "__getattr__" none) (xd12d:aF K eT "purse" none)
 (a13:aR K "check_houses" Ki)
 (l13:aM K Ki "check_houses" Fx o13 r13 v13 d13 p13 s13 q13 tM u13)
 (c13:aC K q13 "check_houses") (k13:aK K Ki)
 (a14:aR K "check_purses" rh)
 (l14:aM K rh "check_purses" Fy o14 r14 v14 d14 p14 Cy q14 t14 u14)
 (c14:aC K q14 "check_purses") (k14:aK K rh)
 (a15:aG K ik "__init__" lI) (n15:aI K lI)
 (mk15:W.makesIn K ik = true) (mq15:aK K ik)
 (l15:av K "__init__" "Board.__init__" kz lI D15)
 (a16:aG K ik "is_carried" CH) (n16:aI K CH)
 (l16:av K "is_carried" "Board.is_carried" xx CH D16)
 (a17:aG K ik "put" mP) (n17:aI K mP)
 (l17:av K "put" "Board.put" wJ mP D17)
 (a18:aG K ik "houses_for" CI) (n18:aI K CI)
 (l18:av K "houses_for" "Board.houses_for" vf CI D18)
 (a19:aG K ik "carried" CJ) (n19:aI K CJ)
 (l19:av K "carried" "Board.carried" vu CJ D19)
 (a20:aG K fN "__init__" oP) (n20:aI K oP)
 (mk20:W.makesIn K fN = true) (mq20:aK K fN)
 (l20:av K "__init__" "Book.__init__" Ba oP D20)
 (a21:aG K fN "is_past" oQ) (n21:aI K oQ)
 (l21:av K "is_past" "Book.is_past" Bb oQ D21)
 (a22:aG K fN "is_due" yY) (n22:aI K yY)
 (l22:av K "is_due" "Book.is_due" wK yY D22)
 (a23:aG K fN "settle" yZ) (n23:aI K yZ)
 (l23:av K "settle" "Book.settle" wL yZ D23)
 (a24:aG K cH "__init__" CK) (n24:aI K CK)
 (mk24:W.makesIn K cH = true) (mq24:aK K cH)
 (l24:av K "__init__" "Keeper.__init__" wj CK D24)
 (a25:aG K cH "stands" CL) (n25:aI K CL)
 (l25:av K "stands" "Keeper.stands" Bc CL D25)
 (a26:aG K cH "left_of" CM) (n26:aI K CM)
 (l26:av K "left_of" "Keeper.left_of" kn CM D26)
 (a27:aG K cH "give_votes" CN) (n27:aI K CN)
 (l27:av K "give_votes" "Keeper.give_votes" xp CN D27)
 (a28:aG K cH "first_due" CO) (n28:aI K CO)
 (l28:av K "first_due" "Keeper.first_due" xy CO D28)
 (a29:aG K cH "go_on" CP) (n29:aI K CP)
 (l29:av K "go_on" "Keeper.go_on" kj CP D29)
 (a30:aG K cH "hear" CQ) (n30:aI K CQ)
 (l30:av K "hear" "Keeper.hear" Bd CQ D30)
 (a31:aG K cH "take_paper" CT) (n31:aI K CT)
 (l31:av K "take_paper" "Keeper.take_paper" yt CT D31)
 (a32:aG K bA "__init__" CU) (n32:aI K CU)
 (mk32:W.makesIn K bA = true) (mq32:aK K bA)
 (l32:aL K CU "__init__" "World.__init__" Fz o32 r32 v32 d32 p32 s32 q32 t32 u32)
 (c32:aC K q32 "World.__init__") (k32:aK K CU)
 (a33:aG K bA "letters" CV) (n33:aI K CV)
 (l33:av K "letters" "World.letters" Be CV D33)
 (a34:aG K bA "papers" CW) (n34:aI K CW)
 (l34:av K "papers" "World.papers" Bf CW D34)
 (a35:aG K bA "keeper_of" CY) (n35:aI K CY)
 (l35:av K "keeper_of" "World.keeper_of" wq CY D35)
 (a36:aG K bA "sums" CZ) (n36:aI K CZ)
 (l36:av K "sums" "World.sums" Bg CZ D36)
 (a37:aG K bA "settled" C0) (n37:aI K C0)
 (l37:av K "settled" "World.settled" Bh C0 D37)
 (a38:aG K bA "check_purse" C1) (n38:aI K C1)
 (l38:av K "check_purse" "World.check_purse" yu C1 D38)
 (a39:aG K bA "check_asker" C2) (n39:aI K C2)
 (l39:av K "check_asker" "World.check_asker" yq C2 D39)
 (a40:aG K bA "check_order" C3) (n40:aI K C3)
 (l40:av K "check_order" "World.check_order" yy C3 D40)
 (a41:aG K bA "check_liar" C4) (n41:aI K C4)
 (l41:av K "check_liar" "World.check_liar" y9 C4 D41)
 (a42:aG K bA "write_to_all" C5) (n42:aI K C5)
 (l42:av K "write_to_all" "World.write_to_all" zy C5 D42)
 (a43:aG K bA "put_votes" C6) (n43:aI K C6)
 (l43:av K "put_votes" "World.put_votes" ym C6 D43)
 (a44:aG K bA "ask" C7) (n44:aI K C7)
 (l44:av K "ask" "World.ask" wM C7 D44)
 (a45:aG K bA "cheat" C8) (n45:aI K C8)
 (l45:av K "cheat" "World.cheat" Bi C8 D45)
 (a46:aG K bA "lie" C9) (n46:aI K C9)
 (l46:av K "lie" "World.lie" Bj C9 D46)
 (a47:aG K bA "show" Dc) (n47:aI K Dc)
 (l47:av K "show" "World.show" Bk Dc D47)
 (a48:aG K bA "come" Dd) (n48:aI K Dd)
 (l48:av K "come" "World.come" wN Dd D48)
 (a49:aR K "check_world" Kj)
 (l49:av K "check_world" "check_world" Bl Kj D49)
 (a50:aR K "cut_of" Kk)
 (l50:av K "cut_of" "cut_of" Bm Kk D50)
 (a51:aR K "is_number_row" Kl)
 (l51:av K "is_number_row" "is_number_row" Bn Kl D51)
 (a52:aR K "is_cut" Km)
 (l52:aM K Km "is_cut" Bo o52 r52 v52 d52 p52 s52 q52 t52 u52)
 (c52:aC K q52 "is_cut") (k52:aK K Km)
 (a53:aG K gP "check_cut" De) (n53:aI K De)
 (l53:av K "check_cut" "Cutting.check_cut" yp De D53)
 (a54:aG K gP "__init__" Df) (n54:aI K Df)
 (mk54:W.makesIn K gP = true) (mq54:aK K gP)
 (l54:av K "__init__" "Cutting.__init__" vm Df D54)
 (a55:aG K gP "sign" Dg) (n55:aI K Dg)
 (l55:av K "sign" "Cutting.sign" kl Dg D55)
 (a56:aG K gP "lie" Dh) (n56:aI K Dh)
 (l56:av K "lie" "Cutting.lie" Bp Dh D56)
 (a57:aG K gP "signers_of" Di) (n57:aI K Di)
 (l57:av K "signers_of" "Cutting.signers_of" yf Di D57)
 (a58:aG K gP "good" Dj) (n58:aI K Dj)
 (l58:av K "good" "Cutting.good" Br Dj D58)
 (a59:aR K "_law_town" Kn)
 (l59:av K "_law_town" "_law_town" Bs Kn D59)
 (a60:aR K "_law_draw" Ko)
 (l60:av K "_law_draw" "_law_draw" wO Ko D60)
 (a61:aR K "_law_pick" Kq)
 (l61:av K "_law_pick" "_law_pick" Bt Kq D61)
 (a62:aR K "_law_refusal" Kr)
 (l62:av K "_law_refusal" "_law_refusal" g6 Kr D62)
 (a63:aR K "_law_some" Ks)
 (l63:av K "_law_some" "_law_some" wQ Ks D63)
 (a64:aR K "_law_world" Kt)
 (l64:av K "_law_world" "_law_world" wR Kt D64)
 (a65:aR K "_law_told" Ku)
 (l65:av K "_law_told" "_law_told" wU Ku D65)
 (a66:aR K "_law_letter" Kv)
 (l66:av K "_law_letter" "_law_letter" wV Kv D66)
 (a67:aR K "_law_order" Kw)
 (l67:av K "_law_order" "_law_order" wX Kw D67)
 (a68:aR K "_law_go" Kx)
 (l68:av K "_law_go" "_law_go" wY Kx D68)
 (a69:aR K "law" Ky)
 (l69:aM K Ky "law" wZ o69 r69 v69 d69 p69 s69 q69 t69 u69)
 (c69:aC K q69 "law") (k69:aK K Ky)
 (ih0:aG K cH "is_due" yY)
 (ih1:aG K cH "is_past" oQ)
 (ih2:aG K cH "settle" yZ)
 (yp0:W.specialIn K (.ref fN) "__getattribute__" = some (some (.builtin "type.__getattribute__"))) (yr0:W.readsIn K fN (.type "type") = true) (yf0:W.findCls K (.ref fN) (.type "type") "__init__" = some (.val (.ref oP)))
 (hgc0:aN K "MOST_MUCH" (some (.int 1000 gt0)))
 (hgc1:aN K "LAST_NUMBER" (some (.int 99 gt1)))
 (hgc2:aN K "PAPER_LETTER" (some (.str "paper" gt2)))
 (hgc3:aN K "ORDER_LETTER" (some (.str "order" gt3)))
 (hgc4:aN K "MOST_HOUSES" (some (.int 16 gt4)))
 (hgc5:aN K "MOST_FEW" (some (.int 5 gt5)))
 (hgc6:aN K "MOST_FIRST_SUM" (some (.int 1000 gt6)))
 (hgc7:aN K "LEAST_PURSES" (some (.int 2 gt7)))
 (hgc8:aN K "MOST_PURSES" (some (.int 8 gt8)))
 (hgc9:aN K "MOST_IN_CUT" (some (.int 100000 gt9)))
 (xg0:aF K eT "__getattribute__" (some (.builtin "BaseException.__getattribute__"))) (xh0:aF K eT "__getattr__" none) (xj0:aF K eT "__class__" (some (.builtin "object.__class__")))
 (xp0:W.mroIn K eT (.type "BaseException") = some true) (xo0:W.mroIn K eT (.type "object") = some true) (xs0:(W.clsIn K eT).isSome = true)
 (xk0:kinds K (.ref eT) [.ref CG,.ref mY,.ref mZ,.ref CD,.ref eT,.ref CF,.ref iL,.ref iK,.ref CC,.ref Cz,.ref CA,.ref oR,.type "ValueError"] = [some false,some false,some false,some false,some true,some false,some false,some false,some false,some false,some false,some true,some true])
 (xc0_0:W.kitCls K (.ref eT) (.ref oR) = some true)
 (xr1:W.excIn K iK uX "ValueError.__new__" = true)
 (xg1:aF K iK "__getattribute__" (some (.builtin "BaseException.__getattribute__"))) (xh1:aF K iK "__getattr__" none) (xj1:aF K iK "__class__" (some (.builtin "object.__class__")))
 (xp1:W.mroIn K iK (.type "BaseException") = some true) (xo1:W.mroIn K iK (.type "object") = some true) (xs1:(W.clsIn K iK).isSome = true)
 (xk1:kinds K (.ref iK) [.ref CG,.ref mY,.ref mZ,.ref CD,.ref eT,.ref CF,.ref iL,.ref iK,.ref CC,.ref Cz,.ref CA,.ref oR,.type "ValueError"] = [some false,some false,some false,some false,some false,some false,some false,some true,some false,some false,some false,some true,some true])
 (xc1_0:W.kitCls K (.ref iK) (.ref oR) = some true)
 (xr2:W.excIn K iL uX "ValueError.__new__" = true)
 (xg2:aF K iL "__getattribute__" (some (.builtin "BaseException.__getattribute__"))) (xh2:aF K iL "__getattr__" none) (xj2:aF K iL "__class__" (some (.builtin "object.__class__")))
 (xp2:W.mroIn K iL (.type "BaseException") = some true) (xo2:W.mroIn K iL (.type "object") = some true) (xs2:(W.clsIn K iL).isSome = true)
 (xk2:kinds K (.ref iL) [.ref CG,.ref mY,.ref mZ,.ref CD,.ref eT,.ref CF,.ref iL,.ref iK,.ref CC,.ref Cz,.ref CA,.ref oR,.type "ValueError"] = [some false,some false,some false,some false,some false,some false,some true,some false,some false,some false,some false,some true,some true])
 (xc2_0:W.kitCls K (.ref iL) (.ref oR) = some true)
 (xb0:W.mroIn K oR (.type "BaseException") = some true)
 (z0:aN K "isinstance" none)
 (z1:aN K "bool" none)
 (z2:aN K "int" none)
 (z3:aN K "len" none)
 (z4:aN K "tuple" none)
 (z5:aN K "sorted" none)
 (z6:aN K "list" none)
 (z7:aN K "sum" none)
 (z8:aN K "max" none)
 (z9:aN K "all" none)
 (z10:aN K "range" none)
 (z11:aN K "ValueError" none)
 (z12:aN K "set" none) :
 ∃ fd:FuncData,(∀ (s:Shared) (v:Value),BindsTo s fd ⟨[v],[]⟩ [("_law_script",v)]) /\ ∀ base:Heap,K.In base -> base.Ns mainGlobals mg -> zu l.prog w K mg base CX0 12 fa fd ["_law_script"] (j2n K):=by
 have T:Txt K mg ⟨f0,_,f1,_,f2,_,f3,_,f4,_,f5,_,f6,_,f7,_,f8,_,f9,_,tN,_,Kh,_,eE,_,Ki,_,rh,_,lI,_,CH,_,mP,_,CI,_,CJ,_,oP,_,oQ,_,yY,_,yZ,_,CK,_,CL,_,CM,_,CN,_,CO,_,CP,_,CQ,_,CT,_,CU,_,CV,_,CW,_,CY,_,CZ,_,C0,_,C1,_,C2,_,C3,_,C4,_,C5,_,C6,_,C7,_,C8,_,C9,_,Dc,_,Dd,_,Kj,_,Kk,_,Kl,_,Km,_,De,_,Df,_,Dg,_,Dh,_,Di,_,Dj,_,Kn,_,Ko,_,Kq,_,Kr,_,Ks,_,Kt,_,Ku,_,Kv,_,Kw,_,Kx,_,Ky,_,ik,cH,bA,fN,gP,eT,iK,iL,oR,Cz,CA,CC,CD,CF,CG,mY,mZ⟩:=⟨l0,
W.mg_of X G a0,
eB l0,
ji (st:=A4) l1 c1 k1,
W.mg_of X G a1,
iE (ji (st:=A4) l1 c1 k1),
ji (st:=A5) l2 c2 k2,
W.mg_of X G a2,
AR λ_ _ _=>.of_eq rfl,
⟨_,VE e2 rfl rfl rfl rfl rfl rfl rfl (by decide +kernel)⟩,
ji (st:=A6) l3 c3 k3,
W.mg_of X G a3,
eB (ji (st:=A6) l3 c3 k3),
ji (st:=wI) l4 c4 k4,
W.mg_of X G a4,
bX (ji (st:=wI) l4 c4 k4),
ji (st:=A7) l5 c5 k5,
W.mg_of X G a5,
bX (ji (st:=A7) l5 c5 k5),
ji (st:=ky) l6 c6 k6,
W.mg_of X G a6,
eB (ji (st:=ky) l6 c6 k6),
ji (st:=A8) l7 c7 k7,
W.mg_of X G a7,
eB (ji (st:=A8) l7 c7 k7),
ji (st:=Fv) l8 c8 k8,
W.mg_of X G a8,
AR λ_ _ _=>.of_eq rfl,
ji (st:=Fw) l9 c9 k9,
W.mg_of X G a9,
AR λ_ _ _=>.of_eq rfl,
l10,
W.mg_of X G a10,
eB l10,
l11,
W.mg_of X G a11,
eB l11,
l12,
⟨xrn12,a12,xd12a,xd12b,xd12c,xd12d⟩,
bX l12,
ji (st:=Fx) l13 c13 k13,
W.mg_of X G a13,
Nv λ_ _ _ _=>.of_eq rfl,
ji (st:=Fy) l14 c14 k14,
W.mg_of X G a14,
AR λ_ _ _=>.of_eq rfl,
l15,
⟨a15,n15,l15.kp⟩,
⟨mk15,a15,n15,mq15⟩,
bX l15,
l16,
⟨a16,n16,l16.kp⟩,
bX l16,
l17,
⟨a17,n17,l17.kp⟩,
iE l17,
l18,
⟨a18,n18,l18.kp⟩,
bX l18,
l19,
⟨a19,n19,l19.kp⟩,
eB l19,
l20,
⟨a20,n20,l20.kp⟩,
⟨mk20,a20,n20,mq20⟩,
bX l20,
l21,
⟨a21,n21,l21.kp⟩,
bX l21,
l22,
⟨a22,n22,l22.kp⟩,
bX l22,
l23,
⟨a23,n23,l23.kp⟩,
bX l23,
l24,
⟨a24,n24,l24.kp⟩,
⟨mk24,a24,n24,mq24⟩,
bX l24,
l25,
⟨a25,n25,l25.kp⟩,
eB l25,
l26,
⟨a26,n26,l26.kp⟩,
iE l26,
l27,
⟨a27,n27,l27.kp⟩,
eB l27,
l28,
⟨a28,n28,l28.kp⟩,
eB l28,
l29,
⟨a29,n29,l29.kp⟩,
eB l29,
l30,
⟨a30,n30,l30.kp⟩,
bX l30,
l31,
⟨a31,n31,l31.kp⟩,
bX l31,
ji (st:=Fz) l32 c32 k32,
⟨a32,n32,k32⟩,
⟨mk32,a32,n32,mq32⟩,
⟨λs us ws _ hl=>match us,ws,hl with | [_,_],[_,_,_,_],_=>.of_eq rfl,λ{vs us zs ws} r1 r2=>XT r1 r2⟩,
l33,
⟨a33,n33,l33.kp⟩,
eB l33,
l34,
⟨a34,n34,l34.kp⟩,
eB l34,
l35,
⟨a35,n35,l35.kp⟩,
bX l35,
l36,
⟨a36,n36,l36.kp⟩,
bX l36,
l37,
⟨a37,n37,l37.kp⟩,
bX l37,
l38,
⟨a38,n38,l38.kp⟩,
bX l38,
l39,
⟨a39,n39,l39.kp⟩,
iE l39,
l40,
⟨a40,n40,l40.kp⟩,
bX l40,
l41,
⟨a41,n41,l41.kp⟩,
bX l41,
l42,
⟨a42,n42,l42.kp⟩,
iE l42,
l43,
⟨a43,n43,l43.kp⟩,
iE l43,
l44,
⟨a44,n44,l44.kp⟩,
X4 l44,
l45,
⟨a45,n45,l45.kp⟩,
iE l45,
l46,
⟨a46,n46,l46.kp⟩,
iE l46,
l47,
⟨a47,n47,l47.kp⟩,
iE l47,
l48,
⟨a48,n48,l48.kp⟩,
bX l48,
l49,
W.mg_of X G a49,
eB l49,
l50,
W.mg_of X G a50,
bX l50,
l51,
W.mg_of X G a51,
bX l51,
ji (st:=Bo) l52 c52 k52,
W.mg_of X G a52,
Nv λ_ _ _ _=>.of_eq rfl,
l53,
⟨a53,n53,l53.kp⟩,
bX l53,
l54,
⟨a54,n54,l54.kp⟩,
⟨mk54,a54,n54,mq54⟩,
bX l54,
l55,
⟨a55,n55,l55.kp⟩,
bX l55,
l56,
⟨a56,n56,l56.kp⟩,
iE l56,
l57,
⟨a57,n57,l57.kp⟩,
bX l57,
l58,
⟨a58,n58,l58.kp⟩,
eB l58,
l59,
W.mg_of X G a59,
eB l59,
l60,
W.mg_of X G a60,
bX l60,
l61,
W.mg_of X G a61,
bX l61,
l62,
W.mg_of X G a62,
eB l62,
l63,
W.mg_of X G a63,
iE l63,
l64,
W.mg_of X G a64,
eB l64,
l65,
W.mg_of X G a65,
X5 l65,
l66,
W.mg_of X G a66,
bX l66,
l67,
W.mg_of X G a67,
iE l67,
l68,
W.mg_of X G a68,
iE l68,
ji (st:=wZ) l69 c69 k69,
W.mg_of X G a69,
eB (ji (st:=wZ) l69 c69 k69),
⟨_,W.mg_of X G hgc0⟩,
⟨_,W.mg_of X G hgc1⟩,
⟨_,W.mg_of X G hgc2⟩,
⟨_,W.mg_of X G hgc3⟩,
⟨_,W.mg_of X G hgc4⟩,
⟨_,W.mg_of X G hgc5⟩,
⟨_,W.mg_of X G hgc6⟩,
⟨_,W.mg_of X G hgc7⟩,
⟨_,W.mg_of X G hgc8⟩,
⟨_,W.mg_of X G hgc9⟩,
W.mg_of X G cm0,
⟨cg0,ch0,co0,cs0⟩,
cn0_0,
cn0_1,
W.mg_of X G cm1,
⟨cg1,ch1,co1,cs1⟩,
cn1_0,
cn1_1,
cn1_2,
cn1_3,
cn1_4,
cn1_5,
cn1_6,
W.mg_of X G cm2,
⟨cg2,ch2,co2,cs2⟩,
⟨ia2,in2,it2,im2,ik2⟩,
cn2_0,
cn2_1,
cn2_2,
cn2_3,
cn2_4,
cn2_5,
cn2_6,
cn2_7,
W.mg_of X G cm3,
⟨cg3,ch3,co3,cs3⟩,
cn3_0,
cn3_1,
cn3_2,
W.mg_of X G cm4,
⟨cg4,ch4,co4,cs4⟩,
cn4_0,
cn4_1,
⟨ih0,n22,l22.kp⟩,
⟨ih1,n21,l21.kp⟩,
⟨ih2,n23,l23.kp⟩,
⟨yp0,yr0,yf0,l20.kp⟩,
W.mg_of X G xm0,
W.mg_of X G xm1,
W.mg_of X G xm2,
W.mg_of X G xm3,
W.mg_of X G xm4,
W.mg_of X G xm5,
W.mg_of X G xm6,
W.mg_of X G xm7,
W.mg_of X G xm8,
W.mg_of X G xm9,
W.mg_of X G xm10,
W.mg_of X G xm11,
⟨xg0,xh0,xj0,xp0,xo0,xs0⟩,
xk0,
xc0_0,
xr1,
⟨xg1,xh1,xj1,xp1,xo1,xs1⟩,
xk1,
xc1_0,
xr2,
⟨xg2,xh2,xj2,xp2,xo2,xs2⟩,
xk2,
xc2_0,
xb0,
W.mg_none_of X G z0,
W.mg_none_of X G z1,
W.mg_none_of X G z2,
W.mg_none_of X G z3,
W.mg_none_of X G z4,
W.mg_none_of X G z5,
W.mg_none_of X G z6,
W.mg_none_of X G z7,
W.mg_none_of X G z8,
W.mg_none_of X G z9,
W.mg_none_of X G z10,
W.mg_none_of X G z11,
W.mg_none_of X G z12⟩
 have e:=hfa.symm.trans T.j9a
 cases e
 exact ⟨_,λs v=>.of_eq rfl,λbase _ _=>j87 T⟩
end M
end
namespace PySem.W.Fast
theorem t:True:=⟨⟩
noncomputable def tw16644617383332503931:=t
noncomputable def tw9629917449904715406:=t
noncomputable def tw8914417896757438240:=t
noncomputable def tw8860968357395664081:=t
noncomputable def tw15905746684099159767:=t
noncomputable def tw4930945994282626188:=t
noncomputable def tw4521301384080866829:=t
noncomputable def tw1949489067805173295:=t
noncomputable def tw4852332403332142693:=t
noncomputable def tw2506139409726982148:=t
noncomputable def tw5404764390971392623:=t
noncomputable def tw5100435450565815169:=t
noncomputable def tw338349362259108093:=t
noncomputable def tw7971716350528532147:=t
noncomputable def tw5473939447034822689:=t
noncomputable def tw16924317988980258351:=t
noncomputable def tw8778064890218629497:=t
noncomputable def tw9632360518518768935:=t
noncomputable def tw9586720824686825003:=t
noncomputable def tw11758311048878211946:=t
noncomputable def tw16740317296593808700:=t
noncomputable def tw623999867610511137:=t
noncomputable def tw16139381532329875331:=t
noncomputable def tw12958855353614306598:=t
noncomputable def tw5783664334564497885:=t
noncomputable def tw17249130882832483147:=t
noncomputable def tw2834251725324638450:=t
noncomputable def tw5247272349153435016:=t
noncomputable def tw10639944859324819280:=t
noncomputable def tw16916503473818028791:=t
noncomputable def tw13925845522839144920:=t
noncomputable def tw15283439431099074796:=t
noncomputable def tw878182275360966908:=t
noncomputable def tw14798507552627405233:=t
noncomputable def tw6418698834220739062:=t
noncomputable def tw10914798390506663186:=t
noncomputable def tw2814732973298032891:=t
noncomputable def tw7391662355476937603:=t
noncomputable def tw5897308665549415858:=t
noncomputable def tw15121718929498455185:=t
noncomputable def tw14521540147614825663:=t
noncomputable def tw5739177390971438216:=t
noncomputable def tw18325980511824208479:=t
noncomputable def tw14491012312504298862:=t
noncomputable def tw15411721278209684659:=t
noncomputable def tw10404566487843104081:=t
noncomputable def tw18034126656913390441:=t
noncomputable def tw7089969878317346644:=t
noncomputable def tw6293756385650935817:=t
noncomputable def tw15507761114281608142:=t
noncomputable def tw15123000240128640644:=t
noncomputable def tw16515202089542208601:=t
noncomputable def tw16708342149291078431:=t
noncomputable def tw15479801444335451098:=t
noncomputable def tw4956723745291247273:=t
noncomputable def tw279559672456231177:=t
noncomputable def tw1401425961160414266:=t
noncomputable def tw12982660984510502551:=t
noncomputable def tw1013232341575526386:=t
noncomputable def tw7151515220338271740:=t
noncomputable def tw14947256465725324765:=t
noncomputable def tw16426966376544040111:=t
noncomputable def tw6129942391865658334:=t
noncomputable def tw14737456067940712066:=t
noncomputable def tw9022747939795712940:=t
noncomputable def tw13759897999786529929:=t
noncomputable def tw16967355132079971152:=t
noncomputable def tw13209259957764377515:=t
noncomputable def tw10125249229154658034:=t
noncomputable def tw4163749256070719682:=t
noncomputable def tw13507943692208834075:=t
noncomputable def tw3883548887094209716:=t
noncomputable def tw17141416867337088715:=t
noncomputable def tw7004685654411684833:=t
noncomputable def tw6059880842625121203:=t
noncomputable def tw14107966487721911905:=t
noncomputable def tw8380247135378657836:=t
noncomputable def tw16685613166675545101:=t
noncomputable def tw13649511494332632111:=t
noncomputable def tw14255060549587434347:=t
noncomputable def tw12168713686253508132:=t
noncomputable def tw3695516089920837299:=t
noncomputable def tw6134468560329769653:=t
noncomputable def tw14991789710104120839:=t
noncomputable def tw8280405159854478660:=t
noncomputable def tw8038718265503533972:=t
noncomputable def tw6498905777487805814:=t
noncomputable def tw14002014298053984773:=t
noncomputable def tw10531547339685558316:=t
noncomputable def tw10104344386472930020:=t
noncomputable def tw2148482938218556177:=t
noncomputable def tw14022852148607831831:=t
noncomputable def tw10141585735775144479:=t
noncomputable def tw2477310484885143020:=t
noncomputable def tw3424222488695090620:=t
noncomputable def tw11805678069091667894:=t
noncomputable def tw3203453969159969872:=t
noncomputable def tw1437676922426562226:=t
noncomputable def tw12394874971724885122:=t
noncomputable def tw9701705291366853363:=t
noncomputable def tw7536807860625677508:=t
noncomputable def tw8659739511833444517:=t
noncomputable def tw11378450076224153903:=t
noncomputable def tw6949135061494517389:=t
noncomputable def tw9628147870864374567:=t
noncomputable def tw4914781970097059983:=t
noncomputable def tw13695916586791336317:=t
noncomputable def tw8294040198418432511:=t
noncomputable def tw12046647843623377797:=t
noncomputable def tw12595308215818172123:=t
noncomputable def tw4500489025554235026:=t
noncomputable def tw1106381170679542885:=t
noncomputable def tw13465216941989808040:=t
noncomputable def tw10985208507915562996:=t
noncomputable def tw2192722749033696477:=t
noncomputable def tw233553450854438544:=t
noncomputable def tw9321372766052047607:=t
noncomputable def tw17576294129390258714:=t
noncomputable def tw9347597236435145216:=t
noncomputable def tw3307396761635661555:=t
noncomputable def tw4227128797603548201:=t
noncomputable def tw18324256514175067776:=t
noncomputable def tw431361263718096603:=t
noncomputable def tw18134073481088413811:=t
noncomputable def tw2309460756129334500:=t
noncomputable def tw8146306601800629458:=t
noncomputable def tw15985267764665366596:=t
noncomputable def tw12468088304206157154:=t
noncomputable def tw11293559398041581829:=t
noncomputable def tw18229107583222087476:=t
noncomputable def tw11883406496308098271:=t
noncomputable def tw13232393274660369442:=t
noncomputable def tw11072674750649828151:=t
noncomputable def tw3139577806460031973:=t
noncomputable def tw3195532434438086674:=t
noncomputable def tw11333190141828283784:=t
noncomputable def tw10118829879598620327:=t
noncomputable def tw11517834664808749940:=t
noncomputable def tw17566622233498908651:=t
noncomputable def tw4762309304665522734:=t
noncomputable def tw15741863671360860232:=t
noncomputable def tw14126252852454990873:=t
noncomputable def tw11559724356189710052:=t
noncomputable def tw7643767208580905653:=t
noncomputable def tw6293571619581027774:=t
noncomputable def tw1254197808565581790:=t
noncomputable def tw7714635828595154072:=t
noncomputable def tw12923771776527321445:=t
noncomputable def tw4540256849990692747:=t
noncomputable def tw17360261078523535715:=t
noncomputable def tw14081147717385252088:=t
noncomputable def tw9533228342714450249:=t
noncomputable def tw8308403227702857088:=t
noncomputable def tw5180613954605419536:=t
noncomputable def tw18366999542761219865:=t
noncomputable def tw315340753586564737:=t
noncomputable def tw15180514643325142795:=t
noncomputable def tw11192159906453361800:=t
noncomputable def tw5829927425141498044:=t
noncomputable def tw13788306025491422734:=t
noncomputable def tw5358825021152035488:=t
noncomputable def tw5711372621051961945:=t
noncomputable def tw8366683037800988923:=t
noncomputable def tw948129358500088468:=t
noncomputable def tw764107374753465218:=t
noncomputable def tw8884723961288474348:=t
noncomputable def tw9539289102864639955:=t
noncomputable def tw797257742317756978:=t
noncomputable def tw5195735079778954803:=t
noncomputable def tw10826824568296499659:=t
noncomputable def tw17123019563305479010:=t
noncomputable def tw16681054265589166385:=t
noncomputable def tw15454586939195205064:=t
noncomputable def tw18220156329696065566:=t
noncomputable def tw8694269022815540881:=t
noncomputable def tw11506751887259125534:=t
noncomputable def tw2624977273152611450:=t
noncomputable def tw13707147532987698947:=t
noncomputable def tw2933066887265930837:=t
noncomputable def tw7862289778670071081:=t
noncomputable def tw16565542879405027252:=t
noncomputable def tw15836325704112516:=t
noncomputable def tw9952838564589790434:=t
noncomputable def tw17315552967700499549:=t
noncomputable def tw12913812699177917710:=t
noncomputable def tw5327681130891850201:=t
noncomputable def tw2071451148864738229:=t
noncomputable def tw10520000106437934937:=t
noncomputable def tw5745768903982545727:=t
noncomputable def tw16926679601193002413:=t
noncomputable def tw16859825469191453362:=t
noncomputable def tw1758843376743717425:=t
noncomputable def tw658727429713486003:=t
noncomputable def tw1735750590913014999:=t
noncomputable def tw325668165569429461:=t
noncomputable def tw1766079742086404600:=t
noncomputable def tw17398229782758178806:=t
noncomputable def tw1754695846875194264:=t
noncomputable def tw310612971230831052:=t
noncomputable def tw10264902974087679177:=t
noncomputable def tw7067019723363965904:=t
noncomputable def tw9537207326329554422:=t
noncomputable def tw1129125667008199093:=t
noncomputable def tw2267375118295567171:=t
noncomputable def tw776662808540599700:=t
noncomputable def tw9195241315279500513:=t
noncomputable def tw14837772279462575355:=t
noncomputable def tw15048555017963924681:=t
noncomputable def tw3881099309935494833:=t
noncomputable def tw11395600306412327235:=t
noncomputable def tw13365332694250367843:=t
noncomputable def tw15664571380277095735:=t
noncomputable def tw2971187788628892051:=t
noncomputable def tw13897211803436235086:=t
noncomputable def tw11896270594946984577:=t
noncomputable def tw6378387647761784416:=t
noncomputable def tw16410515680703712558:=t
noncomputable def tw8381601184015834203:=t
noncomputable def tw7043800633068413257:=t
noncomputable def tw10963212125426401760:=t
noncomputable def tw14885572366434066107:=t
noncomputable def tw962577406497764919:=t
noncomputable def tw938755335217796030:=t
noncomputable def tw11735910632044774614:=t
noncomputable def tw10826728904770195472:=t
noncomputable def tw524078952896753964:=t
noncomputable def tw8600955808345742381:=t
noncomputable def tw172230100770756709:=t
noncomputable def tw6664514097393772442:=t
noncomputable def tw14829776172245708314:=t
noncomputable def tw3852597859590639510:=t
noncomputable def tw16464139807310256451:=t
noncomputable def tw16416790920989143701:=t
noncomputable def tw13646063845273197296:=t
noncomputable def tw7614137426487523730:=t
noncomputable def tw12997526534018070258:=t
noncomputable def tw12596689418604286071:=t
noncomputable def tw10591908671617536016:=t
noncomputable def tw9353324251203378554:=t
noncomputable def tw14368720453018617377:=t
noncomputable def tw3165960024038360864:=t
noncomputable def tw14364142909950670011:=t
noncomputable def tw1477039757014965656:=t
noncomputable def tw1449521544050283297:=t
noncomputable def tw1807760146083627072:=t
noncomputable def tw4537672128225845483:=t
noncomputable def tw211300033847351090:=t
noncomputable def tw12197164322796176247:=t
noncomputable def tw12608736815001726793:=t
noncomputable def tw11360674588035072580:=t
noncomputable def tw15729731553287232555:=t
noncomputable def tw15019317240077330585:=t
noncomputable def tw17742979243841320084:=t
noncomputable def tw14180424532743373153:=t
noncomputable def tw8116436486722165721:=t
noncomputable def tw2948177423054500646:=t
noncomputable def tw7118397443532619504:=t
noncomputable def tw4350935605718116822:=t
noncomputable def tw3035987975124626861:=t
noncomputable def tw5814345082397741926:=t
noncomputable def tw7772823487037355016:=t
noncomputable def tw4852772611204231414:=t
noncomputable def tw683011146820074826:=t
noncomputable def tw15833892234426943071:=t
noncomputable def tw4762592118446136101:=t
noncomputable def tw10408712939797664537:=t
noncomputable def tw4303474757180253735:=t
noncomputable def tw17636661058087691740:=t
noncomputable def tw9100920135764515228:=t
noncomputable def tw14274955448050556469:=t
noncomputable def tw7421449363347216407:=t
noncomputable def tw14776976475381062952:=t
noncomputable def tw2766739024141072659:=t
noncomputable def tw14571447194808309888:=t
noncomputable def tw14447807931540180636:=t
noncomputable def tw10735861055097516111:=t
noncomputable def tw2886161365855825332:=t
noncomputable def tw4134191253674796950:=t
noncomputable def tw16823135592299437940:=t
noncomputable def tw2354148300577153415:=t
noncomputable def tw7288308467059193756:=t
noncomputable def tw4450452558407749480:=t
noncomputable def tw525976728071299552:=t
noncomputable def tw16911708234985846715:=t
noncomputable def tw15986306467987403688:=t
noncomputable def tw16904051274441285361:=t
noncomputable def tw3284697159742502048:=t
noncomputable def tw6536393923560990001:=t
noncomputable def tw18035580394003882477:=t
noncomputable def tw17373850445147369719:=t
noncomputable def tw13582942558901291538:=t
noncomputable def tw17991902716953686658:=t
noncomputable def tw17826224591854835115:=t
noncomputable def tw8202328511000211733:=t
noncomputable def tw14284161613441981859:=t
noncomputable def tw15681121623966223311:=t
noncomputable def tw15285939951219244620:=t
noncomputable def tw6540540502538858887:=t
noncomputable def tw12125784625587941888:=t
noncomputable def tw7855056366557062939:=t
noncomputable def tw10136184222078873654:=t
noncomputable def tw6105498936023003614:=t
noncomputable def tw4588697322725417801:=t
noncomputable def tw6744916210351351512:=t
noncomputable def tw3413741193945923682:=t
noncomputable def tw8927688653896370660:=t
noncomputable def tw14956656332970693439:=t
noncomputable def tw3066678816283250500:=t
noncomputable def tw8151796891603301643:=t
noncomputable def tw17082608244301448411:=t
noncomputable def tw511879014786741519:=t
noncomputable def tw13425432162913187966:=t
noncomputable def tw2777537997697834700:=t
noncomputable def tw15169914282006408235:=t
noncomputable def tw7800744364358081134:=t
noncomputable def tw13653125119981708834:=t
noncomputable def tw3793469597632113999:=t
noncomputable def tw10284027404632246529:=t
noncomputable def tw12159571874444387576:=t
noncomputable def tw7187006935364603018:=t
noncomputable def tw15912560068105478544:=t
noncomputable def tw4017008149428096641:=t
noncomputable def tw5292259938136387357:=t
noncomputable def tw15596718067448175343:=t
noncomputable def tw6893826786191204201:=t
noncomputable def tw1790672076355632095:=t
noncomputable def tw11946975659356520457:=t
noncomputable def tw9208437227714532289:=t
noncomputable def tw16522716104800160848:=t
noncomputable def tw3164953543725319581:=t
noncomputable def tw15314240536029563031:=t
noncomputable def tw10422373255854042274:=t
noncomputable def tw17693864998924454381:=t
noncomputable def tw13493175034427731970:=t
noncomputable def tw14582860305591365876:=t
noncomputable def tw6395697943086424819:=t
noncomputable def tw10956576418000507262:=t
noncomputable def tw17538376802007173485:=t
noncomputable def tw1102601783407365190:=t
noncomputable def tw1525809907697714375:=t
noncomputable def tw17308509563673121765:=t
noncomputable def tw7739315812597992644:=t
noncomputable def tw4588454751401678465:=t
noncomputable def tw269655422708152925:=t
noncomputable def tw14794073579721526551:=t
noncomputable def tw11132253552805436119:=t
noncomputable def tw12410791028956916445:=t
noncomputable def tw9310248065789865922:=t
noncomputable def tw14281750983009840176:=t
noncomputable def tw13932825223486466555:=t
noncomputable def tw3599832061648732981:=t
noncomputable def tw3372796628537754694:=t
noncomputable def tw18274698434287081876:=t
noncomputable def tw10596584716387548400:=t
noncomputable def tw5317245111412621055:=t
noncomputable def tw13653220320218487631:=t
noncomputable def tw15890606224312507235:=t
noncomputable def tw13051172983601121802:=t
noncomputable def tw1185120713840179610:=t
noncomputable def tw578731390732479851:=t
noncomputable def tw14861246200220232863:=t
noncomputable def tw208544931977908181:=t
noncomputable def tw16552946392720625113:=t
noncomputable def tw11993565772204672786:=t
noncomputable def tw16948796424413076118:=t
noncomputable def tw14437153222214247241:=t
noncomputable def tw15888611845615091919:=t
noncomputable def tw15398942420803349995:=t
noncomputable def tw5596106907946910544:=t
noncomputable def tw9458901825836386252:=t
noncomputable def tw3842754517007447198:=t
noncomputable def tw6209604945109352473:=t
noncomputable def tw14651004884768439044:=t
noncomputable def tw7493219913206902336:=t
noncomputable def tw6332877796394258997:=t
noncomputable def tw3520104232136862554:=t
noncomputable def tw12788983413022791555:=t
noncomputable def tw3265184620271474650:=t
noncomputable def tw458580215250721837:=t
noncomputable def tw3354676762151796405:=t
noncomputable def tw9401738863879327362:=t
noncomputable def tw3919070162386989714:=t
noncomputable def tw1687744058158150402:=t
noncomputable def tw1008141886761358623:=t
noncomputable def tw13199280099683308764:=t
noncomputable def tw14452400313229243796:=t
noncomputable def tw10530641530639624119:=t
noncomputable def tw2255959213011375144:=t
noncomputable def tw5661084956046392471:=t
noncomputable def tw15194880867201614232:=t
noncomputable def tw4281741936494022247:=t
noncomputable def tw6037845774001762883:=t
noncomputable def tw8744656699631665910:=t
noncomputable def tw7165157580857104904:=t
noncomputable def tw1099719581818180739:=t
noncomputable def tw15879219427998069278:=t
noncomputable def tw9878751675717175227:=t
noncomputable def tw18443104918708467970:=t
noncomputable def tw2151770773884156327:=t
noncomputable def tw9640212745786704876:=t
noncomputable def tw11021338275314256885:=t
noncomputable def tw13983611021550599233:=t
noncomputable def tw3913034697185235483:=t
noncomputable def tw7297324192642826035:=t
noncomputable def tw1040177991249244428:=t
noncomputable def tw14583628196642704246:=t
noncomputable def tw6207887770014706174:=t
noncomputable def tw18104675569344421054:=t
noncomputable def tw17810529843728770979:=t
noncomputable def tw14560579055662041309:=t
noncomputable def tw8606669977609038533:=t
noncomputable def tw5357103617256613060:=t
noncomputable def tw17623329664935112179:=t
noncomputable def tw5609892121461069058:=t
noncomputable def tw8120309217659451255:=t
noncomputable def tw6385676392467962175:=t
noncomputable def tw6521058926561920588:=t
noncomputable def tw2332113911607459788:=t
noncomputable def tw8172045005459943963:=t
noncomputable def tw7338435238254694050:=t
noncomputable def tw4771289647598087048:=t
noncomputable def tw10627909746562904796:=t
noncomputable def tw6053488873528693546:=t
noncomputable def tw9743547864785199688:=t
noncomputable def tw6827099206857896292:=t
noncomputable def tw7879047048540728383:=t
noncomputable def tw8198665182371718299:=t
noncomputable def tw15265122962245437454:=t
noncomputable def tw9454059057027438656:=t
noncomputable def tw4309882358398642266:=t
noncomputable def tw5392299597785012591:=t
noncomputable def tw7599401795554725891:=t
noncomputable def tw17737646923454159296:=t
noncomputable def tw15596110459376006442:=t
noncomputable def tw5482413182875065836:=t
noncomputable def tw11668528365162139894:=t
noncomputable def tw17485190634103180043:=t
noncomputable def tw16663995355245094021:=t
noncomputable def tw5448025067071195390:=t
noncomputable def tw16700905870341132052:=t
noncomputable def tw1698875258122759751:=t
noncomputable def tw12974530450545097781:=t
noncomputable def tw15930858849074963261:=t
noncomputable def tw12167970925755389695:=t
noncomputable def tw9429127202874721869:=t
noncomputable def tw16280509825749102586:=t
noncomputable def tw9405956463992701843:=t
noncomputable def tw4750322768047264704:=t
noncomputable def tw262405011687169888:=t
noncomputable def tw15588490207605224469:=t
noncomputable def tw5259261058150730935:=t
noncomputable def tw13478498219835176925:=t
noncomputable def tw13751923277399625841:=t
noncomputable def tw13588064797205572187:=t
noncomputable def tw3398197505308375055:=t
noncomputable def tw12955702138776628118:=t
noncomputable def tw990138359102149031:=t
noncomputable def tw11316711145997615789:=t
noncomputable def tw17655558233124485371:=t
noncomputable def tw11175013081404874522:=t
noncomputable def tw8560654514016734424:=t
noncomputable def tw1092173887950096567:=t
noncomputable def tw7817261944054017434:=t
noncomputable def tw7084574032002507146:=t
noncomputable def tw10401076576719062377:=t
noncomputable def tw163592085419136350:=t
noncomputable def tw12094874427600621530:=t
noncomputable def tw6324509395762894274:=t
noncomputable def tw12190232304580743330:=t
noncomputable def tw6047147958663466011:=t
noncomputable def tw12248033381210713076:=t
noncomputable def tw17900352777529548451:=t
noncomputable def tw10515784405251374723:=t
noncomputable def tw14640548218332429736:=t
noncomputable def tw4387815703087198773:=t
noncomputable def tw7097601205072910216:=t
noncomputable def tw13891902683373831104:=t
noncomputable def tw4279996755538357103:=t
noncomputable def tw9578417255688769332:=t
noncomputable def tw13939368615603976231:=t
noncomputable def tw17361075825287683724:=t
noncomputable def tw12652519575083963565:=t
noncomputable def tw18358288695274263442:=t
noncomputable def tw3814879949666567371:=t
noncomputable def tw1120493216979301896:=t
noncomputable def tw13634810637456666241:=t
noncomputable def tw16163397682651400912:=t
noncomputable def tw567140220843738177:=t
noncomputable def tw1462877132207354542:=t
noncomputable def tw12314692042376065466:=t
noncomputable def tw13835133270027845418:=t
noncomputable def tw11930956649107928078:=t
noncomputable def tw10962692058784180459:=t
noncomputable def tw17211954541659426525:=t
noncomputable def tw4976112680161523354:=t
noncomputable def tw1520645861935352662:=t
noncomputable def tw13532024429890476138:=t
noncomputable def tw207880254814492960:=t
noncomputable def tw2898378963260111508:=t
noncomputable def tw14208619532473365389:=t
noncomputable def tw14062907059297713525:=t
noncomputable def tw5673024203882303109:=t
noncomputable def tw8997845133921334693:=t
noncomputable def tw692435132765215429:=t
noncomputable def tw17664012165194908760:=t
noncomputable def tw14247992182332658664:=t
noncomputable def tw18379419148803500191:=t
noncomputable def tw15483527125494663135:=t
noncomputable def tw3578321796397149375:=t
noncomputable def tw12673591690071304165:=t
noncomputable def tw8332809845725396269:=t
noncomputable def tw7142071578729766687:=t
noncomputable def tw8457164520238521696:=t
noncomputable def tw17406809075909242188:=t
noncomputable def tw17917267013217666260:=t
noncomputable def tw9212594481735176309:=t
noncomputable def tw1975102125963184211:=t
noncomputable def tw15501657297549557261:=t
noncomputable def tw9956450648006208440:=t
noncomputable def tw15989037318167500237:=t
noncomputable def tw6619895768505234375:=t
noncomputable def tw2150897098107527076:=t
noncomputable def tw9667338745579756885:=t
noncomputable def tw7449809112565968132:=t
noncomputable def tw14130168236254683948:=t
noncomputable def tw12510263612448366541:=t
noncomputable def tw7139781105206176354:=t
noncomputable def tw17208795706158401320:=t
noncomputable def tw10485728158455733077:=t
noncomputable def tw5757945569500034750:=t
noncomputable def tw2039259842244753705:=t
noncomputable def tw16952738005976519376:=t
noncomputable def tw18185179951276082068:=t
noncomputable def tw16103242537449112314:=t
noncomputable def tw10093402686427114313:=t
noncomputable def tw11828274223986617665:=t
noncomputable def tw3978397440785421915:=t
noncomputable def tw13037116193424991958:=t
noncomputable def tw14017756301863052572:=t
noncomputable def tw10523195846740904746:=t
noncomputable def tw12528480208681674024:=t
noncomputable def tw8788392476097299858:=t
noncomputable def tw2208198936559944381:=t
noncomputable def tw4089154967757746926:=t
noncomputable def tw13198875946960142187:=t
noncomputable def tw8691017456105736570:=t
noncomputable def tw14916848938066121805:=t
noncomputable def tw10819873563222278355:=t
noncomputable def tw9968934546423188622:=t
noncomputable def tw5352850600868742533:=t
noncomputable def tw6376553774223330439:=t
noncomputable def tw16658177816447296984:=t
noncomputable def tw7729221543127080828:=t
noncomputable def tw1309072285704405417:=t
noncomputable def tw12565758777625926908:=t
noncomputable def tw16969185348118413886:=t
noncomputable def tw17494262114739202200:=t
noncomputable def tw969209321069790645:=t
noncomputable def tw13188136506518276568:=t
noncomputable def tw17554838094689333652:=t
noncomputable def tw15435127402599699918:=t
noncomputable def tw8745110009724310351:=t
noncomputable def tw1437836495340372421:=t
noncomputable def tw13380467158208069670:=t
noncomputable def tw12414769429787865473:=t
noncomputable def tw8184668142065314007:=t
noncomputable def tw13655453890133095828:=t
noncomputable def tw7000269544199654418:=t
noncomputable def tw5471988287523606457:=t
noncomputable def tw3603730051868107005:=t
noncomputable def tw5768570142606628035:=t
noncomputable def tw7074219647088348397:=t
noncomputable def tw2159318316387666541:=t
noncomputable def tw15485787164770373421:=t
noncomputable def tw2860090250054404464:=t
noncomputable def tw15792988411958808099:=t
noncomputable def tw4308421450439816894:=t
noncomputable def tw7126825640816289412:=t
noncomputable def tw3094348951263054419:=t
noncomputable def tw17255941815609152530:=t
noncomputable def tw7735720792680692449:=t
noncomputable def tw8695141456546963470:=t
noncomputable def tw7036966847486073120:=t
noncomputable def tw12895838411937703530:=t
noncomputable def tw14030012113517367726:=t
noncomputable def tw13621949775905068762:=t
noncomputable def tw7732226622503366259:=t
noncomputable def tw15524609450311832165:=t
noncomputable def tw7745947146296859004:=t
noncomputable def tw5343242540229669763:=t
noncomputable def tw8832634330066383093:=t
noncomputable def tw2441462666510003197:=t
noncomputable def tw10817899295579207937:=t
noncomputable def tw7415571711476093608:=t
noncomputable def tw9029633411236338930:=t
noncomputable def tw15200631973919487871:=t
noncomputable def tw9936933817565531871:=t
noncomputable def tw12910419911631536531:=t
noncomputable def tw4186230187689406897:=t
noncomputable def tw14010810147987155726:=t
noncomputable def tw5806003441406385717:=t
noncomputable def tw13357551129144375708:=t
noncomputable def tw16095429684537652443:=t
noncomputable def tw11342571740701432308:=t
noncomputable def tw13925036959819924902:=t
noncomputable def tw13483148470336803:=t
noncomputable def tw9019787513211521978:=t
noncomputable def tw715305541407866598:=t
noncomputable def tw17132419269674914540:=t
noncomputable def tw15131434944505131699:=t
noncomputable def tw1704037494010303701:=t
noncomputable def tw14401760459660368760:=t
noncomputable def tw17181068361389639877:=t
noncomputable def tw9261034115236530186:=t
noncomputable def tw9393012592444265062:=t
noncomputable def tw13307452994694464218:=t
noncomputable def tw7312538200431646037:=t
noncomputable def tw10958661451807136164:=t
noncomputable def tw360252608364037968:=t
noncomputable def tw9167669047990562984:=t
noncomputable def tw8553367066998556568:=t
noncomputable def tw4208606463113690787:=t
noncomputable def tw14977958865490606018:=t
noncomputable def tw9861304516379984765:=t
noncomputable def tw12645756625723563358:=t
noncomputable def tw7350687719682285474:=t
noncomputable def tw11661815722361739184:=t
noncomputable def tw12327203148632900242:=t
noncomputable def tw12624686441114363132:=t
noncomputable def tw14268434736495086630:=t
noncomputable def tw16410973285155789632:=t
noncomputable def tw15741279396340130594:=t
noncomputable def tw315191492640235418:=t
noncomputable def tw14592210476062553811:=t
noncomputable def tw11626496614793320532:=t
noncomputable def tw1529752657529700348:=t
noncomputable def tw5120726945302479646:=t
noncomputable def tw7006312610654464896:=t
noncomputable def tw11263126400202442770:=t
noncomputable def tw16498988874564074391:=t
noncomputable def tw859425384735062263:=t
noncomputable def tw4483697098485586323:=t
noncomputable def tw14454879336631956318:=t
noncomputable def tw16983842750113368959:=t
noncomputable def tw14294057811670502428:=t
noncomputable def tw214238282767671245:=t
noncomputable def tw3614874526631786173:=t
noncomputable def tw16614283305571011191:=t
noncomputable def tw14299211754574123445:=t
noncomputable def tw16004575869212015146:=t
noncomputable def tw13695651029549791471:=t
noncomputable def tw9803538046144090917:=t
noncomputable def tw15816869695871756527:=t
noncomputable def tw17906658110490229833:=t
noncomputable def tw5844969806652611378:=t
noncomputable def tw8937297929808437820:=t
noncomputable def tw200222890834593524:=t
noncomputable def tw10763627813934135698:=t
noncomputable def tw7758099259340895463:=t
noncomputable def tw1370704165089380695:=t
noncomputable def tw7567721272976707373:=t
noncomputable def tw13828140883025186485:=t
noncomputable def tw15464779412681395990:=t
noncomputable def tw7354341484448499422:=t
noncomputable def tw16287335396275932912:=t
noncomputable def tw9433802542076670324:=t
noncomputable def tw13167073781535228829:=t
noncomputable def tw3739186492832154048:=t
noncomputable def tw10199587596978100999:=t
noncomputable def tw11080039558694012951:=t
noncomputable def tw5151450724734241804:=t
noncomputable def tw17107413496054834362:=t
noncomputable def tw3770256105957887063:=t
noncomputable def tw14140532767642794658:=t
noncomputable def tw11361212227495245971:=t
noncomputable def tw7687069833672418498:=t
noncomputable def tw17639515130465259232:=t
noncomputable def tw14197247070142333671:=t
noncomputable def tw13262986945819307530:=t
noncomputable def tw11145295602906088773:=t
noncomputable def tw9692778895648019306:=t
noncomputable def tw4367741067100912963:=t
noncomputable def tw15688847975760893092:=t
noncomputable def tw448074166696459381:=t
noncomputable def tw11805400213030578187:=t
noncomputable def tw8656392343998947206:=t
noncomputable def tw1741110956546584376:=t
noncomputable def tw6729988859011345833:=t
noncomputable def tw5748677088840093092:=t
noncomputable def tw8549603240826783427:=t
noncomputable def tw13273864911367704501:=t
noncomputable def tw3667877127111083948:=t
noncomputable def tw8583579845197763837:=t
noncomputable def tw10744963971942341954:=t
noncomputable def tw16722606247793104673:=t
noncomputable def tw595036135758436292:=t
noncomputable def tw8738703244047605846:=t
noncomputable def tw880951649824019635:=t
noncomputable def tw12794606107053504416:=t
noncomputable def tw9349943459933450400:=t
noncomputable def tw3825168860197494873:=t
noncomputable def tw15332225761111117650:=t
noncomputable def tw9341451882356531207:=t
noncomputable def tw6798577408884684356:=t
noncomputable def tw11977286568313064727:=t
noncomputable def tw15356723255509057628:=t
noncomputable def tw1970454504923268882:=t
noncomputable def tw5563741760279859625:=t
noncomputable def tw13630899507788469408:=t
noncomputable def tw2746807553486456186:=t
noncomputable def tw17829156939450087709:=t
noncomputable def tw9588393332426302240:=t
noncomputable def tw339718708564501810:=t
noncomputable def tw3592784877603865250:=t
noncomputable def tw5338188046611820966:=t
noncomputable def tw4543272434908726187:=t
noncomputable def tw6391950968127246987:=t
noncomputable def tw11826625622425124372:=t
noncomputable def tw6041569787332832696:=t
noncomputable def tw531433053953260169:=t
noncomputable def tw3201196061446483555:=t
noncomputable def tw15781753855911799520:=t
noncomputable def tw4438438469678875765:=t
noncomputable def tw14996810977337887972:=t
noncomputable def tw12898669044122354976:=t
noncomputable def tw11724212173179721780:=t
noncomputable def tw4457816659178644415:=t
noncomputable def tw3031464094153586250:=t
noncomputable def tw2701109299619403957:=t
noncomputable def tw18145245380427720708:=t
noncomputable def tw17469830623269523406:=t
noncomputable def tw10943976495797430056:=t
noncomputable def tw16968539983344518841:=t
noncomputable def tw13321656757682329131:=t
noncomputable def tw14928823247361821671:=t
noncomputable def tw7522069045921955475:=t
noncomputable def tw14777537218636325494:=t
noncomputable def tw2398101249728352393:=t
noncomputable def tw6192643151496355268:=t
noncomputable def tw4518080429108876666:=t
noncomputable def tw12535347994915188348:=t
noncomputable def tw13400407649044873853:=t
noncomputable def tw715759365346393289:=t
noncomputable def tw15150030018011283105:=t
noncomputable def tw10286645913068760424:=t
noncomputable def tw4425217154296199525:=t
noncomputable def tw11687643550446678680:=t
noncomputable def tw6337393052879420447:=t
noncomputable def tw17712795440511418552:=t
noncomputable def tw15311209721493657349:=t
noncomputable def tw16722370465830725710:=t
noncomputable def tw17101354486636881651:=t
noncomputable def tw11947547916405243601:=t
noncomputable def tw4999886010950589075:=t
noncomputable def tw11403638565986612263:=t
noncomputable def tw13383299898775174470:=t
noncomputable def tw302839545364682547:=t
noncomputable def tw16837022014463267861:=t
noncomputable def tw14392303089267265530:=t
noncomputable def tw2139990424583401001:=t
noncomputable def tw11476739132541306895:=t
noncomputable def tw9112611164807795328:=t
noncomputable def tw9056160384315767763:=t
noncomputable def tw12190545925589248314:=t
noncomputable def tw2970552340676390366:=t
noncomputable def tw9375176201520239776:=t
noncomputable def tw36047786851451182:=t
noncomputable def tw17289402123282617882:=t
noncomputable def tw3955609784744745238:=t
noncomputable def tw16700155421478618012:=t
noncomputable def tw8758904046352205345:=t
noncomputable def tw15318749309769781403:=t
noncomputable def tw8781477543618604222:=t
noncomputable def tw7929749148470945365:=t
noncomputable def tw18191381230738378630:=t
noncomputable def tw10426331994153257266:=t
noncomputable def tw6040007542700096726:=t
noncomputable def tw13081107310373392915:=t
noncomputable def tw14850454300069643903:=t
noncomputable def tw1252377675823027505:=t
noncomputable def tw12353560254381373311:=t
noncomputable def tw6892796862630068248:=t
noncomputable def tw6998676572691772928:=t
noncomputable def tw13800406177925741179:=t
noncomputable def tw349548195882563094:=t
noncomputable def tw10430345775721969809:=t
noncomputable def tw459089633207044766:=t
noncomputable def tw12498310594823589629:=t
noncomputable def tw14305078854287862527:=t
noncomputable def tw16476934896145123654:=t
noncomputable def tw6286297857223911174:=t
noncomputable def tw15545735674793188292:=t
noncomputable def tw679896800612554892:=t
noncomputable def tw9835442540926118443:=t
noncomputable def tw5061201304568232995:=t
noncomputable def tw11444287117750330705:=t
noncomputable def tw5941859294126635318:=t
noncomputable def tw697058492248006453:=t
noncomputable def tw15937118506963519930:=t
noncomputable def tw1471266095596986859:=t
noncomputable def tw2548226257978335663:=t
noncomputable def tw11119710657665256:=t
noncomputable def tw1185599988130530221:=t
noncomputable def tw3924838388142637559:=t
noncomputable def tw16020575220858176935:=t
noncomputable def tw4795200901461989573:=t
noncomputable def tw14651684450150088266:=t
noncomputable def tw121019804617808343:=t
noncomputable def tw9858929281151063455:=t
noncomputable def tw10831610045835708071:=t
noncomputable def tw4147460023861682851:=t
noncomputable def tw6393935855708656229:=t
noncomputable def tw18397859213211462128:=t
noncomputable def tw6858630299834908238:=t
noncomputable def tw8651120318522707436:=t
noncomputable def tw7673369471636872268:=t
noncomputable def tw11771942055522558143:=t
noncomputable def tw7520014546307122990:=t
noncomputable def tw13535007049604473344:=t
noncomputable def tw9096609070549843967:=t
noncomputable def tw7019120485790798707:=t
noncomputable def tw10400477531815160357:=t
noncomputable def tw4361319500067951388:=t
noncomputable def tw12438188873998680515:=t
noncomputable def tw17366222311284111798:=t
noncomputable def tw16885484331017675632:=t
noncomputable def tw14364725653478063317:=t
noncomputable def tw9704678572309647266:=t
noncomputable def tw9070186801911606578:=t
noncomputable def tw16170431051225332021:=t
noncomputable def tw2114758919464136071:=t
noncomputable def tw17121160182577264506:=t
noncomputable def tw14583895877252230591:=t
noncomputable def tw8937673650129651115:=t
noncomputable def tw7786233309396663219:=t
noncomputable def tw7437725485686310606:=t
noncomputable def tw13384731331113527939:=t
noncomputable def tw3634596000062715853:=t
noncomputable def tw1901514865505092576:=t
noncomputable def tw1493125151157843651:=t
noncomputable def tw13113817358252246849:=t
noncomputable def tw11804219105231224368:=t
noncomputable def tw13778946984581898259:=t
noncomputable def tw17219345027428780722:=t
noncomputable def tw11797968769066453055:=t
noncomputable def tw6499217152129799197:=t
noncomputable def tw5932762338681629878:=t
noncomputable def tw8467316795997374549:=t
noncomputable def tw14247094915882546131:=t
noncomputable def tw16550393646514935288:=t
noncomputable def tw1856676236319494184:=t
noncomputable def tw2520474529696898389:=t
noncomputable def tw9375348365526482372:=t
noncomputable def tw3601963622094975534:=t
noncomputable def tw2567417449157932385:=t
noncomputable def tw10674344921907268143:=t
noncomputable def tw15422124799562644020:=t
noncomputable def tw7597181420893894250:=t
noncomputable def tw2656954156979518305:=t
noncomputable def tw17145966484214751931:=t
noncomputable def tw3846681147761302528:=t
noncomputable def tw13532210598873525198:=t
noncomputable def tw4911664247726663790:=t
noncomputable def tw14588073658771893958:=t
noncomputable def tw18048616356389780246:=t
noncomputable def tw5420292998669366688:=t
noncomputable def tw17878800106980826045:=t
noncomputable def tw859348612592503892:=t
noncomputable def tw9168124162799126516:=t
noncomputable def tw13180764389509300521:=t
noncomputable def tw16476076809428214987:=t
noncomputable def tw11841693133987511966:=t
noncomputable def tw8007523206875361959:=t
noncomputable def tw5691513278404013583:=t
noncomputable def tw12687121524905280799:=t
noncomputable def tw16503034775190467589:=t
noncomputable def tw4085317040679405929:=t
noncomputable def tw1654209884208409163:=t
noncomputable def tw5588082277235963332:=t
noncomputable def tw3184759215410476227:=t
noncomputable def tw1604090748942672850:=t
noncomputable def tw5219483080674751088:=t
noncomputable def tw10200891261596178805:=t
noncomputable def tw1173034336428489987:=t
noncomputable def tw7815683289786771721:=t
noncomputable def tw2368172702641198933:=t
noncomputable def tw13157846388712667950:=t
noncomputable def tw11525828755795675406:=t
noncomputable def tw18293837788582792809:=t
noncomputable def tw2005448568911691658:=t
noncomputable def tw14350984589987775425:=t
noncomputable def tw3433991641059891738:=t
noncomputable def tw2604282414123240093:=t
noncomputable def tw16545733816381954451:=t
noncomputable def tw16370155985866321343:=t
noncomputable def tw16563861323078585318:=t
noncomputable def tw11265195241194929331:=t
noncomputable def tw18145451076425940722:=t
noncomputable def tw16887950317997326924:=t
noncomputable def tw12507257305442780770:=t
noncomputable def tw2538111827142031233:=t
noncomputable def tw1714090164459233185:=t
noncomputable def tw18083910461997938986:=t
noncomputable def tw5217113013705183505:=t
noncomputable def tw7154222133776574743:=t
noncomputable def tw17372054196502031956:=t
noncomputable def tw18424079285106322026:=t
noncomputable def tw8800720176015358688:=t
noncomputable def tw3079818567258616745:=t
noncomputable def tw14896493957290590638:=t
noncomputable def tw8789576459188191568:=t
end PySem.W.Fast
open PySem PySem.W PyProof.Rows
set_option maxRecDepth 100000 in
set_option maxHeartbeats 0 in
theorem PySem.Challenge.cw_manypurses_k10_whole_cuts_holds : PySem.Challenge.rw_manypurses_k10_whole_cuts.Holds := by
  w_on; o_law; k_head; (case hw=>w_witness2)
  k_fill
  refine L2.j47 (l:=PySem.Challenge.rw_manypurses_k10_whole_cuts) (n:=63) (k:=12) (x := "_law_script") (CX:=L2.CX0) (sp:=M.j2n) rfl (by decide) rfl ⟨rfl,by decide,by decide⟩ (fun w h Y=>PySem.W.kIn_of Y) ?F ?S ?C
  case F=>
    intro w mg fa h KX G hmg
    refine' M.all_mk KX G hmg ..
    iterate 25 (show _ = _; k_is)
    iterate 2 (show _ = _; kernel_rfl)
    iterate 1 (show _ = _; k_is)
    iterate 1 (show _ = _; kernel_rfl)
    iterate 76 (show _ = _; k_is)
    iterate 1 (show _ = _; kernel_rfl)
    iterate 129 (show _ = _; k_is)
    iterate 3 (show _ = _; kernel_rfl)
    iterate 15 (show _ = _; k_is)
    iterate 4 (show _ = _; kernel_rfl)
    iterate 5 (show _ = _; k_is)
    iterate 4 (show _ = _; kernel_rfl)
    iterate 5 (show _ = _; k_is)
    iterate 3 (show _ = _; kernel_rfl)
    iterate 14 (show _ = _; k_is)
    iterate 56 (show L2.av _ _ _ _ _ _;refine' L2.ji ?_ ?_ ?_;iterate 3 (show _ = _;k_is))
  case S=>exact fun K H a ns hl _ hS=>⟨a,ns,rfl,hS,hl,fun _=>rfl⟩
  case C=>exact fun _ _ _ _ z=>z
