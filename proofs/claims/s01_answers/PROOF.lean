import PyProof.Rows.All
import Wide.All
import OpenK.AllK
import Wide.FinOn
import PyProof.EqAt
import PyProof.EqKinds
import PyProof.TupleCall
import KE.BitLaws
import Open.SpecLaws
import KE.OsHead
import KE.OsGo
import VaattxSpec
import PySem.Challenge.RW_treemerge_s01_answers
import KE.IntTextLaws
import KE.KSortTupG
import KE.KIntText
import KE.KDictList
import PySem.SetOps
import PyVaattx
import PyProof.ExcBaseAll.Exception
set_option Elab.async false
set_option linter.all false
set_option maxRecDepth 100000
theorem y{α:Sort u}{a:α}:a=a:=rfl
open Array renaming forIn_toList->abL,getD_eq_getD_getElem?->aaP,getElem?_eq_getElem->qo,getElem?_eq_none->Ru,getElem?_eq_some_iff->BY,getElem?_toList->vI,length_toList->yF,mem_toList_iff->abq,perm_iff_toList_perm->aaT
open Bool renaming and_eq_true->qr,and_eq_true_iff->abp,and_false->acy,eq_iff_iff->yP,false_eq_true->qE,false_ne_true->nE,false_or->acN,noConfusion->sS,not_false->Sk,not_not->ac0,not_true->K4,or_eq_false_iff->abo,or_eq_true->yO,true_and->acM
open Classical renaming byContradiction->Rp
open Except renaming error->Lf,ok->ze
open False renaming elim->sU
open ForInStep renaming yield->KJ
open Int renaming ofNat->nF,toNat_natCast->yI
open LawfulBEq renaming eq_of_beq->AR
open List renaming Nodup->GN,all_cons->K3,all_eq_true->xp,all_map->SG,any_cons->yT,any_eq_false->CC,any_eq_true->Fz,any_map->Le,append_assoc->rP,append_eq_nil_iff->xi,append_nil->t8,count_eq_zero->RO,dropLast_concat->RD,dropWhile_cons->abz,drop_drop->Az,drop_eq_getElem?_toList_append->aaK,drop_eq_getElem_cons->Ka,drop_eq_nil_of_le->Ak,exists_mem_of_ne_nil->aaV,ext_getElem?->sP,filterMap_cons->xj,filterMap_map->RL,filter_append->RK,filter_cons->R6,filter_sublist->yE,find?_cons->FG,find?_eq_none->RJ,find?_eq_some_iff_getElem->J7,find?_map->FH,find?_some->CH,findIdx?_eq_some_iff_getElem->aaL,flatMap_append->aby,flatMap_cons->uM,flatMap_eq_nil_iff->aa3,flatten_cons->abZ,foldl_cons->acf,forall_mem_cons->Kj,getD_eq_getElem?_getD->aaR,getElem?_append_left->Aj,getElem?_append_right->xh,getElem?_eq_getElem->mP,getElem?_eq_some_iff->o1,getElem?_inj->Ku,getElem?_map->jI,getElem?_of_mem->Ki,getElem?_range->abx,getElem?_set_ne->RC,getElem?_set_self->abb,getElem?_take_of_lt->Rq,getElem?_zipIdx->abm,getElem_inj->ab9,getElem_mem->ab8,getElem_range->abI,length->yY,length_append->j9,length_cons->lH,length_eq_zero_iff->aa2,length_filter_le->t5,length_map->i0,length_nil->yM,length_range->CB,length_reverse->Ck,length_singleton->Cf,length_take->Fy,length_zip->ace,map->A1,map_append->mR,map_congr_left->oM,map_cons->j6,map_drop->acL,map_id->xF,map_id'->acZ,map_map->kQ,map_nil->Ld,map_take->acK,mem_append->k8,mem_append_right->Rz,mem_cons->kc,mem_cons_of_mem->nD,mem_cons_self->jO,mem_filter->oy,mem_filterMap->t6,mem_flatMap->sQ,mem_iff_getElem?->nv,mem_map->jr,mem_of_find?_eq_some->sI,mem_of_getElem?->kO,mem_of_mem_drop->abl,mem_range->Ay,mem_singleton->uK,nil_append->KH,nodup_append->sO,nodup_cons->rg,nodup_iff_count->Kh,nodup_iff_pairwise_ne->aaQ,nodup_nil->yR,nodup_range->Kx,not_mem_nil->R5,of_mem_zip->Se,pairwise_cons->An,pairwise_filterMap->aa1,pairwise_iff_getElem->Fg,pairwise_map->vL,perm_ext_iff_of_nodup->J',perm_middle->ab7,range->kH,range_succ_eq_map->aba,reverse_cons->Kt,set->Wh,size_toArray->Ft,takeWhile_cons->Cj,take_add_one->RU,take_append_drop->Fj,take_length->pB,take_sublist->abY,take_zero->acx,unzip_zip->acw,zipIdx_cons->ab6,zip_append->KG
open List.Nodup renaming sublist->vJ
open List.Pairwise renaming imp_of_mem->aaY,nil->ab0
open List.Perm renaming refl->Sj
open List.cons renaming inj->K2,injEq->KI
open Nat renaming add_assoc->K1,add_le_add->acv,add_sub_cancel_left->Kd,le_add_right->ab5,le_antisymm->acd,le_max_left->Sd,le_max_right->R4,le_of_eq->SF,le_of_lt->vS,le_of_not_lt->Fx,le_refl->jw,le_succ->Lx,le_trans->ja,lt_irrefl->AA,lt_of_le_of_lt->qp,lt_of_lt_of_le->oN,lt_succ_self->Aq,lt_trans->Lc,lt_trichotomy->abX,max->md,mod_eq_of_lt->vO,mod_eq_sub_mod->RI,mod_lt->GL,mod_mod_of_dvd->abH,mul_le_mul_left->abw,ne_of_gt->yV,ne_of_lt->mT,pow_le_pow_right->Kg,sub_self->SE,toDigits->La,toDigits_of_lt_base->aa0,zero_add->AB,zero_le->ke
open Ne renaming symm->my
open Option renaming bind->F4,getD->adx,getD_some->R3,isSome_iff_exists->sL,isSome_map->Ao,isSome_some->abG,map->GJ,map_eq_some_iff->jJ,map_map->Ax,map_some->CG,none->adw
open Option.some renaming inj->pD
open Or renaming inl->iJ,inr->tD
open Prod renaming fst->lO,snd->wd
open Prod.mk renaming injEq->Sq
open PyFlat renaming call->Lw,calls->FR,played->K0,told->Lv
open PyProof.Rows renaming AllBare->zp,Constant_none->Sr,IsTup->zP,Subscript_->T1,callWith_builtin1->J6,callWith_type1->Ai,itemOrd->RB,lexLt->RH,subscriptTail_builtinR->aa8
open PyProof.Rows.F renaming entry_set_update_loop->aa4,plain_set_update_loop->Rr
open PyProof.Rows.G renaming KeepsTups->aaX,isTupObj->T2,tupKeyC->zd,tupKindC->LX
open PySem renaming Addr->U,Around->oR,BindsTo->A9,DictEntry->sW,Env->oq,FuncData->iZ,Heap->jo,IsTupleKey->R1,IsTupleKey->y4,Keyword->DN,NameKind->uc,Obj->jA,Params->xX,Program->acH,Program->kS,PyData->wt,Scope->qM,SetTable->pZ,Shared->acY,Shared->iV,Stmt->i5,Str->G0,Str->iA,Value->FZ,Value->iB,Within->Sz,World->jR,boot_len->lN,call_meets->GG,call_meetsIn->CQ,codeAny_builtin->yJ,codeAny_mono->CP,evalArgs_none->Kk,intKind->FN,meets_dict_values->abQ,mem_of_lookup->qZ,method_meetsIn->Sh,plainId_quiet->CJ,pushCells_keeps->KA,seqIndex_neg->K7,seqIndex_of->Ls,sizeLine_eq->FY,slot_list_getitem->abP,strKind->FL,tupleKind_room_in1->Co,typeIs_str->TY,wpAny_Call_Name_kw->uJ,wpAny_Call_method->Cw,wpAny_Name->TX,wpAny_askSetting->Fu,wpAny_assign_Name->abO,wpAny_attempt->KW,wpAny_bind->iH,wpAny_call->TV,wpAny_callSpecial?_slot->Ca,wpAny_call_entry->uN,wpAny_dictEntries->Fo,wpAny_dictEpoch->FC,wpAny_eqIsQuiet_tuple->abg,wpAny_execs_nil->FA,wpAny_fieldsOf->CI,wpAny_forIn_list->RY,wpAny_getItem_list_neg->aa7,wpAny_handled->So,wpAny_holding->sT,wpAny_isInstance->RX,wpAny_isOneOf_keyiter->Ke,wpAny_isTrue_Compare1->abf,wpAny_ite_split->Kz,wpAny_loadName_cell->abu,wpAny_loadName_local->abk,wpAny_mono->rQ,wpAny_newObj_type->vK,wpAny_notOrdered_dict->abe,wpAny_of_eq->CZ,wpAny_passesOwn->Ar,wpAny_pure->i6,wpAny_pyIter_enum->abN,wpAny_pyIter_list->Kp,wpAny_pyIter_revIter->abj,wpAny_pyIter_slot->Ko,wpAny_pyIter_values->abt,wpAny_pyNext_list_end->abd,wpAny_pyNext_list_item->aa6,wpAny_seqItems->Sg,wpAny_setEntries_of->RE,wpAny_setField->Au,wpAny_setState_of->yH,wpAny_specialOf->R8,wpAny_standAt->Sn,wpAny_storeSet_of->abM,wpAny_throw->SX,wpAny_truthy_bool->xl,wpAny_typeNameOfWhole_keyiter->yA,wpAny_typeNameOf_keyiter->yB,wpAny_typeOf->K6
open PySem.Around renaming under_plainId->Am
open PySem.AutoSeq1 renaming wpAny_loadPart'->BZ
open PySem.Builtin.Dict renaming showsAll->abi,updateFrom->aa5
open PySem.Builtin.Dict_items renaming ownsTuple->J9
open PySem.Builtin.Frozenset renaming addrOf->amh,newClass->amf,sizeOf->amg,slot0->ami,updateFrom->ame
open PySem.Builtin.List renaming listLengthHint->aaO,listTooLong->Fh
open PySem.Builtin.SmallTypes renaming nextOf->Kb
open PySem.Calls renaming Name_function_global->aaS,callWith_builtin->Cb,evalArgs_plain->Fl,spliced_cons->uL,spliced_nil->vM
open PySem.Challenge renaming pw_treemerge_s01_answers->amd,rw_treemerge_s01_answers->aaJ
open PySem.CmpOp renaming NotIn->ady
open PySem.Data renaming seq->Np
open PySem.F renaming args_dict_values_1->abn,called_set->yW,entry_dict_get->Fi,entry_dict_keyiterator_next->J8,entry_dict_values->abB,entry_list_extend->abA,entry_tuple_add->aaZ,plainAttrs_dict->Kc,plainAttrs_dict->RV,plainAttrs_list->lE,plain_list_iadd->ab2,plain_set_new->aci,slot_dict_get->yC,slot_dict_getitem->aaU,slot_dict_items->ab1,slot_dict_iter->ab',slot_dict_keyiterator_iter->aaN,slot_dict_keyiterator_next->vH,slot_dict_update->aaW,slot_dict_values->Km,slot_list_append->qY,slot_list_extend->abK,slot_list_extend->rO,slot_list_getattribute->Ro,slot_list_pop->Ry,slot_set_iter->ach,slot_tuple_add->aa',type_dict_get->Rx,type_dict_values->abJ,type_list_append->qX,type_list_extend->rN,type_list_pop->Rw
open PySem.Heap renaming ExtBut->SY,SameBut->vT,get?_push_of_some->kZ,get?_push_size->kP,get?_update_other->abc,get?_update_self->Al,lt_size->jZ,size_push->uP
open PySem.Heap.DictOf renaming new->acg
open PySem.Heap.IsSliceOf renaming new->amk
open PySem.Heap.SameBut renaming update->xk
open PySem.Heap.UpToSlots renaming ns->aml
open PySem.NameKind renaming cell->acJ,free->acI
open PySem.NumText renaming digitsVal->abW
open PySem.Obj renaming cls_mapFields->RS,data_mapFields->yG,isFreed_of_fields->Kf,mapFields->xw,mapSeq->GK,putSet->y3
open PySem.PassesOwn renaming leaving->lG
open PySem.PyData renaming canLayAll0->CA,depthAll->CF,eqv->GI,eqvAll->CO,strOk->K'
open PySem.SeqAt renaming shaped->CT
open PySem.SeqAt.EqAt renaming int_str->abF,str_int->abE
open PySem.SetTable renaming fill->acF,fresh->amj,grown->yQ,insertAt->abT,sizeAbove->abD
open PySem.Str renaming join->Wg,ofString->mF
open PySem.Txt renaming join->Dv
open PySem.Value renaming bool->C7,bytes->ado,float->adn,int->vY,isInt->Lu,isInt_shape->abR,isStrOf->KY,none->pX,ref->jj,str->MA,type->vV
open PySem.Value.type renaming inj->acn
open PySem.W renaming Frag->jd,WRecords->ab4,WalkOS->acu,callWith_K->Kl,callWith_K0->abv,cellsFrom_some->aa9,codeIn->KQ,emptyDict->xo,findIn->xu,fnOf->xC,handedIn->ab3,hasDictIn->RR,hideAll->xq,hideAll_get->RG,hideAll_none->sN,instObj->yL,isFn->SD,keepIn->Aw,length_le_weightAllW->aaM,lookIn->KP,makesIn->acb,methodCall_KW->Rv,methodObj->RQ,mg_of->acG,nsIn->SA,of_hideAll->Cv,plainGet->Kw,plainGet_of->RF,plainOver->abU,takerIn->Sb
open PySem.W.Codec renaming app->abV
open PyVaattx renaming answers->Kv,answers_asked->Rt,calls->acs,shape->rj,whole->KO
open Sum renaming inl->iO,inr->kR
open Sum.inl renaming inj->C2
open Sum.inr renaming inj->C0
open True renaming intro->xG
open Vaatta renaming CALLS->acX,Expr->adu,SIGNS->xB,Tok->jH,decimal->acr,digitsFrom->Ks,isBlank->acq,isDigit->pE,isGreat->ri,isLetter->uO,isPlain->oz,isSmall->vP,isWord->FK,numOf->uR,occsAll->Si,partsAll->Sa,signNext->jP,tokens->o2,wElse->uQ,wIf->AL,wThen->xA,wordNext->aca
open Vaatta.Tok renaming great->pW,isSign->abS,small->mQ
open Vaattb renaming Grammar->xr,iff->TZ,mostBytes->R0,read->adt
open Vaattd renaming iff->ad',mostNodes->Fw,read->AE,showInt->t9,showNum->acp
open Vaattf renaming lay->GH,layAll->acE,starts->acD
open Vaattx renaming Answer->FJ,Call->ads,DEEP_->K9,State->Sy,allAs->CS,changes->KN,commas->ro,conflicts->vN,countIn_->FF,firstOnly->Ap,formFrom->R',formOf->yS,grammarStep->Cs,has->nY,kidChanges->Fs,kidIn->acW,kidsMerged->Fq,kidsOf->CN,label->FQ,levelsFrom->RP,liftStep->KD,mayStand->KC,merged->acC,mergedTree->oO,newNodes->CD,newOn->K8,no->pY,nodesFrom->pV,numChanges->Kr,numIn->acV,numMerged->Fv,numberStep->Cz,nums->adq,onMerged->R9,onNode->vQ,onTrees->mS,placed->KZ,prodOfNode->Fp,putSide->aco,reached->rh,recMerged->ra,recOf->jq,redirect->mw,renumbered->Kq,replaceStep->Cq,rootOf->CM,said->o3,sideOf->pF,spread->CL,start->FP,step->xE,swapStep->yK,symOfNode->RZ,toldFlat->FE,tooLarge_->t7,treeStep->As,trim->adp,whichOf->Av,withSide->FD,worked->CK
open VaattxNeutral renaming asked1->Ci,callOf->RA,natural->abh,step->Fn,text?->Fm
open Option renaming some->O,none->e'
open Bool renaming true->f',false->ij
theorem ip{c:Prop}{i:Decidable c}(h:c){α:Sort u}{t e:α}:ite c t e=t:=if_pos h
theorem il{c:Prop}{i:Decidable c}(h:¬c){α:Sort u}{t e:α}:ite c t e=e:=if_neg h
theorem iq{p:Prop}[Decidable p](h:p):decide p=true:=decide_eq_true h
theorem ir{p:Prop}[Decidable p](h:¬p):decide p=false:=decide_eq_false h
section
open PySem PySem.W PyProof.Rows
set_option hygiene false
set_option maxHeartbeats 0
theorem q_w : PySem.Challenge.rw_treemerge_s01_answers.wellSaid = true := by decide +kernel
namespace PySem.W.Fast
def tw13193471941565828353:=0
def tw1867473713579842188:=0
def tw10181381260393067984:=0
def tw12648841710489990161:=0
def tw15770467654151642550:=0
def tw7611095147757610053:=0
def tw5290470857916281563:=0
def tw16346045688564303128:=0
def tw9886104386063264206:=0
def tw372927173455983453:=0
def tw15325650657094243365:=0
def tw7752763202726903068:=0
def tw17669784695831980781:=0
def tw7222741178822609107:=0
def tw2968344050751592212:=0
def tw8339916761681138398:=0
def tw5823700067972224188:=0
def tw438328719502443795:=0
def tw4957411251213835870:=0
def tw13774628719681846198:=0
def tw3566922156050204618:=0
def tw3499502938470229427:=0
def tw7046429153514579528:=0
def tw10450668000688407308:=0
def tw15993858599064047538:=0
def tw6886504683537255526:=0
def tw193264667232249150:=0
def tw6590751364666064328:=0
def tw3648007949874990601:=0
def tw15708788179930038245:=0
def tw11399706883792819123:=0
def tw8792634727626023515:=0
def tw8464559656384682323:=0
def tw1569804609431917377:=0
def tw15908270043041926546:=0
def tw436768068660578112:=0
def tw9211914463369479915:=0
def tw6483197217251016928:=0
def tw7702540637542097460:=0
def tw15590784213251560363:=0
def tw10330438810667526927:=0
def tw16513645219508027074:=0
def tw14969178549220580961:=0
def tw10356497154947401461:=0
def tw15610304204483357497:=0
def tw8944835169709653974:=0
def tw14151449380413196735:=0
def tw380948636606036308:=0
def tw2693361824516377827:=0
def tw6328403592571216448:=0
def tw6713307070297045110:=0
def tw5476020703338538773:=0
def tw8589236280243834817:=0
def tw6277386542350445454:=0
def tw12417998869807756249:=0
def tw8200529411704923799:=0
def tw1706789897617075465:=0
def tw3808806554724496468:=0
def tw10713490898149437072:=0
def tw10892517224195588162:=0
def tw15109357195616452089:=0
def tw16170052998440560171:=0
def tw10415877213558934594:=0
def tw7881047949007913621:=0
def tw8393701676968188798:=0
def tw5565090215461210933:=0
def tw6023737010050221816:=0
def tw9412174698212743992:=0
def tw17553823741257414784:=0
def tw6499795442276921536:=0
def tw11729984725932440456:=0
def tw10801906468068016285:=0
def tw14809749621434613077:=0
def tw12166910303469532942:=0
def tw2658117360214894564:=0
def tw2606745591367820981:=0
def tw4407238560263972203:=0
def tw18199316200499433726:=0
def tw3728071186650026759:=0
def tw11373188074827806145:=0
def tw9990483133238471616:=0
def tw9946314893213846556:=0
def tw9850535163364365391:=0
def tw16346694353199782853:=0
def tw13763906202945972579:=0
def tw16642530771287410536:=0
def tw13862814427473998169:=0
def tw1436247993073134757:=0
def tw2650481891568911333:=0
def tw12751768462008672565:=0
def tw10431447446243247811:=0
def tw16842434703267651541:=0
def tw12489267128135842088:=0
def tw15163863132947134694:=0
def tw1563389032337489230:=0
def tw16706519711016352073:=0
def tw5756648369174355235:=0
def tw3996206752487685724:=0
def tw16776359688225735956:=0
def tw4554311039098912552:=0
def tw12616612551010806038:=0
def tw2581809877805639734:=0
def tw436855773106655555:=0
def tw10184603857789166780:=0
def tw12140503300612673045:=0
def tw12214678614438476110:=0
def tw14920389295001387018:=0
def tw16617989085194527829:=0
def tw12825851816395955077:=0
def tw3079950870245205749:=0
def tw10200842017757554264:=0
def tw7325306868283351853:=0
def tw14152025550843246773:=0
def tw15237418214218193364:=0
def tw5373758275671412834:=0
def tw7197019689210281419:=0
def tw1541879127790882540:=0
def tw11938079704289386039:=0
def tw4633389118542593420:=0
def tw12745493684107460768:=0
def tw13365170036805761124:=0
def tw5643084349684771323:=0
def tw752794744393712016:=0
def tw10550294270640291175:=0
def tw1898713245034994178:=0
def tw5182312203988445114:=0
def tw4328358101571794555:=0
def tw2963214463755111383:=0
def tw14836433790539075091:=0
def tw11253126987772284348:=0
def tw6772818691468829553:=0
def tw8386486728920351105:=0
def tw3682313808319663946:=0
def tw11198366372080994598:=0
def tw14723595614886419498:=0
def tw5363293604828458855:=0
def tw12826470992746400290:=0
def tw15282797213125667946:=0
def tw6178706411608969607:=0
def tw2763324229296454282:=0
def tw16682077494154424274:=0
def tw9471718949883014350:=0
def tw16495645756835635957:=0
def tw6127338306559526410:=0
def tw14428533931663412727:=0
def tw11649041883649781419:=0
def tw2171432407322604772:=0
def tw15346627128763531763:=0
def tw3002115891050328682:=0
def tw13615364618420787547:=0
def tw17317866809588525751:=0
def tw12074314250926988649:=0
def tw3733433329467533931:=0
def tw13962318179248091586:=0
def tw8534931885124284491:=0
def tw11691889225699707586:=0
def tw17937491734520907413:=0
def tw16181964599874670055:=0
def tw10019892015802456849:=0
def tw18339909819757232942:=0
def tw8250452793666448172:=0
def tw14432343005781628431:=0
def tw2324241341355153852:=0
def tw11295337277690749039:=0
def tw2712453418442710366:=0
def tw5526965341146761402:=0
def tw7739153596765050434:=0
def tw8320299606073313900:=0
def tw15764987578772167676:=0
def tw6380972558446797408:=0
def tw8720244930760964453:=0
def tw4003189369833468662:=0
def tw5200302303229264984:=0
def tw1509333835456491445:=0
def tw4136899465159371623:=0
def tw2223480652538891515:=0
def tw5383547613349582403:=0
def tw4909252483726803888:=0
def tw18136124930351706510:=0
def tw13950787529772278047:=0
def tw1023537446292637453:=0
def tw5176980573160968583:=0
def tw11520999715356237295:=0
def tw1136980550825946890:=0
def tw8484382738743396264:=0
def tw475102806014737407:=0
def tw8371843291884204098:=0
def tw8016335927496803413:=0
def tw2057135684439213431:=0
def tw2725500659685238910:=0
def tw6769144866591848977:=0
def tw8100992134449840405:=0
def tw2116183513674636478:=0
def tw12889782383669033217:=0
def tw4295409350590799206:=0
def tw1112590325678512515:=0
def tw13117296824771507274:=0
def tw13411018147432979450:=0
def tw13016695019697054817:=0
def tw2261394234224951648:=0
def tw2538496097693949225:=0
def tw10931645961250552151:=0
def tw16514651066166298619:=0
def tw13763343155838682269:=0
def tw11954724792858574245:=0
def tw16377754992940642849:=0
def tw8158078437825137190:=0
def tw1183819230204676525:=0
def tw14268271284322688810:=0
def tw7632762747058695729:=0
def tw11402575886826493564:=0
def tw1234880989457803569:=0
def tw17285767094384259952:=0
def tw15937606235073826374:=0
def tw9724397861738285012:=0
def tw10625699363368956678:=0
def tw13379433232417710259:=0
def tw4138138196442833092:=0
def tw15712670740191218673:=0
def tw1166125184584546029:=0
def tw8536480861309469840:=0
def tw12939205121603071401:=0
def tw7602937361765245835:=0
def tw134484759825229967:=0
def tw6802525888312474890:=0
def tw13517076727368834266:=0
def tw11082901788577999934:=0
def tw1462415838304158659:=0
def tw9410094637543500594:=0
def tw3385488411239996694:=0
def tw13997381361347629648:=0
def tw8002087564753482916:=0
def tw4884884700689457084:=0
def tw581528063555171541:=0
def tw530801468534650542:=0
end PySem.W.Fast
def q_q:Program:={PySem.Challenge.pw_treemerge_s01_answers with main:={PySem.Challenge.pw_treemerge_s01_answers.main with body:=(PySem.Challenge.pw_treemerge_s01_answers.main.body.drop 167).take 1}}
def q_l:List Str:=(PySem.Challenge.pw_treemerge_s01_answers.main.body.flatMap bindsAtTop).filter (·!="answers")
local macro_rules|`(tactic|refine $f:ident $x*)=>do
 let some y:=x.back?|Lean.Macro.throwUnsupported
 unless y.raw.isOfKind `Lean.Parser.Term.syntheticHole && y.raw[1].getId.eraseMacroScopes==`hc do Lean.Macro.throwUnsupported
 let mut z:=#[]
 for a in x.pop do
  let r:=a.raw
  if r.isOfKind `Lean.Parser.Term.namedArgument then
   let n:=r[1].getId.eraseMacroScopes
   if n==`q then z:=z.push ⟨r.setArg 3 (←`(q_q))⟩
   else if n==`loose then z:=z.push ⟨r.setArg 3 (←`(q_l))⟩
   else if n==`Xt then z:=z.push ⟨r.setArg 3 (←`(fun s=>xlAt q_q [] s&&recOk [] s))⟩
   else if n==`XP then z:=z.push ⟨r.setArg 3 (←`(XL q_q []))⟩
   else z:=z.push a
  else z:=z.push a
 `(tactic|refine $f:ident $z* h)
def q_h := fun (h : _) => (by
 w_on;have ws:=q_w;k_headS;(case hw=>exact⟨[.list [.int 9]],by decide+kernel,by decide+kernel⟩) : PySem.Challenge.rw_treemerge_s01_answers.Holds)
end
section
set_option hygiene false
abbrev q_M:=Lean.MacroM Lean.Syntax
def q_n:q_M:=Lean.Macro.throwUnsupported
def q_g(x:Lean.TSyntaxArray `term)(n:Nat):Lean.Term:=x.getD n ⟨.missing⟩
def z_0(b:Char):q_M:=match b with|'J'=>`(#[y,y,y,by decide+kernel,y,by decide+kernel,by decide+kernel])|'h'=>`(by grind)|'t'=>`(by omega)|'E'=>`((by decide))|'z'=>`((by rfl))|'Z'=>`(by grind[iC])|'n'=>`(Prop)|'M'=>`(X.env)|'I'=>`(iu H L)|'O'=>`(s.heap)|'D'=>`(.Y H s)|'q'=>`(.h)|'H'=>`(@q Tok)|'Y'=>`(@q iB)|'Q'=>`(by rfl)|'L'=>`(@q V)|_=>q_n
def z_1(b:Char):q_M:=match b with|'L'=>`(s.heap.objs.size)|'Z'=>`(by grind[sizeLine])|'E'=>`(by simp)|'z'=>`(first)|'Q'=>`(sizeLine)|'q'=>`((iJ y))|'t'=>`(pins)|'M'=>`((J 1))|'H'=>`(Flat)|'n'=>`(@q Nat)|'h'=>`(.t)|'I'=>`(@E)|'D'=>`(@q U)|_=>q_n
def z_a(b:Char):q_M:=match b with|'F'=>`(["reader","expression"])|'G'=>`((iP P w t.g.C))|'i'=>`((λ_ _=>y))|'e'=>`((J 0))|'3'=>`((js B I u o))|'q'=>`(Hp->Prop)|'v'=>`(ts.length)|'l'=>`(Rec.id)|'9'=>`((pick A I u))|'c'=>`(l.length)|'g'=>`(xs.length)|'K'=>`((ts.drop 1))|'H'=>`((jT c i7 P))|'N'=>`(kvs.length)|'Y'=>`((n:Int))|'n'=>`(t.g.C)|'d'=>`((J 2))|'W'=>`(by simp_all)|'a'=>`(Grammar)|'R'=>`(lg t B I u)|'w'=>`((jD _))|'x'=>`(t.text)|'h'=>`((i+1))|'S'=>`(t.length)|'k'=>`((J 3))|'7'=>`(F.root)|'C'=>`((t::r))|'6'=>`(V.int)|'8'=>`(t.mask)|'5'=>`(f.size)|'z'=>`(kb K t)|'y'=>`(Bytes)|'M'=>`(mask)|'r'=>`(t.Ct)|'4'=>`((k+1))|'m'=>`(r.id)|'U'=>`(call)|'b'=>`(Bool)|'o'=>`(X.xe)|'B'=>`(Expr)|'s'=>`(T.tc)|'u'=>`(ke _)|'Q'=>`(t.Cn)|'p'=>`((@E []))|'f'=>`(@q Int)|'E'=>`((.jg 0))|'X'=>`(@h a)|'j'=>`(@q jH)|'2'=>`(@h x)|'D'=>`(@h d)|'L'=>`(@q .Jn)|'I'=>`(@q .Jo)|'P'=>`(@q .va)|'A'=>`(@q α)|'V'=>`(.E V)|'J'=>`(@q @n)|'O'=>`(.e6 @h)|'T'=>`(T.nc)|_=>q_n
def z_b(b:Char):q_M:=match b with|'u'=>`(ks v t G H D B I u g0 g1)|'I'=>`(X.prog)|'c'=>`(λq=>(by cases q))|'A'=>`((λ_ _ _ _ _=>mh))|'z'=>`(nodes.length)|'9'=>`((λ_ _ _ _ _ q=>q))|'N'=>`((iu.refl _))|'T'=>`(m.heap.objs.size)|'U'=>`((by grind[kZ]))|'t'=>`(kindS us)|'h'=>`(ps.length)|'O'=>`(r.prod)|'o'=>`(["trees"])|'E'=>`(["reader"])|'r'=>`(#[_,y])|'j'=>`(r.kids)|'F'=>`((λ_=>f'))|'a'=>`((jw _))|'J'=>`(w.length)|'H'=>`(I.tok _)|'w'=>`(s.length)|'C'=>`((·.2))|'P'=>`(["tree"])|'S'=>`((·.1))|'6'=>`(t.kind)|'x'=>`(nodes)|'e'=>`(H b=e')|'m'=>`(Mod mg)|'7'=>`(jE ts)|'8'=>`(jy 1 _)|'K'=>`((j+1))|'5'=>`((n+1))|'n'=>`((.eI .E))|'Q'=>`(@h D.x)|'Z'=>`(V.ref)|'0'=>`(by decide)|'2'=>`((.fp .al))|'g'=>`(@q .Jr)|'1'=>`(.eB .al)|'W'=>`((@L+1))|'p'=>`(@q jX)|'Y'=>`(@q .Js)|'X'=>`(@q iA)|'R'=>`(.aI F)|'3'=>`(@h b)|'4'=>`(.jr h)|'b'=>`(T.tN)|'v'=>`(@q .af)|'f'=>`(D.sl)|'q'=>`(D.dx)|'G'=>`(node)|'D'=>`(ip w)|'B'=>`(I.je)|'M'=>`(this)|'L'=>`(il w)|'V'=>`(jw _)|_=>q_n
def z_c(b:Char):q_M:=match b with|'K'=>`(λD A I s H g Q E c h=>?_)|'A'=>`(#[_,y,y,_,y,?_])|'s'=>`(r.kids.length)|'0'=>`((.dK kvs))|'h'=>`(["tree","number"])|'a'=>`(["base","tree"])|'Q'=>`(us.length)|'I'=>`((us.drop 1))|'F'=>`(X.env.locals)|'2'=>`(q.2.length)|'c'=>`(S.given1)|'b'=>`(S.given0)|'x'=>`(λb o e=>?_)|'8'=>`(M.toArray)|'Z'=>`(g.length)|'k'=>`(["three"])|'D'=>`(kq P w H h)|'y'=>`((d+1))|'L'=>`(#[_,y,?_])|'4'=>`(["byte"])|'G'=>`(kP _ y)|'1'=>`(a.length)|'z'=>`(s.name)|'7'=>`(kM K c.g)|'R'=>`(RelV v u)|'n'=>`(H b=O o)|'O'=>`(xs.size)|'C'=>`(p.more)|'6'=>`((oO T))|'Y'=>`(λ_=>y)|'5'=>`(nt g t)|'T'=>`(H a=e')|'9'=>`(I.bare)|'J'=>`(#[y,y,y,@E,y,by decide+kernel,by decide+kernel])|'p'=>`(Nat->L2.St->.aq)|'U'=>`((.a6 []))|'E'=>`(.ah b=O o)|'S'=>`((.n y))|'X'=>`(iB->iV->.n)|'V'=>`(iA->.E iB)|'e'=>`(a.parts)|'g'=>`(@q .qW)|'P'=>`(@q Rec)|'d'=>`(.h n)|'3'=>`(@q Raw)|'W'=>`(.H a t)|'m'=>`(.h i)|'q'=>`((J 5))|'H'=>`(i6 ?_)|'N'=>`((J 4))|'u'=>`((.kg 0))|'B'=>`(.cm s)|'w'=>`(@h l)|'v'=>`(x=.aX)|'M'=>`((.jg 0))|'j'=>`(root)|'r'=>`(G.Cp)|_=>q_n
def z_d(b:Char):q_M:=match b with|'e'=>`((iP P w C))|'a'=>`((x==("__debug__":iA))=ij)|'U'=>`(.type "list")|'u'=>`((pick U I u))|'7'=>`(∀x∈us,Mx.lJ x)|'G'=>`(p.kids.length)|'d'=>`(k.length)|'1'=>`((.dK []))|'L'=>`((iP P w G.C))|'N'=>`(iF as rs)|'Y'=>`(A.handled=e')|'g'=>`(a.add x)|'h'=>`(Tok.small)|'w'=>`(qi T B I u)|'9'=>`(jB R.r H L)|'O'=>`(Tr F n l d)|'k'=>`(p.length)|'q'=>`(F.recs)|'l'=>`((jt H L))|'Q'=>`(X.base)|'E'=>`(trivial)|'B'=>`(KV kvs g)|'6'=>`(qs.length)|'r'=>`(Nat->Nat)|'8'=>`(p.drop 1)|'2'=>`(v.length)|'W'=>`(s.toks)|'t'=>`(es.size)|'H'=>`(λq=>?_)|'J'=>`((jF iw))|'n'=>`(kM K G)|'c'=>`(H l=e')|'M'=>`((J 6))|'j'=>`(σ[i]? =O (O (@h R.r)))|'R'=>`((EP X @t σ Q))|'5'=>`((.jf n:Key))|'0'=>`((@h l))|'D'=>`(.E Int)|'f'=>`(.cQ<.av)|'V'=>`(.am C u)|'i'=>`(@q jv)|'s'=>`(.h z)|'z'=>`(.jV xs)|'F'=>`(12*.av)|'3'=>`(il .E)|'Z'=>`(H p=e')|'S'=>`(Gl X x)|'A'=>`(iV->.n)|'P'=>`(.a2)|'I'=>`((.js 1))|'b'=>`(.fF)|'v'=>`(.aI S)|'C'=>`(.aX)|'4'=>`(.b7=3)|'y'=>`(.aP a)|'X'=>`([.aX])|_=>q_n
def z_e(b:Char):q_M:=match b with|'m'=>`({s with heap:=D})|'u'=>`(ps.map V.ref)|'7'=>`(sS (show ij=f' from p))|'S'=>`(["trees","which"])|'y'=>`(["text","place"])|'D'=>`((mf x).cps.toList)|'R'=>`(["trees","tree"])|'2'=>`(I.je.fresh (jw _))|'s'=>`(#[_,kP _ y,y,y])|'C'=>`(["self"])|'h'=>`(h.objs.size)|'J'=>`((ps.map jj))|'a'=>`(Rs x H R us)|'Q'=>`(ml B I u)|'0'=>`(o.data)|'8'=>`((K w.params))|'o'=>`((I.ok.hd B))|'B'=>`(nW x H R n)|'f'=>`(λr c=>?_)|'3'=>`(ys.length)|'n'=>`(X.calm=f')|'w'=>`(Nat->Bool)|'k'=>`(r.length)|'K'=>`(l.Nodup)|'6'=>`(L b=O o)|'H'=>`(O (@h R.r))|'L'=>`((iK st.reverse))|'T'=>`((.a3).recs.map .al)|'N'=>`(.g1 (@z+.ac) .ob)|'e'=>`(.O F n)|'b'=>`(.cy .bO)|'Z'=>`(.ji xs)|'X'=>`(@q .aB)|'Y'=>`(.am x v)|'M'=>`(xs++[x])|'V'=>`(@q .JA)|'W'=>`(kF .gN)|'g'=>`(@q pA)|'U'=>`(.b5 us)|'E'=>`(Nat×@n)|'4'=>`(V->.L->.ib)|'d'=>`(.ee=O r)|'z'=>`(Q .d0 L)|'I'=>`(m.name)|'v'=>`(il @h)|'p'=>`(String)|'j'=>`(I.free)|'i'=>`(@q β)|'G'=>`((m+1))|'t'=>`(.kx)|'c'=>`(.jf n)|'P'=>`(.aM+1)|'F'=>`(.fa s)|'1'=>`(.ki w)|'9'=>`(.b6=1)|'5'=>`(@h p)|_=>q_n
def z_f(b:Char):q_M:=match b with|'p'=>`(["desk","call","numbers","text"])|'k'=>`((.dK (iF as U.recs)))|'e'=>`(R.ts.drop n)|'G'=>`(Y.heap.objs.size)|'u'=>`(univ B I u)|'a'=>`(Named.name)|'N'=>`(g.syms.length)|'M'=>`(r.drop 1)|'O'=>`(mg "len"=e')|'D'=>`(Pv i σ H)|'B'=>`(D.nx σ H)|'l'=>`(jM F w l d)|'y'=>`(λp hp=>?_)|'W'=>`(jq F n=O r)|'1'=>`(j8 B I u n)|'X'=>`(t.g.Cr)|'Q'=>`(¬k="end")|'R'=>`(as.length)|'0'=>`(mX B S)|'V'=>`((i9 1))|'b'=>`(m.prod)|'Z'=>`(A=0\/A=1)|'T'=>`((arrOf k))|'9'=>`(λz=>?_)|'L'=>`(X.ex=[])|'C'=>`((e::f))|'5'=>`(oI v .aH p G H S T D B I u)|'2'=>`((.pA l as M.recs))|'o'=>`((pC M))|'3'=>`((.pA L as c.recs))|'m'=>`(.O F m=O r)|'F'=>`(@h @L)|'E'=>`((ij,.eT .M))|'j'=>`((.jg 1))|'Y'=>`((.g4 .al))|'J'=>`(@q WData)|'7'=>`(St->.aq)|'6'=>`((@h f))|'w'=>`(.ag<=@Q)|'A'=>`(.aB a xs)|'v'=>`(.mA i x)|'c'=>`((.ax .ae iY .ai))|'x'=>`(.a7 .cS e)|'K'=>`(r.args)|'8'=>`(p.heap)|'I'=>`(K.In h)|'H'=>`((tD y))|'U'=>`(.M hx)|'q'=>`(rS.nd)|'d'=>`(@Z)|'f'=>`(.ae D)|'g'=>`(.h 0)|'h'=>`(.ja x)|'P'=>`(.j4 0)|'4'=>`(.aI B)|'S'=>`(@h u)|'z'=>`(.ja a)|_=>q_n
def z_g(b:Char):q_M:=match b with|'6'=>`({cls:=.type "tuple",data:=.seq g.toArray})|'5'=>`({cls:=.type "list",data:=.seq g.toArray})|'y'=>`(((tm mask).probeStart h))|'X'=>`(v.cells.lookup C=O c)|'C'=>`(c.filterMap u)|'7'=>`(∀a∈A,tQ h A a)|'i'=>`(["self","kind"])|'N'=>`(X.stack)|'n'=>`(m.attrs.length)|'e'=>`(by cases h;rfl)|'1'=>`(mainGlobals)|'j'=>`(#[_,y,iQ ?_])|'I'=>`((pF T A))|'m'=>`((i9 3))|'g'=>`(isLetter b)|'L'=>`(O .local)|'f'=>`((p8 g p))|'w'=>`((nH _ _))|'h'=>`(isDigit b)|'J'=>`(c.length)|'O'=>`(X.N.Nodup)|'M'=>`(O .cell)|'9'=>`(tY X C E)|'A'=>`((.a9).root)|'Y'=>`(Nat->Nat->.aq)|'3'=>`(α->β->.n)|'G'=>`(.O B n)|'k'=>`(.bH [] .M)|'F'=>`((.dq f F))|'d'=>`(.ah d=O o)|'U'=>`(.Y H .em)|'B'=>`(@n .br)|'x'=>`((.hI .al))|'E'=>`((trim T))|'Z'=>`((∃m,W 0 m (.bI D .ap)))|'u'=>`(#[@z,.cm s])|'V'=>`((@h C))|'R'=>`(.eT .M)|'2'=>`(m.val k)|'D'=>`(Ord F d)|'b'=>`(@q .JE)|'q'=>`(.cE x F)|'s'=>`(.E Rec)|'a'=>`(.E Nat)|'H'=>`(.O S n)|'W'=>`(V->Bool)|'0'=>`(@q .JF)|'p'=>`(pI t H)|'z'=>`(I.size)|'c'=>`(B D=e')|'Q'=>`(V->.aq)|'K'=>`(@q oq)|'4'=>`(.aN sW)|'T'=>`(.aN iB)|'8'=>`(.tC)|_=>q_n
def z_h(b:Char):q_M:=match b with|'a'=>`(if a.parts+x.parts<=60 then O (a.add x,us)else e')|'H'=>`(w.params.followText "set-order")|'R'=>`(["trees","side","numbers"])|'6'=>`(D.get? b)|'e'=>`((by simp only;omega))|'y'=>`(["self","text"])|'p'=>`(t.text.length)|'n'=>`(isPlain)|'N'=>`(t.advance p)|'h'=>`(p.left.name)|'c'=>`(acc (oC e d))|'o'=>`(isDigit)|'q'=>`(t[i]? =O b)|'k'=>`(q.2.drop 1)|'P'=>`(below xs j)|'f'=>`(Production)|'9'=>`(λb l=>?_)|'3'=>`(jQ S n r)|'J'=>`(st.length)|'2'=>`(L.recs)|'Q'=>`((.pA m as g.recs))|'G'=>`((@h p))|'v'=>`(kindS .fe)|'B'=>`(.H o (i9 i))|'C'=>`(.bt=k↔p=f')|'7'=>`(.h6=O o)|'I'=>`((r.id:Int))|'L'=>`(@q Mx.jX)|'T'=>`(.bp F l)|'Y'=>`(.h .aU)|'A'=>`(.cw L)|'U'=>`((.kQ .fo))|'r'=>`((.mb 0 1))|'u'=>`(.jT ps.map)|'z'=>`(.jT qs.map)|'w'=>`(@h R.r)|'E'=>`(.d1 .bZ)|'K'=>`((c.mono @h))|'b'=>`(x.parts)|'Z'=>`(r∈.dq)|'D'=>`((n:Nat))|'X'=>`(.bQ)|'M'=>`(@q .Il)|'i'=>`(@q .ay)|'O'=>`(.aN Nat)|'5'=>`(.am x u)|'j'=>`(wU g p)|'1'=>`(p.prod)|'V'=>`(nY B n)|'W'=>`(jq B n)|'0'=>`(j5 T F)|'S'=>`(@D iG)|'F'=>`(.d1 jj)|'4'=>`(u=jj a)|'8'=>`((jZ e))|_=>q_n
def z_i(b:Char):q_M:=match b with|'G'=>`(a.parts+x.parts)|'Z'=>`((Y iY iw))|'1'=>`(Mx.jC (30-lv))|'U'=>`((R.next x n H))|'v'=>`(kvs[i]? =O (k,v))|'t'=>`((kg P w))|'o'=>`((.dT kvs))|'8'=>`(as[i]? =O a)|'R'=>`(Mx.o (o2 t))|'y'=>`((g.map toV))|'j'=>`(f.names)|'N'=>`(ou g t=f')|'C'=>`((X.sq g W))|'I'=>`(q.1.text)|'i'=>`((i:Nat))|'O'=>`(isBlank b)|'6'=>`(iX P as f)|'J'=>`(Tok.great)|'a'=>`(I.ok.kind)|'b'=>`(Hp->VK->.n)|'m'=>`(@I #[(.a6 [c])])|'W'=>`((.mX 2 1000))|'4'=>`(λz=>.jr z)|'z'=>`(nU X @t b)|'A'=>`((nU X @t))|'k'=>`(g.toArray)|'F'=>`(numOf .ax)|'u'=>`(by decide+kernel)|'Y'=>`(σ[i]? =O .nq)|'w'=>`(Q C @I)|'2'=>`(I.mono @h)|'q'=>`(.a8 .mt)|'g'=>`(V->V->.ib)|'V'=>`((@n .cS))|'r'=>`(jN kvs k)|'l'=>`(f.length)|'S'=>`(["text"])|'E'=>`(I.length)|'K'=>`((n+lq t))|'P'=>`((.js 2))|'H'=>`(.iG<=60)|'h'=>`(jo->.n)|'X'=>`(g=[.a2])|'5'=>`(Mx.jE U)|'p'=>`(H l=.eZ)|'0'=>`((.jg 1))|'B'=>`(#[y,?_])|'c'=>`(.H b M)|'L'=>`(.bJ n t)|'Q'=>`((.cQ i))|'D'=>`(xJ e n)|'9'=>`(m.kids)|'3'=>`(jy 2 _)|'e'=>`(X.mg x)|_=>q_n
def z_j(b:Char):q_M:=match b with|'B'=>`(pick A 1000 2000+pick A g0 g1)|'W'=>`(∀n,n∈o↔Reach (j8 B I u) (ml B I u) n)|'f'=>`(["productions","symbols"])|'8'=>`(λv m#[x,B,D,r1,L]=>?_)|'7'=>`(X.env.scope)|'Z'=>`(DS C v c p H d S)|'O'=>`(["desk","text"])|'J'=>`(Meets B I u m o)|'j'=>`((l::C).length)|'Y'=>`(qV t S T B I u)|'V'=>`(F=B\/F=I\/F=u)|'x'=>`((pick z I u))|'5'=>`(X.N[i]? =O x)|'n'=>`((24<d))|'L'=>`(rH z B I u)|'d'=>`((v.map o9))|'F'=>`(mq B S)|'U'=>`((jQ u n r))|'T'=>`((jQ I n r))|'r'=>`(.live i)|'3'=>`({cls:=.dU,data:=.seq .c8 n})|'4'=>`(@q (@q Key×U×iB))|'K'=>`((.cW 24 .a7))|'A'=>`((.p3 x n m))|'h'=>`((.jg 2))|'y'=>`((.hQ .z))|'u'=>`((tm .aM))|'l'=>`((.a4 lO))|'0'=>`(.pp H p ys)|'6'=>`(Bool->.aq)|'2'=>`((@z a o))|'1'=>`(uZ h.s A)|'q'=>`((lo+t)/2)|'z'=>`((jF .iZ))|'i'=>`((.js 0))|'s'=>`(t.put j)|'G'=>`(o.Nodup)|'Q'=>`(j5 TS S)|'D'=>`(.ic .al)|'p'=>`(.mA i a)|'w'=>`(.ie .bC)|'R'=>`(.gG=O r)|'P'=>`(.eB .BQ)|'9'=>`(sH lo n)|'N'=>`(vy K C)|'o'=>`(vO @h)|'a'=>`(nR c.2)|'H'=>`(M.root)|'I'=>`(M.recs)|'g'=>`(B.left)|'b'=>`((yj G))|_=>q_n
def z_k(b:Char):q_M:=match b with|'d'=>`(g x σ L λl I=>M {D with nx:=N,ct:=N,bk:=D.nx} l I)|'c'=>`((∀r L,N r L->∃u,u<m/\W (i+1) u r L))|'2'=>`(lR (λh=>?_) λh=>?_)|'H'=>`((by unfold ni;omega))|'z'=>`(acc.length)|'K'=>`((Expr.app m [x,C]))|'B'=>`((∀u∈g,sG A u))|'R'=>`(SIGNS.contains b)|'Y'=>`(by grind[iG])|'u'=>`(A.units+1<cLine)|'P'=>`(symOf g n.name)|'5'=>`(U.length)|'X'=>`(λσ' I q=>q)|'V'=>`(x.cps.toList)|'r'=>`(putK kvs k v)|'M'=>`(t.small=f')|'v'=>`(vw I.je e)|'8'=>`(jB.refl _ _)|'g'=>`(#[us,[]])|'O'=>`(l[i]? =O x)|'b'=>`(W i m σ H)|'4'=>`(#[y,y,y,y])|'x'=>`(kg .bI X.w)|'k'=>`(.af "tuple")|'E'=>`((.aK).length<.av)|'T'=>`(#[(.a6 [b])])|'s'=>`(@q Key)|'m'=>`((own.map .bC))|'Q'=>`((@z+·))|'i'=>`(.gp a @L f l)|'a'=>`((.ph s D x))|'A'=>`(.bH [e] .M)|'W'=>`((kJ .ae))|'q'=>`(upd w D .ap)|'6'=>`(g.mono @h)|'y'=>`(.af "dict")|'I'=>`(ts.drop 1)|'S'=>`(qy mg u C)|'C'=>`(L2.kF .gN)|'t'=>`(H a=O .c0)|'1'=>`((Y n6 iw))|'w'=>`(@q .pO)|'Z'=>`(@q .eE)|'J'=>`(O (b,us))|'7'=>`(.aM f us)|'f'=>`(.aN=.cZ)|'U'=>`(txt .ax)|'j'=>`(a.names)|'o'=>`(W i m H)|'h'=>`(Q .dP L)|'N'=>`(O (t,r))|'G'=>`((ni ts))|'e'=>`((g i j))|'0'=>`(.gL x l)|'9'=>`(s i=f')|_=>q_n
def z_l(b:Char):q_M:=match b with|'E'=>`(oo (xs.map V.int) (some (((place:Nat)+1+(n:Nat):Int)+1)) (some (((place:Nat)+1+(n:Nat):Int)+1+(z:Nat))))|'6'=>`(λl I=>M {D with nx:=Pv (i+1),ct:=Pv (i+1),bk:=D.nx} l I)|'9'=>`({s with toks:=s.toks+1})|'o'=>`(hk H w (g b))|'x'=>`((λz=>2::z))|'p'=>`(["trees","side"])|'W'=>`(behindInMarks m b=ij)|'B'=>`(["self","base"])|'7'=>`((∃m,W 0 m σ H))|'H'=>`(s.b.rec g.b.nd)|'v'=>`(DecidableEq α)|'0'=>`(λb l=>(Q b l).1)|'Q'=>`(X.mM.heap.get? b)|'j'=>`((32::t9 r.num))|'s'=>`(B.root)|'d'=>`(by grind[iK])|'A'=>`(B.length)|'m'=>`(p.perturb)|'C'=>`(["calls"])|'4'=>`(J.pq i H x L)|'N'=>`(o.ExactDict)|'r'=>`((by intro z;cases z))|'q'=>`((.q (60<.ac)||.q .jn))|'V'=>`(Inv X @t r L p)|'f'=>`((iE (iR .ad)))|'w'=>`(Rec.kids)|'i'=>`((.iT B .fk))|'g'=>`(@L [.Jh,.aX])|'G'=>`(.cm (.bJ 0 q))|'c'=>`((.b1).Nodup)|'y'=>`(["merge"])|'z'=>`([.bQ,.ds])|'O'=>`(.aP b=O u)|'P'=>`(λ_ _ q=>q)|'8'=>`(iB->Sem iB)|'X'=>`(o.cls=.kk)|'M'=>`(h.good A)|'5'=>`(Pv 0 σ H)|'Z'=>`(Nat->.f7)|'3'=>`(J.go i H)|'T'=>`(.ac g us)|'Y'=>`(.aJ a xs)|'l'=>`(λx=>?_)|'K'=>`(n∈.fu)|'F'=>`(Mx.lI q)|'b'=>`((.be H))|'u'=>`((@h U))|'a'=>`(.a8 .zO)|'L'=>`(.g7 .a3)|'h'=>`(.ji .eL)|'R'=>`(.Y L p)|_=>q_n
def z_m(b:Char):q_M:=match b with|'u'=>`((notedBy (model H w) A env λe p=>R (.error e) p))|'Y'=>`(places (g.syms.map lU) (kD p))|'U'=>`(p.left::p.kids)|'8'=>`((i:Int))|'x'=>`((X.pz Y A a f t))|'2'=>`(m.num.getD 0)|'X'=>`((mD s).Nodup)|'f'=>`((ps.zip us))|'N'=>`(λ#[c,A]D=>?_)|'L'=>`(opNext row ts)|'i'=>`(by simp at h)|'h'=>`(Passes B X E)|'I'=>`(c.heap)|'P'=>`(.ok (x,us))|'S'=>`((tokens a))|'9'=>`(R.ts.length)|'B'=>`(D.objs.size)|'t'=>`({cls:=.af "dict",data:=.d7 (.a6 [])})|'G'=>`(.a8 {cls:=.af "dict_keyiterator",data:=.a5 (.a6 [@h d,.h 0 0,.h .a5 0,.h ep 0])})|'T'=>`(@q (.ay×Nat))|'d'=>`(@q (iA×iB))|'3'=>`(.aB a (l4 t))|'1'=>`(pK g @z ts)|'y'=>`(@q (.ks×V))|'v'=>`(λ_ _ D=>D)|'7'=>`(run pE t i)|'5'=>`(run oz t i)|'z'=>`(Rd H a .c0)|'6'=>`(L2.St->.aq)|'H'=>`((pf K h A))|'K'=>`((X.hand e))|'O'=>`(ki e d ts)|'Q'=>`(Tok->Bool)|'D'=>`((.aD d u))|'4'=>`(.aS<=4000)|'r'=>`(vals1 r)|'b'=>`(lS X.K C)|'R'=>`(Nat×.ay)|'j'=>`(N.length)|'q'=>`(M.length)|'a'=>`(K.In .O)|'0'=>`(#[?_,?_])|'F'=>`(.nh f ep)|'A'=>`(.H i ty)|'W'=>`(s.attrs)|'J'=>`(callerA)|'s'=>`([.ap a])|'n'=>`((j:Int))|'l'=>`((@h t))|'w'=>`((@h D))|'c'=>`(.Y H p)|_=>q_n
def z_n(b:Char):q_M:=match b with|'5'=>`(iF (as++[x]) (u++[r]))|'2'=>`(["root","nodes","instead"])|'a'=>`((V.str.inj q))|'8'=>`(λa b q=>?_)|'Q'=>`(Mx.MProd.name)|'w'=>`(m.kids.length)|'J'=>`(tA _ _ _ _ q)|'R'=>`(kindS (l::C))|'9'=>`(by grind[xN])|'6'=>`(v.1.isSome)|'p'=>`(#[y,_,y,?_])|'q'=>`(O (@h X.x))|'b'=>`((.mX 1 1000))|'H'=>`(∀H L x C,.I->.Jt)|'U'=>`(Mx.mC (.c2+1) q.2)|'F'=>`(Hp->V->V->.n)|'t'=>`((@I .B4))|'4'=>`((@z g .d1))|'i'=>`((@I .bt))|'j'=>`(p=ij->.a9 H)|'K'=>`((.jR n))|'X'=>`(sj t H x F)|'D'=>`(["symbol"])|'k'=>`((λhp=>?_))|'W'=>`(.jU r.kids)|'M'=>`(["names"])|'Z'=>`(.b3 F o n)|'0'=>`(.ac<=4000)|'v'=>`(jt H L b)|'7'=>`((.aE rJ))|'E'=>`(@q Item)|'y'=>`(g=[.cw])|'h'=>`(Mx.lJ x)|'n'=>`((.uL).1)|'3'=>`((.js 4))|'I'=>`((.js 3))|'u'=>`((@h r))|'Y'=>`(.au .bO)|'1'=>`(.bj++st)|'f'=>`(@h X.x)|_=>q_n
def z_o(b:Char):q_M:=match b with|'n'=>`(v.getD (t.probeStart (hk prog w (kf b))))|'N'=>`(o.filterMap (j8 B I u))|'T'=>`((redirect (putAt n L.root) (pO F L.recs)))|'b'=>`((l++[q.1]))|'3'=>`(#[#[C,x,l,B,a,m,r],t,v,[],[]])|'x'=>`(["tree","number","symbol"])|'C'=>`((valN t S n=valN t B n))|'L'=>`(["trees","number"])|'t'=>`(order w d ep f)|'m'=>`(t.place[i]? =O j)|'q'=>`(by kernel_rfl)|'1'=>`(yK S g T A n m)|'2'=>`((vN T).isEmpty)|'H'=>`(r.Pairwise Ag)|'6'=>`(h'.get? b=O u)|'y'=>`(by grind[ku])|'Y'=>`((lz M).recs)|'z'=>`((@E (pick side [@h C,@h D.a1] [@h D.a0,@h C])))|'i'=>`(bits h%(.a8+1))|'D'=>`((.pA l as B.recs))|'X'=>`(∀n∈o,n∈.fu)|'A'=>`(.bj A [node])|'B'=>`(.au s.prod)|'Z'=>`((by ext aD))|'a'=>`((.bL p .d1))|'e'=>`(.dK (.fj (.cm .ob)))|'P'=>`((place:Nat))|'p'=>`(yQ (.a5+1))|'o'=>`(o.ExactSet)|'M'=>`((cut g H2))|'F'=>`(z.headD 0)|'R'=>`(place+1+n)|'j'=>`((.cA p).j)|'v'=>`((.h .m8))|'9'=>`(I.qz x c e)|'8'=>`(I.ok.above)|'w'=>`(z=0\/z=1)|'E'=>`(om B S n)|'G'=>`((.lm as))|'7'=>`(xf (O u))|'W'=>`(rf.prod)|'S'=>`(k∈.bj)|'I'=>`(g=[.bQ])|'g'=>`((.f6 h))|'O'=>`(.hR .a3)|'K'=>`(.ss=O p)|'u'=>`(.h .aY)|'0'=>`(.fx .hX)|_=>q_n
def z_p(b:Char):q_M:=match b with|'F'=>`((cellsFrom (Y.heap.objs.size+1) a.names (oE X.env.cells a.names [])))|'h'=>`((∀b∈t,L b=e'))|'Z'=>`(λx v=>h x (nD _ v))|'u'=>`((by rw[e];exact xG))|'W'=>`(∃p,kvs[i]? =O p)|'8'=>`((λb o q=>Cv _ q))|'3'=>`(WellAll P h g Q)|'P'=>`(L d=O (.iT l u))|'O'=>`(Key×iB)|'G'=>`(KT H kvs xs)|'v'=>`((start N g))|'f'=>`(((0:Nat):Int))|'S'=>`(H d=O (.cJ .c0))|'c'=>`(X.fn x=f'\/.ku x=.gL)|'Q'=>`(l.data=.d7 f ep)|'T'=>`((@L [kV k,v]))|'I'=>`(.jV (k.map kV))|'4'=>`(by cases x;exact#[[],.dE,λa m=>.Z m @I])|'E'=>`(λ_ _=>False)|'y'=>`(.aN (.E iB))|'6'=>`(h.Ns .g1 mg)|'D'=>`(f.getD i ij)|'j'=>`(!xs.isEmpty)|'V'=>`((yz d o kvs))|'X'=>`((Fe d o kvs))|'Y'=>`((Fc d o kvs))|'M'=>`(lZ H a C o)|'J'=>`(λx v=>?_)|'5'=>`(vV "list")|'b'=>`(Loc .j7 x)|'7'=>`((wO .mI H))|'U'=>`(.nh es ep)|'A'=>`(z.length)|'p'=>`(jx f v w)|'d'=>`(PT X a f)|'B'=>`(J.typeIs)|'m'=>`(C.length)|'e'=>`((@E xs))|'a'=>`(.cE->.h7)|'i'=>`(.L->.ib)|_=>q_n
def z_q(b:Char):q_M:=match b with|'Q'=>`(["reader","expression","closing"])|'L'=>`((mF "end").cps.toList)|'l'=>`(#[x.parts,x.occs,x.usesOwn])|'q'=>`(s.attrs.find? λx=>x.1==a)|'P'=>`((jY.put _ _ _ _ _ _ _))|'M'=>`(qA x l H R X n a lv)|'Z'=>`(["reader","kind"])|'D'=>`(xB.contains b=f')|'r'=>`(nameFlaws g p r)|'3'=>`(["holds"])|'W'=>`(Mx.jv)|'u'=>`(λp=>p.name==c)|'X'=>`((txt c.2))|'2'=>`(λσ' H2 q=>q)|'T'=>`(#[_,y,_,y,?_])|'f'=>`(.ad 45 ts)|'d'=>`(sY e .cy 41 .fM)|'m'=>`(g.syms.map lU)|'S'=>`(.q (0<d))|'6'=>`(H D=.ji ys)|'5'=>`(.af "set")|'U'=>`((@n (@n y)))|'s'=>`(.ad 40 v.2=f')|'k'=>`(.c7 λl _=>?_)|'B'=>`([.ja a,.jh i,.jh j])|'R'=>`([.eH,.nq,.kC r,.jh n])|'O'=>`(k.cps.toList)|'J'=>`((.mX 4 1000))|'x'=>`(mZ p (b::r))|'i'=>`((.dg).parts)|'7'=>`((.mb 2 3))|'G'=>`(qc .ho t i)|'E'=>`(qc .hn t i)|'o'=>`(kL .dh .aC)|'y'=>`(b::.fU .hn)|'1'=>`(Ext.refl _)|'9'=>`(.n #[y,y])|'A'=>`(run p t i)|'a'=>`(oC e d ts)|'8'=>`(S.map .z0)|'H'=>`(Bz K mg x)|'I'=>`(BM K mg l)|'4'=>`((c.1:Int))|'Y'=>`(@q Mx.oh)|'n'=>`(t.1.text)|'V'=>`(ka x H L)|'p'=>`(S.length)|'h'=>`(O (c,us))|'g'=>`(O (b,ts))|'b'=>`(NEST≤d)|'v'=>`((lq t+i))|'0'=>`(.aM pW g)|'t'=>`(.mh 41 A)|_=>q_n
def z_r(b:Char):q_M:=match b with|'D'=>`(iK mi.kids++[V.int ((first:Int)+(l.length:Int))])|'N'=>`(insertAt t.place (below t.place j) j)|'T'=>`(D.push (seqObj "list" g.toArray 0))|'5'=>`((if S.root=B.root then[]else[[-1,0]]))|'J'=>`(∀r∈F.recs,r.num.natAbs<10^18)|'Y'=>`(λx=>if x=p.id then n else x)|'C'=>`(["text","grammar","first"])|'8'=>`((mX B S).flatMap (vp B S))|'7'=>`(oa t B S)|'I'=>`((.dK (pP [(U.root,1)])))|'r'=>`(["reader","above"])|'s'=>`((λp=>p.name==n))|'g'=>`(t.P.length)|'k'=>`(F.recs.length)|'2'=>`([((.jf p.id:Key),@Z .aY)])|'l'=>`({r with kids:=.aO f})|'j'=>`((by intro _ z;cases z))|'u'=>`((.pA l as rs))|'L'=>`(ro (.aO .vY))|'P'=>`(.e0=.set es ep t)|'E'=>`((.jf r.id:Key))|'O'=>`((.h9 (O .bJ)))|'m'=>`((.kg (f root)))|'H'=>`((Y .aE iw))|'4'=>`([(.d5,.jq L)])|'V'=>`(A≠0/\A≠1)|'3'=>`(jl .jB s)|'W'=>`(λH1 s1=>?_)|'R'=>`(left.length)|'1'=>`(aa.trans s2)|'q'=>`((Ext.upd y))|'z'=>`(ud t .cB)|'v'=>`(t.want .bO)|'b'=>`(qO p as xs)|'h'=>`(iX Q as rs)|'S'=>`(Calm w f t)|'y'=>`(@q (U×U))|'a'=>`(z.2.2 B u)|'0'=>`(xI h.recs)|'c'=>`(boot_dict)|'i'=>`(H d=O .c0)|'o'=>`((mw f F'))|'U'=>`((@M .a6))|'B'=>`(.lA<=4000)|'9'=>`(uD t B S)|'X'=>`(mG .a9 n)|'M'=>`(f.toList)|'Q'=>`(as.map g)|'f'=>`((kJ .ad))|'6'=>`(.cE xs S)|_=>q_n
def z_s(b:Char):q_M:=match b with|'E'=>`(oo (xs.map V.int) (some ((place:Nat)+1:Int)) (some ((place:Nat)+1+(n:Nat):Int)))|'b'=>`((λ_ _ _ _ _=>l7 (Y (pC M) (Y (J 3) (Y iY iw)))))|'C'=>`(["trees","call","which"])|'Q'=>`((tupleKind (kg P w)))|'s'=>`(qL B I u n)|'B'=>`(["desk","base"])|'c'=>`(xc t H l C r1 r2)|'O'=>`(Fb t T B I u m o)|'D'=>`(["desk","call"])|'v'=>`(Apart t G H x M)|'o'=>`(qD s K st o m)|'f'=>`(["three","k"])|'w'=>`(M.recs.length)|'x'=>`([.h 0,.h 1])|'R'=>`((show .aP a=O _ from x))|'6'=>`(∀x,.h7 .M x=pure x)|'t'=>`((.oN).map .al=o)|'d'=>`((.pj B n p))|'8'=>`(#[n-.ah,.t,y,s,v])|'J'=>`(L.recs.map .al)|'Y'=>`(λi h D st k=>st.at .q)|'u'=>`((.kg (rt:Int)))|'U'=>`((TP X @t σ Q))|'K'=>`((.dj L.root))|'W'=>`(x≠"__name__")|'3'=>`(D.je.fresh .ba)|'H'=>`(.O T n=.ee)|'Z'=>`(by simp;omega)|'P'=>`(by grind[upd])|'S'=>`(I.ok.bs b o e)|'I'=>`(λk hk=>?_)|'A'=>`((.a3).root)|'4'=>`((a-lo).toNat)|'T'=>`((.ph s D t'))|'7'=>`(λx L C=>?_)|'2'=>`(iD K B a xs)|'N'=>`(State×FJ)|'g'=>`((Di C3 t))|'G'=>`((@E .Ip))|'j'=>`((.mb 0 2))|'V'=>`(λ_ _ x=>x)|'5'=>`(J.stop i H)|'9'=>`((nj r t M))|'X'=>`(.h (lo+i))|'p'=>`(o.length)|'y'=>`(["told"])|'M'=>`(CL T f l)|'L'=>`(.ee=O rf)|_=>q_n
def z_t(b:Char):q_M:=match b with|'C'=>`(λ_ _ _=>False)|'h'=>`(oE X.env.cells f.names [])|'p'=>`(s.heap.IsKeyIter C d i n ep)|'z'=>`((g.toArray.toList.map toV))|'G'=>`(#[?_,?_,?_,?_,?_,?_,?_])|'X'=>`(acc (ki e d) a ts)|'g'=>`(#[.bl _,H,I,y,?_])|'a'=>`((A.under (.aj "type.__call__" #[@h C::us,a])))|'i'=>`((∀L,c L->∃u,u<m/\W .ah u L))|'j'=>`(λm=>.q (m.1=k))|'8'=>`(g.prods[i]? =O p)|'d'=>`(((p,w)::P.zip g))|'v'=>`(λi H=>.pS/\.aN<=i)|'S'=>`(Jb e d @h @h @h)|'t'=>`(λi H=>.pS/\i<.aN)|'e'=>`(V->.dD->.dD->.ib)|'T'=>`(.pS v (lV v 5) l)|'I'=>`(wordNext wIf ts)|'w'=>`(B d=O (.cJ .c0))|'O'=>`(AW (ts:=ts) @h)|'3'=>`(s.downs++s.ups)|'4'=>`(p.rules.length)|'Z'=>`(p.kids.map .fa)|'H'=>`(l5 y λs M=>?_)|'f'=>`((by grind[DI]))|'2'=>`(.di×@q MProd)|'K'=>`(.qf||.ad 33 ts)|'P'=>`(lV t row b ts)|'5'=>`((mD s).length)|'k'=>`((kvs.any .tj))|'J'=>`((here 5 e ts))|'Q'=>`((acc (.fS d)))|'n'=>`((oG kvs more))|'L'=>`(λ#[c,A]D=>y)|'D'=>`(p.data=.a5 g)|'x'=>`(by grind[kj])|'o'=>`(by grind[kZ])|'6'=>`((.gf).length)|'U'=>`(.E (Nat×R))|'Y'=>`(ly e d a ts)|'q'=>`(O (.cJ .io))|'7'=>`(z9 g p k a)|'B'=>`(us.toArray)|'9'=>`(prodOf g c)|'A'=>`(pf K h A b)|'M'=>`(callOf .ax)|'m'=>`(atKey xs k)|'F'=>`(.cb e b ts)|_=>q_n
def z_u(b:Char):q_M:=match b with|'3'=>`(["self","name","left","holds_number","children","rules"])|'5'=>`(["self","production","value","children"])|'4'=>`(["self","symbols","productions"])|'2'=>`(["self","target","expression"])|'L'=>`(Mx.jC (31-lv))|'7'=>`(["self","tree","conflicts"])|'0'=>`(["self","name","down","up"])|'b'=>`(λi=>O (#[i,v.1,[]],v.2))|'6'=>`(["self","root","nodes"])|'R'=>`(((lM wz++lM uk)++lM vl))|'B'=>`(qN C x E k R n H Q)|'S'=>`(jz.of iG)|'x'=>`((X.put l p lv b H))|'y'=>`(["self","levels"])|'F'=>`(B.qN m e T hk D M)|'h'=>`((by rw[mB];omega))|'E'=>`(∀L,.cS a lv .cI (s+1)->.cw L->.Jf)|'N'=>`((jf (iS G hr iI (.mb 0 1))))|'z'=>`(H q=O (@L [.h c.1,@I .qX]))|'l'=>`(qT .bI X.w X.K d kvs)|'e'=>`(.h4 (.dd+2) J s)|'A'=>`(zc (ok x jO) .E)|'f'=>`(rZ g (rprod g t))|'d'=>`(mostLevels<.dd+1)|'U'=>`([.eH,.nq,.j1 T,O .nt])|'C'=>`(∀L,.hA->.a9 L)|'g'=>`(by rw[lq];omega)|'j'=>`(∀x∈ts,lJ x)|'a'=>`(p.own=l.isSome)|'O'=>`((tf.mp (C0 q)))|'c'=>`(.E (.bp×.H))|'G'=>`((B.put _ _ _))|'Z'=>`(("target":iA))|'D'=>`(.hA->.aV L)|'k'=>`(by grind[vf])|'t'=>`(by grind[qc])|'V'=>`(by grind[jt])|'i'=>`(D' n _ _ @h)|'M'=>`((zu C x l j))|'K'=>`(.bt="number")|'W'=>`(Mx.uo .fe)|'Y'=>`(("name":iA))|'P'=>`((.ko M.err))|'J'=>`(.Z q.1 .Fw)|'q'=>`(λD hD=>?_)|'v'=>`(b::.h5 .ho)|'s'=>`(b::.h5 .hn)|'Q'=>`((.m6 M af))|'m'=>`(.jj t.text)|_=>q_n
def z_v(b:Char):q_M:=match b with|'W'=>`(iF (vx n C as U.recs) (U.recs.map (kX n z)))|'a'=>`(Mx.MProd)|'c'=>`(["expression","production","places"])|'K'=>`(mu R.r v H L)|'Y'=>`((ko t U j))|'V'=>`(["tree","number","value"])|'E'=>`(["tree","number","other"])|'n'=>`(["production","places"])|'A'=>`(r.kids.contains n)|'L'=>`(["reader","grammar"])|'R'=>`(Mx.vt g ts=wy t.P ts)|'l'=>`(tf.mp (V.str.inj D))|'y'=>`(λr=>(r.id:Int)==z)|'s'=>`((Mx.oU S n).isSome)|'r'=>`((S.length:Int))|'M'=>`(wH t.P x.text v.1)|'Q'=>`(jP 41 us=f')|'b'=>`(∀x∈us,x∈ts)|'T'=>`(iK (A1 (λx=>@z+x) st).reverse)|'H'=>`(.pm C g (iF (as++[x]) (u++[r])))|'X'=>`(.an (.dw e "values" a) [] [] C)|'N'=>`(E (@h .an) e' L)|'U'=>`(upd aa I.2 (@E .rD))|'Z'=>`((@L [.h .ii,kV k]))|'g'=>`(.an (.lK r) [e] [] c)|'9'=>`({t with place:=.rN,dummies:=.cU,plain:=pl})|'x'=>`(H x=.pi g (.h .a7) (@h k))|'f'=>`((∀b o,.cE->.h7))|'5'=>`(insertAt xs p x)|'S'=>`(upd H9 p .oe)|'i'=>`((by grind[DK]))|'J'=>`((.dE Mx.isNum))|'e'=>`((.aj "sorted"))|'0'=>`(lp .a8 13 .AE)|'p'=>`(u.map (vA U))|'o'=>`(t.map (vA U))|'j'=>`((.pp L D ys))|'w'=>`(λm=>kV m.1)|'q'=>`(["symbols"])|'I'=>`(Mx.oV st us)|'v'=>`((jt H3 L))|'B'=>`((.iT l .fk))|'O'=>`((@z k .ru))|'d'=>`(ss.map .bZ)|'P'=>`(s[i]? =O m)|'1'=>`(jL t .eG p)|'m'=>`(["places"])|'h'=>`(FL .bI X.w)|'u'=>`((Y .jh iw))|'C'=>`(.bg U.recs)|_=>q_n
def z_w(b:Char):q_M:=match b with|'T'=>`(.dK (iF (as++[x]) ((c++[n]).filterMap u)))|'x'=>`(["trees","grammar","side","number","text"])|'z'=>`(((pick U g0 g1:Nat):Int)+(c.length:Int))|'t'=>`(["trees","side","number","value"])|'v'=>`(["trees","side","number","other"])|'o'=>`(by rcases c with rfl|rfl<;>rfl)|'w'=>`(["trees","side","number"])|'f'=>`({s with toks:=x})|'K'=>`((oW B S).map (lb 4))|'e'=>`((hk H w (g a),jj a))|'I'=>`(by grind[iu.refl])|'O'=>`(upd (.pm ac m (iF ab S.recs)) D (@E .HH))|'N'=>`(upd (.pm aa l (iF u B.recs)) D (@E .HF))|'3'=>`((.q (60<(.a3).recs.length)||.q .jn))|'a'=>`(lp .aM 13 ((.gy).i,(.gy).perturb))|'g'=>`((.cA (.f6 .lo)).j)|'7'=>`([.h 9,.h 10,.h 11,.h 12])|'4'=>`(iQ #[_,y,@Z,.h])|'W'=>`((o8 t B I++o8 t B u))|'k'=>`(.an (.lK p2) [e] [] ER)|'V'=>`(.q (1<(.HQ).count n))|'6'=>`([.h 6,.h 7,.h 8])|'i'=>`(.en d (y3 I c))|'E'=>`(mg "ROOTS_PLACE")|'S'=>`(kH C.kids.length)|'c'=>`(hk prog w (kf b))|'B'=>`(g=[@h u,@h xs])|'Z'=>`(EC t B I u .a3 r)|'J'=>`((.r7).map (lb 1))|'8'=>`(∀p n k,.BI->∃q,jN kvs (iO p)=.ja q/\.JB)|'s'=>`(.dK [(.d5,.jq m),(.jf m,@Z .aY)])|'p'=>`((.ax .aE @M .ai))|'A'=>`([.aY,(k:Int)+1])|'d'=>`(.e0=.set f ep t)|'L'=>`(.ri H4 D p1.map p2.map)|'G'=>`(λz=>!isRoot z)|'y'=>`(M.no "len" .E)|'u'=>`((V.int.inj q))|'9'=>`((.ak D x .H9))|'R'=>`(@E [@h D.b])|'5'=>`([.aD,@h tl])|'X'=>`((wG t B I u))|'H'=>`((.r7).length)|'n'=>`(upd C l .hQ)|'j'=>`(Calm w es t)|'Q'=>`((.pj u n p))|'P'=>`((.pj I n p))|'U'=>`(.az g .wT)|'r'=>`(.bj A [a,b])|'b'=>`((es.map .bS))|'2'=>`(js B I u o)|'F'=>`(S.root=.ls)|'l'=>`(.bg g.recs)|'D'=>`((iK (kH n)))|_=>q_n
def z_x(b:Char):q_M:=match b with|'o'=>`((t.gt.keep t.sub TG).choose_spec.choose_spec.choose_spec.2.2)|'D'=>`(∃M,D.get? b=O {o with slots:=M})|'S'=>`({nx:=λ_ L=>Q .iM L,rt:=Q})|'0'=>`(M.toArray.size+m.toArray.size)|'j'=>`([((2:Int),(-1:Int),(0:Int))])|'R'=>`((wQ B P w K mg h N qual a f D A c s H E))|'4'=>`((.ListComp ac [#[tg,iter,ae,0]] a af))|'N'=>`((ql K a).pq i H x L)|'v'=>`(∀f,pj (c.lookup f) (m f))|'l'=>`(λx=>!K.contains x)|'M'=>`((ql K a).stop i H)|'C'=>`(∀b∈ch,(.k5 b)/\b≠.cF/\(∀x c,.cq x=O c->c≠b)/\∀p∈X.pn++@t,p.1≠b)|'T'=>`({k with heap:=k.heap.push {cls:=.af "slice",data:=.a5 (.a6 [p,C,.none])}})|'1'=>`({cls:=.af "list_iterator",data:=.a5 (.a6 [@h l,.h 0 0])})|'a'=>`(((place:Nat)+1+(n:Nat):Int))|'X'=>`(typeOf (.aj id)=pure (.af "method_descriptor"))|'m'=>`(pick A 1000 2000+pick A .cb .cc)|'u'=>`(.aN<=@Q/\.jN a/\∃g,.dB/\h.DictOf .it a g)|'Y'=>`(.ek o c .M (eval o .M)=eval o .M)|'f'=>`(∀r∈F.recs,.bO<.rg)|'w'=>`(O {cls:=.none,data:=.a5 ps})|'P'=>`((.a8 xo).push (yL C @L))|'k'=>`(s.a0.rec g.a0.nd)|'Z'=>`((t.endLine==C.line)=f')|'5'=>`({cls:=.dU,data:=.seq ([]:.Y).toArray})|'W'=>`(sliceBounds lo t e' n)|'t'=>`(λ_ q=>.Z y q)|'p'=>`(Cz S g T A n v)|'I'=>`((.UnaryOp .Not a T))|'z'=>`(∃u,h'.get? e=O u)|'J'=>`(l @t m σ B Q D L)|'b'=>`((p::.b2 n)::B)|'B'=>`(X.base.get? b=O o)|'s'=>`(λq=>.Z y q)|'U'=>`(k.heap.objs.size)|'9'=>`(Pv 0 (.bI D .ap))|'F'=>`((σ.set i (O v)))|'A'=>`((M b _ q λz=>z))|'r'=>`(((p::w)::M))|'K'=>`((.Jm).objs.size)|'n'=>`(.bA .cb .cc)|'L'=>`(λp Q=>.cr .q)|'O'=>`(mO X (.bn m) r)|'x'=>`(e=x\/H e=.ka x)|'3'=>`((.rv a cl C t))|'h'=>`(tK @z i m)|'i'=>`(q.rec L.nd)|'q'=>`((.c6).root)|'g'=>`((.gF).recs)|'c'=>`(#[.a7,.hT])|'G'=>`((.fQ H Q I p))|'7'=>`((.rv c Q C t))|'6'=>`((.rv a c C t))|'E'=>`((.ph s h' t'))|'2'=>`(.c6 .eh v acc)|'Q'=>`(.sb B a C l w)|_=>q_n
def z_y(b:Char):q_M:=match b with|'l'=>`((xC x qual (zC st) (wo st) (i4 st) .none kV p B q D T))|'K'=>`(O ({a with occs:=a.occs++[(0,t.text)]},r))|'f'=>`((((xk ..).extBut.push _).push _))|'O'=>`(λq=>(lD w q.2).bind λv=>k q v)|'V'=>`(s.ups.map (λa=>(0,a))++o4 1 r)|'t'=>`(Un X.fs [] X.vG H X.mM.heap D)|'R'=>`(∀k∈p.kids,k.name∈w9 m)|'n'=>`(∀d∈Q,d.weight<=1048576)|'C'=>`({a with parts:=a.parts+1})|'g'=>`((λb ob l e=>eb b ob l e))|'5'=>`((o6 g c l).getD 0)|'e'=>`((.dK (oG [] kvs)))|'T'=>`(∀x∈l,p x=f'->q x=f')|'P'=>`(Expr.app Op.ite [c,t,f])|'a'=>`(w l I λb h=>if b=f' then f l h λC T=>∃acc,T D=O (@E acc)/\.kz<@Q/\Pv .ah (.pa T D (acc++[C]))else Pv .ah h)|'d'=>`(zP .O b (.a6 [u,q.2])/\qQ q.1 u=f')|'2'=>`(.h4 (.dd+1+1) (.bz+1) (v.2.drop 1))|'7'=>`(readTree h (2*.av+2) 1 0 ts)|'I'=>`(il (show¬.b7≤2 by omega))|'s'=>`((p.cls=@h C/\g[0]? =O x))|'Y'=>`((.mU).map .fa)|'J'=>`(λus=>O (q.1,q.2.1,us))|'H'=>`(.pS (r5 v) (lV (r5 v) 4) l)|'v'=>`(∀b o,.cE->b∈.eW->.xD)|'3'=>`(.dC (a::k) (.ok (t,J,A)))|'u'=>`(∀b o,.cE->b∉t->.h7)|'z'=>`(F.bi _ _ _ @h @h @h)|'G'=>`(p ts>>=λx=>q x.1 x.2)|'S'=>`(∃s∈g.syms,.cz=n)|'X'=>`(targetFlaws g p r i)|'j'=>`({m with heap:=.As})|'Z'=>`((.q:n.name∈.yY))|'q'=>`(c.heap.get? b=O o)|'L'=>`(by grind[eatSign])|'9'=>`(tokensFrom n p t)|'k'=>`(.Pass #[0,0,0,0])|'6'=>`((p7 n l).map .kQ)|'1'=>`(.gH (.bx++[q.1]))|'E'=>`(vd t row f b ts)|'4'=>`((.JK++.bJ .bz t))|'c'=>`(.aN+more.length)|'m'=>`(rL (c.enc a.1))|'0'=>`(prodNumber g c)|'Q'=>`(g.prods.map kD)|'x'=>`((by grind[sN]))|'F'=>`((.app m [x,C]))|'M'=>`(.ca (.eX×.H))|'y'=>`(wordNext w ts)|'B'=>`(sY e .cy 93 r)|'A'=>`(mj e row d ts)|'8'=>`((treesOf g l))|'W'=>`((.Er).map .fa)|'i'=>`(#[_,.cG,y,?_])|_=>q_n
def z_z(b:Char):q_M:=match b with|'x'=>`(λσ' I=>∃u,u<U.length/\W u σ' I)|'0'=>`(Mx.jv.name)|'g'=>`(λaj A ak s H vs Q E hr h=>?_)|'e'=>`(λaf A ag s H vs Q E c h=>?_)|'J'=>`(λv H9 B9 hv u9=>?_)|'i'=>`(by unfold kG.next;grind[iC])|'A'=>`(∃x,H b=O x/\isTup x=f')|'S'=>`(g.filterMap Mx.oh.target)|'b'=>`(by grind[takeWhile_all])|'a'=>`(by grind[mZ,tokensFrom])|'H'=>`(Bh (t:=t.1) (us:=t.2) D)|'O'=>`((uW led))|'r'=>`(λus=>O (q.1,us))|'s'=>`(ir (show¬.aa .bt=.aa "number"from λq=>hk .na))|'E'=>`(p=f'->∀L,Rs x L R .cI->.d9->.Jf)|'u'=>`(Mx.uu (.q (0<d)) (Mx.jC d).2 U p)|'G'=>`((.ax::(.aM f r).1,(.aM f r).2))|'v'=>`(kE (@I (kindS p)) (lM va))|'3'=>`(∀σ H,Pv .aN σ H->.fB)|'m'=>`([.dt (@I k) g p])|'6'=>`((by intro _ _ z;cases z))|'1'=>`(.m0 xt.trans (B9.ext u9))|'w'=>`(Mx.vk g .k5 .FO q.1 q.2)|'R'=>`(∃m',m'<m/\W .ah m' L)|'8'=>`((iK .bj).length)|'c'=>`((HV su su iY .ae iY))|'V'=>`((.aL xS.nd y @q vq))|'W'=>`(∀q∈B.kids,q∈M)|'T'=>`(.pa v C (t.map .bZ))|'U'=>`(.pa I M (u.map .bZ))|'2'=>`(∀i σ H,.fD->.pS)|'7'=>`(by rw[Kt];simp[iK])|'M'=>`((pairsOf .eJ).size)|'p'=>`((.pb c.trans p u3))|'k'=>`(.bt=k↔jP b us=f')|'l'=>`(σ[j]? =O (.kC k))|'z'=>`(km.eq (aa _ _) ?_)|'F'=>`(Mx.kL Mx.isNum ts)|'5'=>`((∀q,o≠.dK q))|'h'=>`(∀L,.I->.a9 L)|'Y'=>`(jN (uz k S) .nK)|'4'=>`(jN .dN (iO z))|'B'=>`(iu .dl (jt H h))|'y'=>`(g a2 (U.drop 1))|'I'=>`(Mx.o5 (.dk+1) p)|'n'=>`(IT x i k σ H Q)|'q'=>`(∃t r,us=t::r)|'o'=>`(mg "ARGUMENTS")|'f'=>`((lu Ef .ae iY))|'L'=>`(((.fT).map .bC))|'K'=>`((iO n::·))|'9'=>`(∀L,.vK->.vN)|'j'=>`(g=[.hw,@I k])|'P'=>`(by grind[cut])|'Q'=>`(R (.be T) x C)|'Z'=>`(Mx.places S B)|'C'=>`((iE (iR @M)))|'d'=>`(#[_,_,y,y,?_])|'N'=>`(#[[.q5,a],[]])|_=>q_n
def z_A(b:Char):q_M:=match b with|'I'=>`(∃i,t.slot (jL t c p).j=.live i/\hashAt i≠h)|'q'=>`(λb o e=>B b o (af _ _ e) (jg e am) (jg e aA))|'V'=>`((model H w).w.params.followText "set-order")|'u'=>`((I++(r2.kids.take j).map λk=>(k,L+1)))|'T'=>`(pickOrder (w.params.setOrder d ep) f)|'E'=>`((p.i,p.perturb))|'X'=>`((·.setIfInBounds 0 (rawInt B)))|'e'=>`(λag A ah s H vs Q E hr h=>?_)|'J'=>`((s.getD (p.i+k) (O 0)).isNone)|'G'=>`(∀i:Nat,t.place[i]?≠O j)|'s'=>`(.h3 {cls:=.af "dict_values",data:=.a5 (.a6 [@h d])})|'y'=>`({cls:=.af "enumerate",data:=.a5 (.a6 [.none,.bool ij,@h @L,rawInt 0,.none,.none])})|'j'=>`({id:=@z+i,prod:=m.prod,num:=.m2,kids:=m.kids})|'i'=>`(.aO (kK t rs)=t.want .bO)|'l'=>`(if .vQ then Mx.oV r .cI else(a::r,us))|'7'=>`(((.du).recs++jl L c))|'0'=>`((.Jz,@Z (x.2:Int)))|'f'=>`(iK (x::C).reverse)|'k'=>`(((@z+i:Nat):Int))|'n'=>`(mg "MOST_LEVELS_trees")|'9'=>`((.f0).flatMap (om B S))|'N'=>`({mask:=M,place,dummies:=.cU,finger:=t.finger,led:=t.led,moves:=t.movedTo M,plain:=t.plain})|'t'=>`((@L [kV (iO (r2.id:Int)),.aX]))|'3'=>`((Ed .aE @M set_list))|'p'=>`((iK (st.map .kQ).reverse))|'H'=>`(∀i:Nat,xs[i]?≠O j)|'4'=>`(∀H',.I H'->.ia .du)|'F'=>`(below.go xs j f lo t)|'b'=>`(.b0 u .an .fX t.g.Ce)|'1'=>`(kE (.h U) .sx)|'x'=>`(("(":iA)++txt .rL)|'Z'=>`(m.heap.get? b=O o)|'D'=>`(by grind[advance])|'5'=>`((.ax .aE .ad .ai))|'M'=>`(sizeAbove wanted)|'B'=>`(runEnd .a8 .oi)|'C'=>`(leap .a8 p.i .lm)|'g'=>`(jN (wF as P) .nK)|'K'=>`(jL .ju (.cC+1) p)|'U'=>`(iH (yH k T r ?_))|'O'=>`(hk prog w (kf a))|'S'=>`((.fk (I[·]?),v))|'m'=>`(mg "MOST_NODES")|'8'=>`(iF (as++bs) .A7)|'r'=>`(by grind[valOf])|'z'=>`((w.count k:Nat))|'o'=>`(iF .jl (.cm l))|'v'=>`(i0 (f:=Rec.id))|'2'=>`(a.all (pQ .du))|'h'=>`(∀r∈rs,.Ai)|'A'=>`(by rw[AB];rfl)|'w'=>`(Mx.jM F w l d)|'P'=>`(A.units<cLine)|'R'=>`((t.put .wg).1)|'Q'=>`((.cA .on).j)|'L'=>`((.fk (es[·]?)))|'6'=>`(.cZ 1000 2000)|_=>q_n
def z_B(b:Char):q_M:=match b with|'X'=>`(((l.flatMap λn=>((ra T n).map Rec.kids).getD []).filter λn=>!l.contains n))|'K'=>`(∀x,H.count x+l.count p*lp.count x=l.count x+l.count p*A.count x)|'7'=>`((xC x x (zC st) (wo st) (i4 st) .none kV p B q D T))|'5'=>`(Mx.jS mQ ((Mx.jS mQ r).2.drop 1))|'A'=>`((λi C H' Ky Kn v sm L hy hn=>?_))|'4'=>`((kindS U))|'E'=>`((60<(js B F0 F1 o).recs.length))|'l'=>`((wg K λx C z=>.bl (l8 x C z)))|'3'=>`((by show(Fm _).map _=_;grind))|'t'=>`(upd c U (.dK (iF as M.recs)))|'Z'=>`(o.flatMap (kdOf (j8 B I u)))|'I'=>`(rj p=O (n,k))|'Q'=>`((kX n v))|'L'=>`(∀m,m≠a->m≠b->f m=m)|'2'=>`(il (λq=>w.elim q.1 q.2))|'G'=>`((.ak C x (.hc .iM (jx "grammar" (@h r) (lY D L)))))|'p'=>`(@E ([@h D.b]++[@h D.a0,@h D.a1]))|'j'=>`((λ_ _ _ _ _=>.a3 uV.nd y @q))|'J'=>`((r'.take z).map .a6)|'k'=>`((.HC++(oW S B).map (lb 3)))|'8'=>`(p.1=q.1/\H q.2.1=.jV (p.1.map kV)/\.am p.2 q.2.2)|'1'=>`(o3 [.fN,g.prods.length])|'q'=>`(jN (.bg .gC) (.jf n))|'H'=>`([.aD,.hY,@h I,@h tl])|'Y'=>`((.a3).recs.flatMap .lw)|'u'=>`(l8 .ls I.root u.root)|'r'=>`((c++[n]).filterMap u)|'b'=>`((.jF).length<=100000)|'m'=>`((pG mW .fc .fc .aw))|'i'=>`((Ey B S).map (lb 3))|'B'=>`(rH z D.b D.a0 D.a1)|'C'=>`((signs .jK).length)|'f'=>`((oW B S++oa t B S))|'s'=>`((.kg (M.root:Int)))|'v'=>`(upd HB u (.k0 aR))|'0'=>`(r.2.code::r.2.out)|'g'=>`(.jV (z.map V.int))|'M'=>`((kB (y8.mp c).2))|'T'=>`((.O u n).getD p)|'R'=>`((.O I n).getD p)|'D'=>`(#[_,y,y,_,y,.w4])|'d'=>`(by grind[kj,iK])|'O'=>`((pO F .h2).recs)|'6'=>`((nM M c iI .ae))|'z'=>`((c.recs.map .al))|'N'=>`(λr J k hk=>?_)|'a'=>`(rs.kids.length)|'V'=>`((.h3).prod=.bO)|'9'=>`(∀b xs,H b=.dz->L b=.dz)|'W'=>`(Reach s .cj x)|'e'=>`(B.recs.length)|'c'=>`((BC t (oa t)))|'h'=>`((.jF).map .lx)|_=>q_n
def z_C(b:Char):q_M:=match b with|'d'=>`(#[λb o e n l f=>?_,λb o e n l f=>?_,I.base.free,λb o e f=>?_,I.base.yo,I.base.vD,I.base.yp])|'q'=>`((do let v<-w;standAt e.pos;holding [v] (truthy v)))|'m'=>`((by rw[I.ok.glob];exact I.mod.glob.keeps I.bk))|'M'=>`((λx C H Q=>∃i j,x=@I i/\C=@I j/\i.length+j.length<=@Q/\Q (@I (i++j)) H))|'S'=>`((iW (h T @t s σ H _ I g) λus m#[xs,B,D,r,z,q]=>#[.my r.length z,?_]))|'E'=>`(λD eb=>#[y,.cM (λb o l e=>eb b o l e) m r L T M])|'2'=>`(typeLookup (.af T) "__getitem__"=pure (O (.aj id)))|'3'=>`(∀(pins:.aL)(s:iV)(σ:St)(H:Hp)(x:V)(xs:.L)(v:iB)(us:.Y)(Q:VK),.D->.eY->.eU->r x xs H Q->.Q (call (.aj id) (v::us)) .dR .ao s)|'j'=>`(.Q (.kb a) (λv c=>.Q (.kb b) (λu k=>.Q (f v u) Q .ao k) .ao c) .ao s)|'i'=>`(∀v u g x C r,.Y r g->.eY->.dV->R x C r->.Q (f v u) Q .ao g)|'0'=>`((xC aa qual ab m a dV kV ac pm an D ct))|'7'=>`(#[.h .e3,H,.bH,#[.dW+1,by rw[Ft,x]],q])|'z'=>`(.e0=.seq M n/\M.size<=@Q/\.b5 M.toList)|'Y'=>`(wQ B P w K mg t N qual a f l A I s H E)|'C'=>`(PassesOwn (model .bI X.w) X.A .M .ao)|'s'=>`((iW (p @t s σ H Q I h) λc m e=>?_))|'D'=>`(.cM (λb o l e=>.pD b l e) m r L T M)|'9'=>`(¬(!M.toArray.isEmpty&&Fh .x0)=f')|'N'=>`((λt' a=>#[@I (i++j),H,.bH,.br,q]))|'k'=>`(by refine .br .j8;refine .JH;grind)|'Q'=>`(eval (.an (.dw e m t) M [] T) .M)|'K'=>`(.Q (f (.h i t) (.h j u)) Q E s)|'L'=>`(∃kvs,H p=O .c0/\k=!kvs.isEmpty)|'4'=>`((i+(M.toArray.size:Int)).toNat=j)|'h'=>`(.ab λx B=>M σ B λC r=>R x C r)|'b'=>`(s.heap.IsCell c v->D.IsCell c v)|'o'=>`(#[.bl _,B,D,by rw[r1.Xn];rfl,L])|'V'=>`(λus J#[U,Y,D,r,q]=>#[D.qj,?_])|'T'=>`(D.laid (t':=m.toks) .bU .ba ?_)|'c'=>`(.dQ (storeName .M x u) Q E s)|'l'=>`((x==("__classdict__":iA))=ij)|'X'=>`(λv L=>(rg.mp k).1 (Se L).1)|'6'=>`({cls:=.dU,data:=.seq .ik B})|'W'=>`((.an (.aS m p) (e::g) [] T))|'F'=>`({s with heap:=.Jm,toks:=x})|'H'=>`(a.pin (b,o) (by grind[Mb]))|'A'=>`((λ_ p=>∃r L,.lV/\Q r L))|'O'=>`((show∃t,u=vY i t from r))|'P'=>`((show∃t,u=MA x t from r))|'U'=>`(Un (kF I) [] H L .O .f8)|'I'=>`(#[xs,xs[i],q,by simp[s]])|'1'=>`(λb o e=>(M.bs b o e).1)|'Z'=>`(vS (x.above C c (qZ h)))|'B'=>`(V->V->V->Hp->.aq->.n)|'w'=>`((.br λc m#[B,D,L]=>?_))|'J'=>`(∀σ H,Pv n σ H->.fB)|'a'=>`(∀b u,b≠e->.lO->.o6)|'R'=>`(λu m#[x,B,D,r1,L]=>?_)|'f'=>`(z.sameBut w (aa J c e))|'5'=>`((·.setIfInBounds j u))|'G'=>`((f T @t s σ H _ I h))|'8'=>`((a.endLine==C.line)=f')|'v'=>`((.cL .And (a::b::C) T))|_=>q_n
def z_D(b:Char):q_M:=match b with|'t'=>`(Paired (λp m=>jz X.K H p [kV m.1,m.2]) ps kvs)|'I'=>`(#[M.dictOf.typeIs,M.dictOf.mapOf.noDict,?_])|'M'=>`((λx xs H Q=>∃a p,∃ys:@q iA,x=@I a/\xs=[@h p]/\.Jq/\(ys.map (·.length)).sum+.e3*.c1<=16777216/\Q (@I (Dv a ys)) H))|'2'=>`((.cc .aK>>=λc=>.cN wThen c.2>>=λu=>.cc u>>=λt=>.cN wElse t.2>>=λu=>.cc u>>=λf=>.ok (.app .ite [c.1,t.1,f.1],f.2)))|'7'=>`((by intro q;exact .Z q.symm (by show¬row=0;omega)))|'n'=>`(iW (t @t s σ H _ I h) λl m#[C,B,D,v,L]=>iW (k @t m σ B _ D L) λu U#[x,w,c,f,a,J,r,g,q]=>?_)|'E'=>`(iH (RX (T:="StopIteration") (b:=f') #[_,.cG,y] isSubtype_stop ?_))|'8'=>`(_=((if .iG+1+C.parts<=60 then O _ else e':.E R)).bind _)|'Y'=>`((AH (.my T.oJ I.stack) λb q=>sN _ (Rz _ (.mj T.oJ q))))|'z'=>`(λD a=>#[y,.cM (λb o l e=>a b o l e) m J L T M])|'m'=>`(.aN<=@Q/\.jN a/\∃xs,.pG/\h.DictOfH .sQ a xs)|'v'=>`(iC (λz=>by rw[z,h]at q;cases q;exact g))|'b'=>`(C.2=.free->∃c,env.cells.lookup C.1=O c)|'L'=>`({m with heap:=.h3 {cls:=.af "dict_items",data:=.a5 (.a6 [.aD])}})|'X'=>`(∀(D:iB)(A:oR)(I:@q oq)(s:iV)(H:Hp)(g:.L)(Q:VK)(E:XK),.JC)|'K'=>`(.aw (callWith C (.aj "dict.values") [.aD] [] []) _ .ao m)|'a'=>`(#[.iM,_,I.JG (zY:=M++m) w e @I (r.append r2) ?_,y,q])|'h'=>`({Y with heap:=pushCells (Y.heap.push .mt) a.names})|'u'=>`(∀{ps:@D}{us:.Y},.ac .eu us->us=ps.map jj)|'H'=>`((.c4 λu m#[x,B,D,f,d,o,kvs,r,T,q]=>?_))|'q'=>`(#[Co M,k,xs,zI I.je w,x,h _ _ .bH ?_])|'k'=>`(#[λi m H=>m=n-i/\i<=n/\Pv i H,.h,?_])|'O'=>`(#[M.toList,o,n,L,I _ _ e,B,by simp[T]])|'l'=>`(.q (y.1∈own.map .bS)||.q (y.1∉N))|'d'=>`(uP h {cls:=.af "cell",data:=.cell e'})|'N'=>`(λt' k=>#[@I _,H,I.tok k,#[t',y],h])|'D'=>`(.aw (setField .gV 0 .none>>=_) _ _ s)|'T'=>`(∀b o,.cE->(∀g,.e0≠.a5 g)->.xD)|'P'=>`(YU (by rw[F6 C];exact ja (aaM Q) c))|'g'=>`((.ListComp u [#[f,iter,l,0]] T aa))|'R'=>`(∀(w:jR)(h:jo),Q w h->(.e8).In h)|'i'=>`((.ListComp u [#[l,iter,p,0]] c T))|'e'=>`(.fN f (.c6 .bW .ij .th) @L .M)|'S'=>`(r.ret.enc (Codec.app .fK r.f a))|'y'=>`((λi h=>h.IsStrIter C ty x t i))|'f'=>`(.bR C=O .free/\(.on v.kindOf C))|'W'=>`(∀g H Q E,r g H Q E->.cZ=.bh)|'s'=>`(ip (by first|decide|rfl|simp))|'4'=>`((if .qf then .neg else .not))|'x'=>`(((M.toArray.size:Nat):Int)-1)|'G'=>`(.ek e "values" .M .gR=.gR)|'w'=>`(∀a T,X.vG d≠O (.iT a T))|'U'=>`(X.A.frames=O (.M::X.outer))|'p'=>`(#[_,x.mapOf,h _ _ .bH ?_])|'3'=>`(.fS d ts>>=λx=>.cv x.1 x.2)|'9'=>`(ip (show .b7≤2 by omega))|'5'=>`(∀ts x us,p ts=.mP->.df)|'F'=>`(s.heap.DictAt .et d g ep)|'Z'=>`(F.mo _ _ _ _ @h @h @h)|'B'=>`(D.IsKeyIter C d .ah n ep)|'A'=>`(.ai (pyIter .aD) Q E s)|'1'=>`(someElements e n d c ts)|'0'=>`(l5 (F.el _ _ _ @h) @I)|'V'=>`(by rw[I.ok.frames,T.oJ])|'o'=>`((oG [] kvs).length<=@Q)|'6'=>`((AQ [] row D T).mpr .D7)|'r'=>`(entryFor_of_tree .oq)|'Q'=>`(.Z (acn (Ir q).1) .E)|'C'=>`(.ai (pyNext .gV) Q E s)|_=>q_n
def z_E(b:Char):q_M:=match b with|'m'=>`(namesBefore Sym.name g.syms i s.name=ij/\(mD s).Nodup/\(mD s).length<=4/\i<12/\(sizeIn (sizes g) s.name).isSome=f')|'r'=>`(if k=0 then s.ups else s.downs)|'v'=>`(namesBefore Production.name g.prods i p.name=ij/\i<24/\Bx (g.syms.map lU) (kD p))|'n'=>`(z9 g p t.1 t.2/\((p.rules.take i).any λq=>q.target==O t)=ij)|'S'=>`((if(flawsOf g e' t).isEmpty then O (treeOf g t)else e'))|'t'=>`(∀d∈duties g p,(targets p).contains (d.1,d.2.2)=f')|'8'=>`(#[_,y,_,y,a,_,_,_,y,y,v,kj (DZ l),b,y,_,y,?_])|'Z'=>`(lR (λD=>fin _ ?_) λD=>t _ λb e=>fin _ ?_)|'e'=>`((ly e d .dg .cI).bind λq=>oQ (ly e d) .cQ (k+1+1) q.1 q.2)|'k'=>`((g.prods.filter λp=>.hh==.cz).filterMap (treeSize m))|'3'=>`(#[_,y,_,y,_,_,y,y,_,_,y,y,_,y,lR (λh=>?_) λh=>.cL])|'h'=>`((ly e .cy q.1 u).bind λq=>.gG λu=>ly e .cy q.1 u)|'j'=>`((if .ad 35 l.2=f' then l.2.drop 1 else l.2))|'l'=>`(∀s∈g.syms,.cz∈oK g .bK->.cz∈oK g j)|'c'=>`(λq=>if O q.1=arity .ax then O q.2 else e')|'p'=>`(il (by rw[HC u.1];unfold mostAttrs;omega))|'R'=>`((if .iN/\([]:.H)=[]then O (.bJ 0 t)else e'))|'L'=>`((λk=>(L[k-@z]?).map λc=>rZ g c.prod))|'7'=>`(#[λr I=>Pv r I/\g r<g .qB,.aW,_,y,_,_,y,y,?_])|'u'=>`(∀r∈(kD p).rules,Bw (kD p) .mY r)|'M'=>`((∀i,i<mB l->L[n+i]? =(.cg n l)[i]?))|'K'=>`(.e5 (.ue>>=λI=>.ok (t::I.1,I.2)))|'N'=>`(λq=>if q.2=[]then O q.1 else e')|'d'=>`(E2 (.q (0<k)) (jC k).1 (jC k).2)|'o'=>`(∃s,.gf[c.1]? =O s/\c.2∈mD s)|'F'=>`(LZ (q:=v) (by rw[<-Om h,M];rfl))|'D'=>`(DF (q:=x) (by rw[<-BD h,D];rfl))|'G'=>`(.dC k (.ok (.fT [],.bz+1,v.2)))|'I'=>`(readTree h m (.dd+1+1) .bz ts)|'P'=>`(readTree .dd (2*.av+2) 1 0 ts)|'X'=>`(by grind[mZ,tokensFrom,ZT,xy])|'Y'=>`((qB λi j=>V.bl (.q (i<=j))))|'A'=>`(λus=>sr g @z .bx (a::r) us)|'1'=>`(λae A af s H vs Q E c h=>?_)|'O'=>`(∀m∈nodes,x8 g @z .bx m)|'Q'=>`(by unfold readRaw;rw[v];rfl)|'C'=>`(by unfold p9;apply sP;grind)|'B'=>`(#[.y5,l,(p7 .b5 I).map .kQ])|'J'=>`(.e5 (.ok ([t],J,A.drop 1)))|'b'=>`(λq=>(jk 41 q.2).bind .zr)|'z'=>`({n with kids:=n.kids++I})|'H'=>`((.gH (.bx++[#[i,v.1,[]]])))|'9'=>`(#[_,y,_,y,a,t,i,y,x,L,k])|'s'=>`(∀s∈ps,s.attrs.Nodup)|'a'=>`(il (show¬.d4 by omega))|'f'=>`((if .iH then _ else e'))|'i'=>`(il (by simpa using hk))|'y'=>`((oU .qm n).isSome=f')|'0'=>`((.Name "Unreadable" f))|_=>q_n
def z_F(b:Char):q_M:=match b with|'P'=>`((Mx.lD xA q.2).bind λu=>((Mx.jC d).2 q.1 u).bind λq=>(Mx.lD uQ q.2).bind λu=>(Mx.jC d).2 q.1 u)|'O'=>`((if Mx.jE U<=2 then ij else if Mx.jE U=3 then f' else c))|'w'=>`((by rcases p with rfl|rfl|rfl<;>decide))|'C'=>`(EB C x l R X lv H ((Mx.oQ g (p.length+1) n U p).bind λq=>(Mx.jk c q.2.2).bind λus=>O (q.1,q.2.1,us)) Q E)|'L'=>`((jP 43 us||(jP 45 us||(jP 42 us||(jP 47 us||(jP 37 us||ij))))))|'S'=>`(λp=>(Mx.kL mQ p.2).bind λq=>O ((p.1,q.1.text),q.2))|'T'=>`((if jP 125 ts=f' then _ else(Mx.rF ts).bind _))|'Z'=>`(∀i m H,W i m H->(.xM/\t H)\/((ql K a).go i H/\∃k:.aq,(∀L,k L->∃m',m'<m/\W .ah m' L)/\∀x L,.xN->g x (.aW c) L λl I=>wipe l c=.aW c/\w l I λb h=>if b=f' then q l h λC T=>∃acc,T D=O (@E acc)/\.kz<@Q/\k (.pa T D (acc++[C]))else k h))|'F'=>`(if O q.1=Mx.arity .ax then O q.2 else e')|'U'=>`((if t.great=f' then(Mx.qe .aC).bind _ else(Mx.rG .aC).bind _))|'E'=>`(by show(if .kM then(.nu 40 r)else _)=_;grind)|'W'=>`(λrs=>O (#[.ax,C.text,bh,aa,ms++rs.1],rs.2))|'x'=>`((@L [mJ .aC,mJ ((.aC).drop 1|>.drop 1)]))|'r'=>`({a with occs:=a.occs++[(uR .ax,u.text)]})|'l'=>`(.e9 lv b/\if 30<lv+1 then .a9 .Ji else .aV .Ji)|'k'=>`(.e9 lv b/\if 60<p+1 then .a9 .Jj else .aV .Jj)|'c'=>`(#[h.1,λi p x a b=>.a7 (h.2 i p x a b)])|'R'=>`(.md (.aC @M y) (iy (.aC .ad y) (iE (.aC .ak y))))|'8'=>`(by rw[yP,xp,decide_eq_true_iff];simp)|'a'=>`(((λx:iA=>x.length)∘λb=>(.kT:iA)))|'X'=>`(by rw[pairsOf_size,i0,c.length_eq])|'4'=>`(σ=[.ja u,.ja t,.ja d,.j1 b,g,e'])|'6'=>`((∀q∈p.kids,q∈a)->p.left∈a)|'N'=>`(rE (HI C x l .bK) [] E (.mY 0 1))|'h'=>`(if .hv=k then .eN .iU else .eg H)|'V'=>`(DX (f:=pW) (λt h=>Me h) g B4.ok)|'z'=>`((uv lv 41 a .fM).bind λq=>.FF)|'J'=>`(∀x∈I,.bt=x.1↔jP x.2 us=f')|'p'=>`((@z X.ol (@E (.hE++[@h q]))))|'G'=>`(λH' v=>k H' (.pb g.trans u v))|'1'=>`((λ_ _ _ _ _=>.a3 Bc.nd y @q))|'H'=>`((uv lv 93 U r).bind λq=>O q.2)|'e'=>`(λay A az s H vs Q E hr h=>?_)|'M'=>`(λaq A ar s H vs Q E hr h=>?_)|'B'=>`(λal A am s H vs Q E hr h=>?_)|'j'=>`((.ak l X.dx (ef p lv X.ol b)))|'s'=>`((.an (.aS "skip" t) .zm [] T))|'D'=>`(λaf A ag s H vs Q E I h=>?_)|'i'=>`(λaa A ab s H vs Q E c h=>?_)|'g'=>`(if .hv=k then .JI else .a9 H)|'9'=>`(iU (k.2 (λz=>h1 z.1) H .bN))|'t'=>`((.gM [.dt (.h 1) g B] [] T))|'Y'=>`((∀h,iu L h->p x=ij->Kn h))|'2'=>`(∀p∈qs,H p=.kr (vA H p))|'q'=>`({a with occs:=a.occs++[c]})|'A'=>`(Mx.Jg 0 .eG (30-m) @h @h)|'f'=>`(qp (ja af (ja hi hl)) .E)|'K'=>`(il (by rw[iq @h];decide))|'Q'=>`(by rw[<-wJ];exact uf.mp q)|'3'=>`(aa.filterMap Mx.oh.target)|'d'=>`(Aj (by rw[<-h.1];exact t))|'5'=>`(.jq a.length=.jq v.length)|'b'=>`(∀p xs,H p=.dz->L p=.dz)|'7'=>`(hy _ H3 .bN y #[nm,y,?_])|'y'=>`(#[X.ol,_,_,y,y,hl,?_,?_])|'v'=>`(∀L,.cS a lv us s->.uD)|'o'=>`(by unfold j4.put;ext M)|'0'=>`((λi H _ M=>M.1.seq hl))|'m'=>`((mF "small").cps.toList)|'u'=>`(.gU (jY.next R X x n H))|'n'=>`(ri (x.text.headD 0)=f')|'I'=>`(O ({U with own:=f'},r))|_=>q_n
def z_G(b:Char):q_M:=match b with|'i'=>`(λg=>(S++g.1,B++g.2))|'j'=>`(by show(if l.great=f' then _ else _)=_;grind)|'f'=>`((Mx.uH g->∀r L,.I->Qu G .dl r g.1 g.2->(∀p∈g.2,A8 p)->Q (@h r) L)/\(¬Mx.uH g->∀L,.I->E (@h G.C) e' L))|'c'=>`(upd (.aD l1 (@E [.jj B.left])) I (@E ([.aa (txt B.left)]++lC B.kids)))|'z'=>`(#[by grind[lj],iK .bj,.h (r.kids[.cs-1-i]:Nat),by grind[iD.of,iC],?_])|'X'=>`(.bQ j=if(t.place[.cB j]? ==O j)=f' then .live (.cB j)else .Jx)|'C'=>`(st.reverse++r.kids.reverse.take .cs=(.bj++st).reverse)|'O'=>`(.pm l c (iF (vx n C as U.recs) (U.recs.map (kX n z))))|'V'=>`({cls:=.af "dict",dict:=u,data:=.d7 f ep,slots:=M})|'w'=>`(iK (n::st).reverse=iK st.reverse++[@Z .aY])|'5'=>`((xw (·.setIfInBounds 1 (rawInt (.m8+1)))))|'x'=>`((iK (st.reverse++r.kids.reverse.take i)))|'T'=>`((if r.kids.isEmpty=f' then[]else 40::(.rL++[41])))|'v'=>`(show .q (ES (O a)=.jq a)=f' from iq y)|'B'=>`(r.kids.reverse[i]? =O r.kids[.cs-1-i])|'M'=>`(ah.imp λa b z=>z.keep (B.news bh an))|'h'=>`(λb o e=>u1 b o (sM _ _ e) (jg e nr))|'r'=>`(lZ H k (.h .aY) (.ja a)/\kC t H a r)|'S'=>`(acp (if .eb=f' then O r.num else e'))|'b'=>`((λ_ _ _ _ _=>jK (i:=6) vc.nd y @q))|'D'=>`(∀L,.mQ L p->L v=O .ap->.vK->.eN L)|'0'=>`(iH (yH (s:=.wf) J Y (T.fits u) ?_))|'d'=>`((λj x H3 Ky Kn v s3 an hy hn=>?_))|'W'=>`(.hN={p with j:=p.j+1,more:=.cC-1})|'p'=>`(.pm H9 pd (qO Mx.MProd.name ps B))|'N'=>`(iF (vx n C as rs) (.bP (kX n z)))|'P'=>`([((iO (U.root:Int):Key),@Z 1)])|'q'=>`(((iO (x.2.id:Int):Key),.ap x.1))|'U'=>`((" ":iA)++(mF (toString r.num)))|'H'=>`((.cB).map .al=(kH .bw).map .kQ)|'o'=>`(.pm H5 sd (qO Mx.jv.name ss S))|'a'=>`(λbd A be s H vs Q E hr h=>?_)|'F'=>`(λai A aj s H vs Q E c h=>?_)|'9'=>`(((a.zipIdx k).map λx=>.A0))|'4'=>`(∃e,.ot[i]? =O e/\v=e.2)|'e'=>`(∀L,.I->E (@h G.C) e' L)|'8'=>`({s with heap:=.rT,toks:=x})|'1'=>`({s with heap:=.wi,toks:=x})|'I'=>`({a with kids:=a.kids++[n]})|'R'=>`(r2.kids.map (λk=>(k,L+1)))|'u'=>`(iU #[_,y,_,y,y,k _ L B ?_])|'y'=>`(by show .z8<=.cs;grind[lj])|'J'=>`(@Z (st.length:Int)=@Z 24)|'g'=>`(λL s'=>k L (sM.trans s'))|'Y'=>`(I _ _ (T.path _ _ _ hk v))|'m'=>`((ha.keep (.dc (qG xt)) T))|'A'=>`(@Z (r.kids[.cs-1-i]:Nat))|'Q'=>`(λa b q=>q.lock (.n g2))|'G'=>`(CO (v.map rJ) (Q.map rJ))|'7'=>`((Dc w d ep es).length_eq)|'s'=>`(#[e',e',y,iu.refl _,@E])|'E'=>`(.Z ((xD B.ok).mpr h) hk)|'k'=>`(λH2 z=>k' H2 (an H2 z))|'Z'=>`((by unfold turns;omega))|'6'=>`((Dc w d ep f).length_eq)|'3'=>`((!t.plain&&.q (.a5>1)))|'K'=>`(iO ((@z+.ac:Nat):Int))|'L'=>`(ai.trans (B.ext aZ ac))|'2'=>`(Kz (λI=>?_) (λ_=>?_))|'l'=>`(.rb hS.imp z.keep n9 T)|'n'=>`(.rb hP.imp z.keep n9 T)|_=>q_n
def z_H(b:Char):q_M:=match b with|'Q'=>`((M.root::M.recs.flatMap Rec.kids))|'C'=>`(((oa t B S).map (lb 1)++(mq B S).map (λz=>2::z)))|'H'=>`((ai.map V.ref++aj.map V.ref))|'F'=>`((ag.map V.ref++ah.map V.ref))|'V'=>`(λx=>match x with|.int z=>[(r.id:Int),z+1]|_=>[])|'9'=>`((lY .iM .iM))|'0'=>`((λ_ _ _ _ _=>.a3 vh.nd y @q))|'X'=>`(l8 (.as (.pj B n p)) (.as (.pj I n p)) (.as (.pj u n p)))|'o'=>`((.q (p.id=(.du).root)||.q (.au v.prod=.au p.prod)))|'t'=>`((.q (n=(.du).root)||.q (.au r0.prod=.au .bO)))|'O'=>`(O (.ak .aQ dn (yf (@h pp) (.as r) (@h cl))))|'u'=>`((.bp (mw (.dj L) (pO .du (jl L c))) l).length)|'z'=>`((kr (own:=[("number",3),("place",4)]) .z))|'w'=>`(λx=>match x with|.int z=>[.aY,z+1]|_=>[])|'R'=>`((iS C l iI (Y .aE (Y (.ax .aE iY .ai) iw))))|'l'=>`(λH' s'=>(r.side U).keep ((.bh s').sub))|'q'=>`((.q (n=.gA)||.q (.au C.prod=.au .bO)))|'I'=>`(! .q (C=x)&&(! .q (z=x)&&! .q (C=z)))|'U'=>`(upd (@z u .ap) lr (.nf I.root C.root))|'i'=>`((.q (p.id=.gA)||.q (.oB=.au p.prod)))|'8'=>`(∀z,z≠0->.di z->∀U,iu H3 U->∀a,U a=e'->.aU (upd U a (.kg z)))|'P'=>`(.jU (M.root::M.recs.flatMap Rec.kids))|'M'=>`((λi x z L Ky Kn l m I am hy hn=>?_))|'A'=>`((λ_ _ _ _ _=>l7 (Y .fo (.mb 3 4))))|'D'=>`((λi x H' Ky Kn v sm ae hy hn=>?_))|'k'=>`((jh (ju mW .cN iY .aw) (.kO 4) jn))|'6'=>`(if(kE .ds .sx)=f' then _ else _)|'m'=>`(.kx (.au v.prod)=.kx (.au C.prod))|'T'=>`((wg K λx ag z=>.bl (l8 x ag z)))|'r'=>`((mw (.dj .jB) (pO .a9 .r3)))|'5'=>`(by rcases p with rfl|rfl<;>rfl)|'L'=>`((λ_ _ _ _ _=>.dJ xM.nd y @q))|'Z'=>`(λbj A bk s H vs Q E hr h=>?_)|'c'=>`(λai A aj s H vs Q E hr h=>?_)|'K'=>`(λac A ae s H vs Q E hr h=>?_)|'J'=>`(λab A ac s H vs Q E hr h=>?_)|'s'=>`(mg "FIRST_NEW_NUMBERS"=.ja aF)|'h'=>`(if .gA=n then m else .n8 m n)|'e'=>`(999999999999999999<l.natAbs)|'n'=>`((.bp (mw .jA .du) l).length)|'d'=>`(if(! .A1)=f' then _ else _)|'1'=>`((by rw[lj];exact .jL 2000))|'g'=>`((.b3 .a9 m n\/.b3 .a9 n m))|'x'=>`(.pi g (.h S.root) (@h k))|'W'=>`(λk=>.qh r0.kids.getD k 0)|'G'=>`(upd a5 m (.iT r (.lm ab)))|'B'=>`(upd H5 l (.pA r u B.recs))|'a'=>`(.pi dt (.h g.root) .cw)|'4'=>`(r.flatten.length<=100000)|'Y'=>`((∀z,z∈r↔z∈.g7 M))|'j'=>`((∀m∈l,jq s m=jq F m))|'y'=>`(∀b,m b=e'->.be/\b≠k)|'f'=>`([.bQ,.h A,.h a,.h b])|'v'=>`((.ri H l ps.map qs.map))|'N'=>`(nq C.num r1.num r2.num)|'b'=>`(iF (M++[aa]) (.d8 .ah))|'7'=>`((hF.keep r.sub).keep g)|'3'=>`(.ri aP D pa.map pb.map)|'2'=>`(.ri H7 D aK.map aL.map)|_=>q_n
def z_I(b:Char):q_M:=match b with|'q'=>`((pM S ((p::r.take n)::B)).2.length)|'R'=>`(((rh T).filter (has T.base)).flatMap (λn=>((Fq T n).zipIdx.filter λx=>x.1.2).map λx=>((2:Int),nF n,nF (x.2+1))))|'u'=>`(∀x,H.count x+(l.count a*C.count x+l.count b*B.count x)=l.count x+(l.count a*B.count x+l.count b*C.count x))|'l'=>`((Nat×Nat))|'C'=>`((∃c,o6 g c m.num=O m.prod)/\∀v,m.num=O v->v.natAbs<10^18)|'7'=>`(match Av T z with|e'=>pY S (-13)|O F=>(S,o3 (yS g F)))|'r'=>`(p∈l->∃lp B,Tr F p lp B/\B<=d/\lp.Sublist l)|'P'=>`(has T.base n&&(Fv T n).2)|'M'=>`((g.filter λx=>!(l++y::ys).contains x).length)|'p'=>`((acc.map .a6++[.h (.Iq:Nat)]))|'i'=>`(iQ #[_,y,d,C,U,_,_,y,T,m.cl,m.nT,y,_,y,I,_,_,_,y,y,g,.j4 0,_,y,I,_,_,_,y,y,g,.j4 1,_,y,I,_,_,_,y,y,g,.j4 2,k])|'9'=>`(match Av T z with|e'=>.kt 13|O F=>(S,o3 (pV F .a7)))|'Z'=>`(by rw[m];show n<1000*(1+1)+(.cc+k);omega)|'Y'=>`(by rw[g];show n<1000*(0+1)+(.cb+k);omega)|'b'=>`((.aF U (.hc .a2 (lY c g))))|'B'=>`(∀m r,.fm->∃r2,.O M m=O r2/\r2.kids=.bj)|'x'=>`(∀x∈F.recs,∀C∈L.recs,x.id≠C.id)|'t'=>`(∀m r,.fm->m≠a->m≠b->.O M m=O .rl)|'O'=>`(show ra T=j8 B I u from funext (L6 s g))|'J'=>`(nq p.num (jQ I n p).num (jQ u n p).num)|'5'=>`((adp {.Jl with recs:=(.Jl).recs++.cB}))|'0'=>`(mK Cd c v H d dd S g i7 P G ga .bQ)|'T'=>`((((.b2).findIdx? λm=>m==n).getD 0))|'U'=>`(#[m.tr,m.qC.keep s,m.ns,m.ng,m.ok])|'N'=>`(λx v=>by rw[uK.mp v];exact .root)|'G'=>`(λx=>((2:Int),nF x.1,nF (x.2+1)))|'8'=>`(#[D,G,B,I,u,.cb,.cc,z,y,m.qC,?_])|'6'=>`(mK h c p H d x S g i7 P G l .hX)|'X'=>`(∃C,.O .a9 n=O C/\.bO=C.prod)|'F'=>`(rec_of g.nd (f.2.mem_iff.mp D))|'c'=>`(H2 u=.pi dt (.h .a7) (@h nd))|'d'=>`((jh (ju Bv .aE pJ .z) .hU jn))|'v'=>`(∀r∈F.recs,.eb=ij->r.num=0)|'H'=>`(λr=>((3:Int),nF .am,(0:Int)))|'a'=>`(λam A an s H vs Q E hr h=>?_)|'L'=>`(I K B (λx v=>p x (nD _ v)) f)|'W'=>`((λb o e q=>I.keep b o e .f9))|'e'=>`(#[.jA 1,λa p=>Ref.use c U p])|'I'=>`(l8 r.num (.jT).num (.jU).num)|'A'=>`(if .a7=a then b else .oi b a)|'D'=>`((if p.own=.n6 then _ else _))|'h'=>`((Y .cM (.dl (.dl (.dl iw)))))|'o'=>`((.xa+(1+((.BJ).length:Nat))))|'S'=>`(t6.mp (show r∈.oN from c))|'1'=>`((.gI).recs.find? (λr=>.vA))|'z'=>`(.dq (λm=>.pE m n L.root) T)|'j'=>`((Y .fo (Y .fo (Y .fo iw))))|'E'=>`((Mx.o .mS).bind (pK g @z))|'4'=>`(#[λL=>.c0 (ip L),λL=>?_])|'K'=>`(λx=>!(K++[n]).contains x)|'y'=>`(kK t _ (.pE k n L.root)=_)|'w'=>`(λm r h=>by rw[yX,h];rfl)|'k'=>`(.aU∈([9,10,11,12]:.af))|'V'=>`(b=d\/b=p\/b=.bf\/b=D.gl)|'Q'=>`([.aY,((x.2+1:Nat):Int)])|'g'=>`([.a2,.h a,.h b,.h c])|'m'=>`(.mG .oP (xs.length:Nat))|'3'=>`(w.all (pQ (.bA F0 F1)))|'2'=>`((by rw[CU];exact o.nd))|_=>q_n
def z_J(b:Char):q_M:=match b with|'o'=>`((Key×V))|'n'=>`((U×jA))|'l'=>`(mw (λm=>if m=n then first else m) (pF T A))|'r'=>`((iA×V))|'s'=>`((iA×U))|'J'=>`(RY _ (λC r p=>r.1=e'/\p=s/\∀v∈C,∃n t,v=vY n t) _ ?_ ?_ _ _ (by grind[UJ]))|'a'=>`(if z≠0/\z≠1 then pY S (-13)else(S,{code:=0,out:=FE (KN T.base (pF T z))}))|'t'=>`(R H x C->R L x C)|'i'=>`((X.put l p (lv+1) b H))|'j'=>`((X.put l (p+1) lv b H))|'q'=>`((iD X.K H p (ys.map V.str)\/jz X.K H p (ys.map V.str)))|'f'=>`(Q (mJ us) L)|'F'=>`((iA×Nat))|'y'=>`(#[λm σ L=>m=g σ/\Pv σ L,#[_,y,y,i,y,jw _,y],?_])|'z'=>`((iO (x.1:Int):Key))|'E'=>`((iA×uc))|'A'=>`((κ×V))|'x'=>`(if has t.dummies j=f' then .dummy else .empty)|'w'=>`(#[_,D,q.x,q.dx,_,y,B,by rfl,q,p,lv,b,y,B,r])|'D'=>`(w l I λb h=>if b=f' then f l h λC T=>∃acc,T D=O (@E acc)/\.kz<@Q/\c (.pa T D (acc++[C]))else c h)|'m'=>`(.a8 {cls:=.af "range",data:=.a5 (.a6 [.h lo t,.h a u,.h 1 v])})|'C'=>`(jy k (A.deeper (.gp (i4 st) @L f D))->r g H Q E->∃t,qW (wQ .de P w K mg u N qual (i4 st) f D A I s H E) (wo st) t/\t .xS .pv H)|'B'=>`(∀H:Hp,.aJ q [.h (n:Nat),.bl (.q (k=1))])|'h'=>`(kV (.jf r.id))|'I'=>`((if k="end"then Q (mJ .fe) H else Q (mJ .fe) .iU))|'K'=>`(attach (a::k) (@z+.bz) .bx)|'H'=>`(iW (l @t m σ B _ D L) λu g#[C,r,y,r2,q]=>?_)|'c'=>`([.aD,.h p,@h I,@h tl])|'b'=>`(∃z,w=[z]/\Es C3 .aH [.bQ,.h p,.ds] H' Q E)|'k'=>`((λ_ _ H=>.a9 H))|'e'=>`(#[.ax,(.aM mQ r).1,(.B5).1])|'d'=>`(wW K Cd C3 c .Jc H Q E)|_=>q_n
local macro_rules|`(.$i)=>match i.getId.toString.toList with|[b]=>z_0 b|['a',b]=>z_a b|['b',b]=>z_b b|['c',b]=>z_c b|['d',b]=>z_d b|['e',b]=>z_e b|['f',b]=>z_f b|['g',b]=>z_g b|['h',b]=>z_h b|['i',b]=>z_i b|['j',b]=>z_j b|['k',b]=>z_k b|['l',b]=>z_l b|['m',b]=>z_m b|['n',b]=>z_n b|['o',b]=>z_o b|['p',b]=>z_p b|['q',b]=>z_q b|['r',b]=>z_r b|['s',b]=>z_s b|['t',b]=>z_t b|['u',b]=>z_u b|['v',b]=>z_v b|['w',b]=>z_w b|['x',b]=>z_x b|['y',b]=>z_y b|['z',b]=>z_z b|['A',b]=>z_A b|['B',b]=>z_B b|['C',b]=>z_C b|['D',b]=>z_D b|['E',b]=>z_E b|['F',b]=>z_F b|['G',b]=>z_G b|['H',b]=>z_H b|['I',b]=>z_I b|['J',b]=>z_J b|_=>q_n
local macro_rules|`(@$i:ident)=>match i.getId.toString.toList with|[b]=>z_1 b|_=>q_n
def y_0(b:Char)(x:Lean.TSyntaxArray `term):q_M:=match b with|'Y'=>`(Inv X pins σ $x*)|'L'=>`(Callee P w K mg $x*)|'h'=>`(.int $x*)|'q'=>`(decide $x*)|'E'=>`(Option $x*)|'z'=>`(Def K mg $x*)|'Z'=>`(absurd $x*)|'n'=>`(.inl $x*)|'O'=>`(recOf $x*)|'H'=>`(PE X $x*)|'J'=>`(.cons $x*)|'M'=>`(jJ.mp $x*)|'t'=>`(F.jc $x*)|'D'=>`(ji K $x*)|'Q'=>`(.bT X.A $x*)|'I'=>`(iu H $x*)|_=>q_n
def y_1(b:Char)(x:Lean.TSyntaxArray `term):q_M:=match b with|'q'=>`(List $x*)|'H'=>`(iN P w K mg $x*)|'h'=>`(.ref $x*)|'E'=>`(.lst $x*)|'t'=>`(iu.new $x*)|'D'=>`(iD.of $x*)|'z'=>`(upd H $x*)|'Z'=>`(V.int $x*)|'n'=>`(.inr $x*)|'I'=>`(.str $x*)|'L'=>`(.tup $x*)|'M'=>`(l.map $x*)|'Q'=>`(jr.mp $x*)|_=>q_n
def y_a(b:Char)(x:Lean.TSyntaxArray `term):q_M:=match b with|'6'=>`(List.toArray $x*)|'h'=>`(s.heap.get? $x*)|'i'=>`(wpAny (model H w) A $x*)|'d'=>`(signNext $x*)|'8'=>`(s.heap.push $x*)|'r'=>`(km C x l R X lv H $x*)|'f'=>`(.type $x*)|'O'=>`(r.kids.map $x*)|'w'=>`(wpAny _ _ $x*)|'j'=>`(.builtin $x*)|'I'=>`(Good t $x*)|'g'=>`(i8 (i:=2) $x*)|'5'=>`(.fields $x*)|'P'=>`(h.get? $x*)|'W'=>`(wipe σ $x*)|'3'=>`(jK (i:=3) $x*)|'u'=>`(t.left $x*)|'L'=>`(i8 (i:=3) $x*)|'B'=>`(iD K H $x*)|'n'=>`(.Call $x*)|'y'=>`(mS S g T $x*)|'4'=>`(xs.map $x*)|'A'=>`(congrArg $x*)|'b'=>`(t σ H $x*)|'x'=>`(jG jU $x*)|'K'=>`(i8 (i:=1) $x*)|'a'=>`(V.str $x*)|'s'=>`(valOf t $x*)|'k'=>`(.ins $x*)|'2'=>`(take_snoc $x*)|'T'=>`(Binds K $x*)|'J'=>`(jz K H $x*)|'N'=>`(Array $x*)|'e'=>`(s _ _ $x*)|'M'=>`(Mx.jS $x*)|'D'=>`(upd L $x*)|'m'=>`(RelV $x*)|'c'=>`(Vals $x*)|'E'=>`(w.map $x*)|'z'=>`(upd I $x*)|'p'=>`(V.ref $x*)|'V'=>`(Q .iM $x*)|'q'=>`(Mx.jk $x*)|'7'=>`(k _ _ $x*)|'Y'=>`(jV K m $x*)|'Q'=>`(I.list $x*)|'9'=>`(E (@h C) e' $x*)|'X'=>`(@H u .de $x*)|'l'=>`(.L u .an $x*)|'C'=>`(ll .ae $x*)|'S'=>`(.dw o $x*)|'F'=>`(.ak C $x*)|'R'=>`(.H o $x*)|'o'=>`(.H e $x*)|'U'=>`(Q .aX $x*)|'G'=>`(nv.mp $x*)|'H'=>`(kC t $x*)|'v'=>`(eval $x*)|_=>q_n
def y_b(b:Char)(x:Lean.TSyntaxArray `term):q_M:=match b with|'T'=>`(wpAny (model X.prog X.w) $x*)|'H'=>`(starEach $x*)|'b'=>`(kh K "__init__" $x*)|'c'=>`(oj G.C G.Cr R H $x*)|'4'=>`(Kont C v c p H d Q $x*)|'W'=>`(t.isSign $x*)|'0'=>`(Ms P w K mg $x*)|'R'=>`(f.names.lookup $x*)|'n'=>`(compareOp $x*)|'8'=>`(bootBuiltins $x*)|'5'=>`(Vals xs $x*)|'q'=>`(.Name x $x*)|'7'=>`(lQ P w H h a $x*)|'B'=>`(andThen $x*)|'D'=>`(q.keep $x*)|'p'=>`(recsOf $x*)|'E'=>`(i8 (i:=4) $x*)|'C'=>`(g.trans $x*)|'L'=>`(upd H1 $x*)|'j'=>`(ku I u $x*)|'Z'=>`(jK (i:=2) $x*)|'2'=>`(r.take $x*)|'Q'=>`(t.slot $x*)|'o'=>`(qa lG y $x*)|'I'=>`(upd B $x*)|'3'=>`(Within $x*)|'z'=>`(sm _ _ $x*)|'h'=>`(r.keep $x*)|'e'=>`(cut D $x*)|'P'=>`(rs.map $x*)|'S'=>`(I.tuple $x*)|'r'=>`(iW (p @t s σ H _ I h) $x*)|'J'=>`(kz g @z $x*)|'G'=>`(@H u .aG $x*)|'A'=>`(pick A $x*)|'g'=>`(iF as $x*)|'x'=>`(.L aa $x*)|'a'=>`(.aX 1 f a $x*)|'Y'=>`(l.take $x*)|'m'=>`(Short $x*)|'f'=>`(Mx.Tr $x*)|'9'=>`(p σ H $x*)|'6'=>`(D.get? $x*)|'w'=>`(u b o $x*)|'v'=>`(qv lG $x*)|'t'=>`(@z p $x*)|'u'=>`(.pa H $x*)|'F'=>`(U _ _ $x*)|'K'=>`(lu rC $x*)|'M'=>`(jz.of $x*)|'N'=>`(ju mW $x*)|'O'=>`(@z U $x*)|'V'=>`(sL.mp $x*)|'1'=>`(g _ _ $x*)|'U'=>`(Q .hG $x*)|'X'=>`(.node $x*)|_=>q_n
def y_c(b:Char)(x:Lean.TSyntaxArray `term):q_M:=match b with|'M'=>`(I.turned (t':=s.toks) $x*)|'B'=>`(below t.place $x*)|'q'=>`(X.env.cells.lookup $x*)|'h'=>`(lP lE qY qX qI $x*)|'c'=>`(ki e (d+1) $x*)|'w'=>`(jY R X H $x*)|'O'=>`(of_decide_eq_false $x*)|'9'=>`((Mx.jC d).2 $x*)|'a'=>`(Except Fault $x*)|'S'=>`(At x l L R X $x*)|'N'=>`(eatWord e $x*)|'I'=>`(Paired.length $x*)|'X'=>`((live M s).map $x*)|'7'=>`(filter_bind $x*)|'6'=>`(cellsFrom $x*)|'Q'=>`(t.drop $x*)|'F'=>`(ja (t5 _ _) $x*)|'v'=>`(qP e row d $x*)|'e'=>`(a.one.bind $x*)|'E'=>`(j7 t H $x*)|'A'=>`(jL t m $x*)|'1'=>`(l.filterMap $x*)|'b'=>`(eatSign $x*)|'W'=>`(ko t F $x*)|'5'=>`(Turn P w K $x*)|'d'=>`(partsAll $x*)|'J'=>`(.iT o $x*)|'s'=>`(w.lookup $x*)|'y'=>`(t.own $x*)|'z'=>`(s3.trans $x*)|'G'=>`(Told H Q $x*)|'2'=>`(backTo $x*)|'r'=>`(I.pin p $x*)|'P'=>`(qT P w K $x*)|'T'=>`(W m' σ' $x*)|'u'=>`(kvs.map $x*)|'j'=>`(Rs G.Cr $x*)|'m'=>`(jl @z $x*)|'4'=>`(iW (a @t s σ H _ I h) $x*)|'D'=>`(.L ac .an $x*)|'k'=>`(.L g .an $x*)|'K'=>`(lQ .bI X.w $x*)|'g'=>`(lT g @z $x*)|'C'=>`(h3.keep $x*)|'L'=>`(.BoolOp $x*)|'n'=>`(pick z $x*)|'Z'=>`(pick U $x*)|'p'=>`(k.no a $x*)|'0'=>`(k.no J $x*)|'x'=>`(ah _ _ $x*)|'V'=>`(s2 _ _ $x*)|'Y'=>`(qd L a $x*)|'U'=>`(kidsOf $x*)|'R'=>`(jB r H $x*)|'H'=>`(Paired $x*)|'3'=>`(f σ H $x*)|'8'=>`(.L ab $x*)|_=>q_n
def y_d(b:Char)(x:Lean.TSyntaxArray `term):q_M:=match b with|'w'=>`(.Attribute $x*)|'H'=>`(nQ P w K mg $x*)|'q'=>`(redirect $x*)|'i'=>`(Ref H Q $x*)|'c'=>`(ka.same $x*)|'D'=>`((t.drop i).takeWhile $x*)|'1'=>`(qs.map $x*)|'A'=>`(wpAny _ A.in1 $x*)|'8'=>`((lz g).recs.take $x*)|'E'=>`(us.head?.any $x*)|'6'=>`((Mx.o (o2 B)).bind $x*)|'B'=>`(.error $x*)|'j'=>`(putAt n $x*)|'7'=>`(.dict $x*)|'V'=>`(zF (tk:=m.toks) $x*)|'d'=>`(Made R p D B $x*)|'O'=>`(I.base.free b o $x*)|'S'=>`(.Subscript o i $x*)|'t'=>`(.Constant $x*)|'n'=>`(rec_of h.nd $x*)|'f'=>`(nH _ _ _ _ $x*)|'J'=>`(jK (i:=5) $x*)|'b'=>`(i8 (i:=5) $x*)|'z'=>`(s.TypeIs $x*)|'u'=>`(iW (k @t s σ H _ I h) $x*)|'r'=>`(tp .E .E h r $x*)|'C'=>`(oZ g @z .bx $x*)|'y'=>`(.an (.bq p) $x*)|'Z'=>`(@H base .de $x*)|'s'=>`(kq .bI X.w $x*)|'X'=>`(stepT g @z $x*)|'Q'=>`(wpAny M A $x*)|'l'=>`(Y (.ax .ad iY .ai) $x*)|'2'=>`(hy _ L .bN $x*)|'e'=>`(Ext.same $x*)|'k'=>`(.f1 .ad $x*)|'3'=>`(kA uY .z $x*)|'0'=>`(xR (K:=K) $x*)|'v'=>`(uF X @t $x*)|'G'=>`(u'.trans $x*)|'M'=>`(tX B I u $x*)|'N'=>`(kK t .dq $x*)|'a'=>`(jB.same $x*)|'4'=>`(sm.trans $x*)|'5'=>`(mu r a H $x*)|'W'=>`(kL isNum $x*)|'R'=>`(iD X.K H $x*)|'F'=>`(c.trans $x*)|'I'=>`(U.trans $x*)|'L'=>`(Mx.pK g $x*)|'g'=>`(uT _ _ $x*)|'Y'=>`(o7 H qs $x*)|'h'=>`(lp .aM $x*)|'9'=>`(hy.keep $x*)|'P'=>`(L.trans $x*)|'U'=>`(@z @L $x*)|_=>q_n
def y_e(b:Char)(x:Lean.TSyntaxArray `term):q_M:=match b with|'B'=>`(F.recs.map $x*)|'6'=>`(hr.mono $x*)|'n'=>`(s.heap.update $x*)|'I'=>`(M.no _ $x*)|'T'=>`(eval e $x*)|'G'=>`(wpAny (model prog w) A $x*)|'k'=>`(attributeBase $x*)|'8'=>`((ef p lv t b).lookup $x*)|'V'=>`(a.names.lookup $x*)|'S'=>`(codeAny (model H w) $x*)|'Q'=>`(D.kept (t':=m.toks) $x*)|'W'=>`(h.IsKeyIter C d i $x*)|'g'=>`(Q (.bl ij) $x*)|'y'=>`(iX (kC t H) as $x*)|'L'=>`(I.base.there b o $x*)|'j'=>`(beq_iff_eq.mp $x*)|'Z'=>`(L.bi _ _ _ _ _ $x*)|'U'=>`(Binds X.K a ps $x*)|'m'=>`(iN .bI X.w X.K X.mg .dQ B k f $x*)|'u'=>`(.an (.dw o "take" t) $x*)|'5'=>`(qk g @z .bx a k $x*)|'F'=>`(y4 (IK H w) .O $x*)|'p'=>`(acc (ki e .cy) $x*)|'i'=>`(xu K (@h C) $x*)|'9'=>`(wV l H X p $x*)|'N'=>`(Q (.bl f') $x*)|'d'=>`(.dH base C $x*)|'b'=>`(@t (o:=.kg 0) $x*)|'0'=>`(l5 (F.ex _ _ @h) $x*)|'t'=>`(after g @z $x*)|'a'=>`(getD_some $x*)|'Y'=>`(Codec.encAll $x*)|'J'=>`(k.told a y $x*)|'H'=>`(elts H w g $x*)|'h'=>`(assignEach $x*)|'f'=>`(I.je.fresh $x*)|'e'=>`(I.cell x c $x*)|'1'=>`(l5 (BQ @h) $x*)|'4'=>`(attrsAt g p $x*)|'P'=>`(E9 X @t σ $x*)|'X'=>`(.Tuple elts $x*)|'c'=>`(vQ S T A $x*)|'w'=>`(ue (i:=2) $x*)|'s'=>`(l.flatMap $x*)|'v'=>`(jK (i:=4) $x*)|'C'=>`(i8 (i:=6) $x*)|'7'=>`(jb .eC .eC $x*)|'K'=>`(ja I.ok.vF $x*)|'2'=>`(b.one.bind $x*)|'D'=>`(s2.trans $x*)|'z'=>`(rs.find? $x*)|'o'=>`(pf K .mI $x*)|'E'=>`(leap .aM $x*)|'R'=>`(T.obj _ _ $x*)|'M'=>`(Inv X @t $x*)|'3'=>`(CY (a:=a) $x*)|_=>q_n
def y_f(b:Char)(x:Lean.TSyntaxArray `term):q_M:=match b with|'a'=>`(At x l H R X a lv us $x*)|'x'=>`(mK C c p H d x S g i7 P G l $x*)|'j'=>`(iF ((xs++[x]).map lO) $x*)|'6'=>`(t.probeStart $x*)|'p'=>`(M.recs.map $x*)|'1'=>`(lP lE rO rN rT $x*)|'T'=>`(Raw.node x.1.text x.1.pos v.1 $x*)|'k'=>`(order.filterMap $x*)|'c'=>`((prodF n l h Q w).lookup $x*)|'d'=>`((B'.keepR u9).lst $x*)|'l'=>`(Done t D A G H g0 g1 Q $x*)|'I'=>`(I.laid (a:=s.heap.objs.size) $x*)|'S'=>`(mj e (row+1) $x*)|'N'=>`(compEnvC $x*)|'y'=>`(beq_eq_false_iff_ne.mpr $x*)|'U'=>`(r.takeWhile $x*)|'F'=>`(mO X (binaryOp .Add) $x*)|'5'=>`(probe.go t hashAt h $x*)|'C'=>`(.Compare a [m] [b] $x*)|'w'=>`(s.2.mem_iff.mp $x*)|'X'=>`(Mx.uu (.q (lv<30)) (.i1).2 a $x*)|'V'=>`(.L u C "is_digit" 1 .c4 AU $x*)|'D'=>`(iW (L @t s σ H _ I h) $x*)|'O'=>`(CQ yC x.typeIs Fi .z $x*)|'9'=>`(upd (upd HR g .d1) C $x*)|'Q'=>`(h @t s σ $x*)|'v'=>`(@t (o:=@E []) $x*)|'G'=>`(pj.some_of (v:=v) $x*)|'M'=>`(pushCells (.a8 .mt) $x*)|'2'=>`(upd (.bL I .ap) Lb $x*)|'R'=>`(kh K x qual st f $x*)|'z'=>`(I.base.keep b o $x*)|'P'=>`(entryFor table $x*)|'Z'=>`(.dc (Cr:=G.Cr) $x*)|'0'=>`(g x (.aW c) L $x*)|'7'=>`(JM w I d f ep $x*)|'B'=>`(EP X @t σ Q $x*)|'3'=>`((t.P[i]?).map $x*)|'b'=>`(EK C x l j $x*)|'h'=>`(@H ag .aG $x*)|'g'=>`(@H aa .aG $x*)|'A'=>`(isTrue e .M $x*)|'K'=>`(bindL kindOf $x*)|'L'=>`(bindC kindOf $x*)|'E'=>`(T.keep _ _ _ $x*)|'W'=>`(R.next x n H $x*)|'H'=>`(Meth X.K C m $x*)|'Y'=>`(B.skip y .E $x*)|'J'=>`(z8 P w K mg $x*)|'8'=>`(upd C l .hQ $x*)|'f'=>`(qx hu @M $x*)|'m'=>`(nj (zW K) $x*)|'e'=>`(jK (i:=1) $x*)|'4'=>`(Mx.sr g @z $x*)|'q'=>`(.bI d .Ib $x*)|'u'=>`(@t p _ _ $x*)|'o'=>`(.L k .an $x*)|_=>q_n
def y_g(b:Char)(x:Lean.TSyntaxArray `term):q_M:=match b with|'Y'=>`(Ek (n:=kvs.length) Pv a (λσ H p=>#[c _ σ H p,jw _]) (λi σ H t p=>#[c i σ H p,t]) $x*)|'E'=>`(k D (I.QD T r1 r2 r3 r4 (λb l hn o q=>?_) (OK I T λb l=>(L b l).1)) $x*)|'1'=>`(Mx.attach st $x*)|'U'=>`(D (hk.mp h) _ (B.next m e (by grind[Gh])) $x*)|'2'=>`(Ca (name:=mF "__next__") $x*)|'j'=>`((w.2 b (mT (oN (jZ e) (I.ok.E6 x c ab B)))).trans $x*)|'4'=>`(g.recs.map $x*)|'i'=>`((w.2 b (mT (oN (jZ e) I.ok.above))).trans $x*)|'p'=>`(envOfC qual $x*)|'7'=>`(pU t B I u $x*)|'c'=>`(D7 t B I u o H (Ref H Q) $x*)|'h'=>`(I.step (g':=s.gens) (d':=s.drawn) $x*)|'z'=>`(Cw m.base m.uI m.line Kc yC Rx $x*)|'n'=>`(Kl (h₀:=X.base) I.ok.mod.BS $x*)|'3'=>`(uN vH g.typeIs J8 ?_ $x*)|'w'=>`(X.pz s H $x*)|'G'=>`((lD wElse q.2).bind $x*)|'L'=>`(Ms .bI X.w X.K X.mg .dQ C $x*)|'x'=>`(compPost (model .bI X.w) X.A .ao ab Qf (@h D) $x*)|'H'=>`(attach k (@z+.bz) $x*)|'A'=>`(.cM (λb ob l e=>.pD b l e) $x*)|'K'=>`(zA w M.R.cl m G c b .nil $x*)|'M'=>`(.an (.aS "leave" t) $x*)|'6'=>`((M.recs.take i).flatMap $x*)|'5'=>`(iy (.ha (.jb (jF (.js 2))) jn) $x*)|'8'=>`(jh (ju mH @M .fo .aw) $x*)|'0'=>`(Mx.qw (kind:=Mx.isNum) $x*)|'Q'=>`(B.take y .E (AD B.ok) $x*)|'T'=>`(iy (jf (.ra I T 0 1)) $x*)|'O'=>`((Mx.jC (31-(lv+1))).2 $x*)|'f'=>`(s.heap.FunFrames .dQ $x*)|'9'=>`(Told.new (zs:=[-13]) $x*)|'q'=>`(I.laid (t':=s.toks) $x*)|'g'=>`(I.base.slot b o e n $x*)|'C'=>`(Dw.readsAll a I Q _ $x*)|'F'=>`((lD wThen q.2).bind $x*)|'B'=>`((sb.2 b .q).trans $x*)|'V'=>`((EI n dl g).lookup $x*)|'R'=>`(km C c l R X lv H $x*)|'N'=>`(EB C x l R X lv H $x*)|'u'=>`(Dp.readsAll I Q _ $x*)|'Z'=>`((yf p v c).lookup $x*)|'I'=>`((g.prods[i]?).map $x*)|'y'=>`(.an (.aS "get" t) $x*)|'d'=>`(s.sym t.ok f $x*)|'e'=>`(Cq S g T A n $x*)|'W'=>`(lZ.k (k:=.jR nm) $x*)|'m'=>`(iW (.fQ H _ I p) $x*)|'b'=>`(upd m U .f2 $x*)|'s'=>`(s.heap.IsList l $x*)|'k'=>`(Q (.j6 (x=.iM)) $x*)|'D'=>`(Codec.denoteAll $x*)|'J'=>`((rf l n).lookup $x*)|'a'=>`(.az g .wT $x*)|'X'=>`(.pb sm.trans s4 $x*)|_=>q_n
def y_h(b:Char)(x:Lean.TSyntaxArray `term):q_M:=match b with|'Q'=>`(kr (own:=[("number",3)]) $x*)|'n'=>`(["enumerate","zip","dict_itemiterator","dict_reverseitemiterator","odict_iterator","itertools.zip_longest","itertools.pairwise"].contains $x*)|'I'=>`(U.recs.map $x*)|'Z'=>`(((CK T.base T.one++CK T.base T.two).filter λn=>!(rh T).contains n).map $x*)|'o'=>`(concat_meets #[_,k,y] #[_,h,y] noFill_tuple_add seq_tuple_add aa' aaZ $x*)|'4'=>`(readKids h m $x*)|'c'=>`(jx "trees" $x*)|'7'=>`(foldedSetIterable iter $x*)|'9'=>`(s.setIfInBounds j $x*)|'q'=>`(l.foldl (λn k=>n.bind λa=>(sizeIn m k.name).map λb=>a+b) $x*)|'R'=>`(Fits t B I u $x*)|'3'=>`(m.heap.push $x*)|'8'=>`((Mx.o5 (u.length+1) u).bind $x*)|'6'=>`(iH (m:=firstArgMember _ _) $x*)|'5'=>`((.cQ .ah).takeWhile $x*)|'P'=>`(lX (te:=sD (jW (tC (.h 2)) (.mY 3 4))) (g:=JJ K 2 (zR (qR 3) (zR (qR 4) JK))) y $x*)|'2'=>`(Paired (λ(x:Key×V)(e:sW)=>qQ x.1 e.key=f'/\e.hash=QX w x.1/\.am x.2 e.val) kvs $x*)|'a'=>`(jh (ju mW .ad iY .aw) $x*)|'N'=>`(((kH (CN B n).length).filter λk=>! .q ((CN S n)[k]? =(CN B n)[k]?)).map $x*)|'M'=>`(upd H6 D.sl (@E (pick U [@h ae,@h D.a1] [@h D.a0,@h ae])) $x*)|'j'=>`(.L u c.g.C "answer_of" 195 .fp $x*)|'C'=>`(kh K "count_part" "Expression.count_part" Oc $x*)|'Y'=>`(((rh T).filter λn=>.q (1<FF n (KZ T))).map $x*)|'f'=>`(upd (@z x (.own d)) d $x*)|'e'=>`(.bb "Desk.__init__" Hy $x*)|'r'=>`(Callee .bI X.w X.K X.mg .dQ C x k ps r f $x*)|'i'=>`(Kont Cd C3 c Lt H d Q $x*)|'k'=>`((I.je b u e).vz (λc v B q=>k c v ?_ q) $x*)|'H'=>`(kA (Mv (shape:=Rf)) .z ab boot_sorted $x*)|'b'=>`(Told.new (zs:=[z]) h $x*)|'V'=>`(.al "begin_with" 3 .sB (OC C C3 t) fb $x*)|'W'=>`((a.recs.filter λr=>!has TS .am).map $x*)|'E'=>`(kh K "leave" "Expression.leave" Oa $x*)|'D'=>`(kh K "enter" "Expression.enter" Ob $x*)|'T'=>`(jb ["trees","merge","refusal"] .bo $x*)|'p'=>`(Cw (T:="dict") (id:="dict.values") $x*)|'L'=>`(jb ["trees","side","refusal"] .lp $x*)|'1'=>`(mK Cd c Lt H' d dd S g i7 P G ga $x*)|'S'=>`(jb ["trees","which","tree"] .eS $x*)|'O'=>`(jb ["base","tree","number"] .ca $x*)|'u'=>`(YI G.ok c q G.E4 G.kp G.bd .nil $x*)|'h'=>`(St.keep U _ _ d S $x*)|'w'=>`(.L u C "is_letter" 1 .c4 L1 f1 $x*)|'v'=>`(jb ["text","place","end"] .ey $x*)|'z'=>`(kh K "take" "Reader.take" Pj $x*)|'A'=>`(kh K "skip" "Reader.skip" Pk $x*)|'y'=>`(kh K "kind" "Reader.kind" Pl $x*)|'0'=>`(Done .aH D A G H .cb .cc Q F $x*)|'X'=>`(((rh T).filter λn=>.IP).map $x*)|'U'=>`(.bb "ThreeTrees.__init__" Pf $x*)|'G'=>`(.bb "Production.__init__" Lp $x*)|'B'=>`(.bb "Expression.__init__" Pp $x*)|'J'=>`(.of (owner:="set_iterator") $x*)|'F'=>`(.z "read_arguments" Hx .qQ $x*)|'K'=>`(@t (o:=@L [.h .ii,.Jh]) $x*)|_=>q_n
def y_i(b:Char)(x:Lean.TSyntaxArray `term):q_M:=match b with|'e'=>`((order w d ep es).toList.map $x*)|'c'=>`(B.recs.map $x*)|'a'=>`(j7 t H' (pick U D.a0 D.a1) $x*)|'b'=>`(nj (qB λi j=>V.bl (.q (j<i))) (nj (qB λi j=>@Z (i-j)) (i9 2) .fV) $x*)|_=>q_n
def y_j(b:Char)(x:Lean.Term):q_M:=match b with|'s'=>`(Y (J $x) iw)|'g'=>`(iL (J $x) y)|'i'=>`(O (.lst $x))|'f'=>`(iO ($x :Int))|'r'=>`(by cases $x:term)|'q'=>`(V.int ($x :Int))|'w'=>`(il (by rw[$x:term];decide))|'j'=>`(.str (txt $x))|'V'=>`(O (.tup $x))|'N'=>`(($x==sysModules)=ij)|'y'=>`(bind_some $x)|'4'=>`(kj (j:=$x) y)|'R'=>`(kR (txt $x))|'0'=>`(by simpa using $x)|'8'=>`(X.A.units+$x<cLine)|'z'=>`(K.lookup $x)|'7'=>`(by have:=$x;omega)|'P'=>`(by rw[$x:term];rfl)|'Q'=>`((o1.mp $x).1)|'5'=>`(iC (my $x))|'1'=>`(O (.bl $x))|'J'=>`(jy $x X.A)|'a'=>`(O (@h $x))|'b'=>`(iE (iR $x))|'A'=>`(by show $x<=@Q;decide)|'K'=>`(kr (own:=[$x]) .z)|'l'=>`(.n #[y,_,@D $x])|'T'=>`(.ji ($x V.ref))|'L'=>`(ja (.lH $x) .E)|'n'=>`(.h ($x :Int))|'h'=>`(O (.h $x))|'d'=>`(#[_,@D $x])|'x'=>`(iE (jf $x))|'u'=>`(ja $x .E)|'o'=>`(O (.dK $x))|'D'=>`(.n (@D $x))|'U'=>`(.ji (iK $x))|'6'=>`(.bl (.q $x))|'F'=>`(#[y,mY $x])|'p'=>`(.di (-$x))|'B'=>`(.bW $x=f')|'H'=>`(.aP $x=O o)|'9'=>`(.aT $x .eC [])|'W'=>`(#[_,.jb $x,?_])|'2'=>`(@n (.n $x))|'Y'=>`(#[W,$x,?_])|'Z'=>`(iE (iR $x))|'G'=>`(.aU≠$x)|'I'=>`(O (O $x))|'3'=>`(by rw[$x:term])|'O'=>`(#[$x,?_])|_=>q_n
def y_k(b:Char)(x:Lean.Term):q_M:=match b with|'Q'=>`(iE (iR (jF (Y $x iw))))|'i'=>`(absurd (show ij=f' from $x) nE)|'u'=>`(X.env.scope.names.lookup $x)|'h'=>`((show False from $x).elim)|'5'=>`($x∈X.ex\/X.mM.heap.objs.size<=$x)|'d'=>`(of_decide_eq_true $x)|'P'=>`(nh K (i9 $x) "nodes")|'o'=>`(iE (tG $x iI))|'k'=>`(by rw[i0];exact $x)|'4'=>`(by let#[_,l',_,e,_]:=$x;grind)|'A'=>`(λ_ _ _ _ _=>J $x)|'t'=>`(pY S (-$x))|'v'=>`(by rw[<-$x:term];rfl)|'a'=>`(O (.own $x))|'g'=>`(@E [.h $x])|'s'=>`(#[_,y,_,.n #[_,@D $x,y],?_])|'m'=>`(if .bW $x=f' then _ else _)|'Z'=>`(#[$x,_,y,@n .uS,y,y,_,y,?_])|'e'=>`(Y .ae (Y @M $x))|'y'=>`(.b0 $x G.C G.Cr G.Ce)|'0'=>`(@E ([]++[@h $x]))|'K'=>`((lz $x).recs.map .al)|'x'=>`(.aa (txt $x))|'z'=>`(.aB $x (.aE .a6))|'j'=>`(.n (@n $x))|'b'=>`(eval $x .M)|'C'=>`(O (@I $x))|'N'=>`(jh (ju tJ $x .fo .aw) (.kQ .fo) jn)|'f'=>`(Y (.jg $x) iw)|'O'=>`(.jb (jF (.js $x)))|'G'=>`(λ_ _ _ _ _=>rX (tF $x))|'H'=>`(by rw[lj];exact .ju $x)|'V'=>`(jf (.ch .ad (Y $x iw)))|'Y'=>`((($x).map .al).Nodup)|'1'=>`(tB (DP .gm (.kP $x)))|'M'=>`(@z $x (@L .sx))|'r'=>`(.jV (uE $x))|'U'=>`(λ_ _ _ _ _=>.jg $x)|'6'=>`(∀p∈X.pn++@t,p.1≠$x)|'I'=>`(qp (.lH $x) .E)|'8'=>`(by rw[nv];exact#[$x,.h])|'E'=>`(.jK ("name",$x))|'W'=>`(kr (own:=[$x]) .z)|'c'=>`(.ms L.ex $x)|'T'=>`(ED X.N .j7 $x own)|'7'=>`((O $x :.E R).filter qg)|'B'=>`(.q (.lL $x))|'X'=>`(.jK ("child",$x))|'R'=>`(some (@h $x))|'J'=>`(runEnd .aM $x)|'9'=>`(@E (.eu++[@h $x]))|'w'=>`(isTup $x=ij)|'q'=>`(iE (jf $x))|'2'=>`(Y (iL $x y) iw)|'S'=>`(! .q ($x=.iM))|_=>q_n
def y_l(b:Char)(x:Lean.Term):q_M:=match b with|'H'=>`(show _<=$x by omega)|'m'=>`(.dK (iF $x S.recs))|'L'=>`(rs.kids[$x]? =a.kids[$x]?)|'g'=>`((!(iK ($x).reverse).isEmpty)=f')|'f'=>`(#[$x,_,y,jz.of iG,y,_,_,y,_,_,y,y,?_])|'K'=>`(.Name "set" $x)|'b'=>`(iq (show .aa $x=.aa "number"by rw[hk]))|'o'=>`(some (@E (($x).map .a6)))|'A'=>`(#[_,y,.n #[y,_,@D iG],_,y,$x,_,_,y,y,iG,?_,_,y,?_])|'h'=>`(ja (show _<=$x by grind) .E)|'v'=>`(if .qS=ij then e' else(.c9 $x .cI).bind λq=>.FP)|'y'=>`(sD (jW (nh K (i9 $x) "name") (jW (i9 $x) ma)))|'l'=>`(MR y .bn (Y (kA oA .z .bn lN $x) iw))|'d'=>`(.J (.h _) (.J $x .nil))|'F'=>`(wb (U1 y) .z (.eI .E) boot_list (Y $x iw))|'w'=>`(by have:=aaT.mp $x;grind[pairsOf_toList])|'c'=>`(by rw[we];exact .ju $x)|'z'=>`(λ_ _ _ _ _=>l7 (Y (.jg $x) (.js $x)))|'p'=>`(wpAny_execs_cons (iW $x λf m q=>?_))|'C'=>`(if(.q $x||.q .jn)=f' then _ else _)|'j'=>`(#[U,_,$x,.dE,λl=>?_])|'x'=>`(by have:=.aA yY $x;simpa using this)|'E'=>`(λ_ _ _ _ _=>l7 (Y .ak (Y $x iw)))|'G'=>`((xE S $x).2.code::(xE S $x).2.out)|'q'=>`(backToKw $x (keywordEach [] .M))|'r'=>`(.j2 #[by simp only;rw[ip $x],$x])|'B'=>`(λi=>by rw[<-vI,$x:term];exact jI ..)|'a'=>`(ta ((xD $x).mp hk))|'i'=>`(.jb (jF (Y iY $x)))|'u'=>`(by let#[f,a,G,w,m]:=$x;ext cV)|'s'=>`(O (@E (($x).map λb=>.aa .kT)))|_=>q_n
def y_m(b:Char)(x y:Lean.Term):q_M:=match b with|'b'=>`(Y (J $x) (Y (J $y) iw))|'a'=>`(by rw[iC $x];exact $y)|'w'=>`(starEach ($x ::$y) X.env=(ij,eval $x X.env)::starEach $y X.env)|'X'=>`(by show $x<$y;decide)|'c'=>`(iC (jg $x $y))|'f'=>`(($x $y).length)|'n'=>`(inClass (top $x) $y)|'j'=>`(by rw[$x:term];exact $y)|'y'=>`(by rw[<-$x:term];exact $y)|'Y'=>`(jW (i9 $x) (jW (i9 $y) ma))|'G'=>`(($x :Int)<($y :Int))|'0'=>`(($x $y).trans (Ext.upd y))|'A'=>`(xs[$x]? =O $y)|'7'=>`($x (by have:=V.int.inj $y;omega))|'S'=>`(ir (show¬$x<=$y by omega))|'s'=>`($x _ _ _ _ $y)|'B'=>`(jr.mpr #[$x,$y,y])|'5'=>`(#[$x,_,_,y,y,$y,?_,?_])|'K'=>`(s[$x]? =O (O $y))|'l'=>`(kU (v:=@h $x) .z $y y)|'u'=>`(kA oA .z $x lN (.js $y))|'P'=>`(kU (v:=.h $x) .z $y .br)|'z'=>`((.c2 $x (.bH $y .M)).any .bS=ij)|'q'=>`($x (b:=$y) .z .E)|'I'=>`(jf (nM $x $y iI .ae))|'x'=>`(wipe $x $y=.aW $y)|'6'=>`(kW (r8 $x $y .ae))|'h'=>`(.ad $x $y=f')|'O'=>`(λa b q=>.bD (.dc $x) $y)|'i'=>`(O (.h $x $y))|'9'=>`(.dH $x .an "Node" .aQ $y zM)|'J'=>`($x λa b q=>.bD $y)|'Q'=>`(Rs .fX $x R $y)|'N'=>`(.n ($x _ _ $y))|'d'=>`(#[_,iy $x $y,?_])|'3'=>`(by rw[oB $x];exact .ju $y)|'R'=>`(.aw (spliced $x) _ _ $y)|'L'=>`(iH (Au $x $y @I ?_))|'8'=>`(by rw[i0,$x:term];exact .ju $y)|'U'=>`(iy (jf $x) (iE $y))|'v'=>`(@D ($x _ _ $y))|'2'=>`(@t (o:=@E $x) $y)|'H'=>`(nM $x $y iI .ae)|'r'=>`(.dB #[$x,$y])|'1'=>`(iX (rI G $x) $y S)|'W'=>`((@t $x).trans $y)|'t'=>`(.ad $x $y=ij)|'T'=>`(PW.pt (Bu $x $y))|'D'=>`(.aH (jt $x $y))|'4'=>`(.ma (jg $x $y) $x)|'F'=>`(ps[$x]? =O $y)|_=>q_n
def y_n(b:Char)(x y:Lean.Term):q_M:=match b with|'u'=>`(if jP $x $y=f' then _ else _)|'h'=>`(o.data=.dict $x $y)|'Z'=>`(by show(if $x $y=f' then _ else _)=_;grind)|'I'=>`(rW (λq=>$x (by have:=C2 $y;omega)))|'E'=>`((qH $x).trans (qG (Ext.same $y)))|'5'=>`(by show jN (($x).map _) _=_;rw[j6,rW $y];rfl)|'y'=>`(iq (show($x :Int)<=$y by omega))|'R'=>`({gram:=O $x,trees:=O (CS $y)})|'b'=>`(sD (jW (tC (.h $x)) (jW .gm (jW (tC (.h $y)) ma))))|'f'=>`(@E [.h .ls,.h $x,.h $y])|'Q'=>`(show(tK @z $x $y).prod=.fb from y)|'a'=>`(.dH $x .an "Tree" .ar $y zL)|'p'=>`(.dA (pyNext (@h $x)>>=_) _ _ $y)|'1'=>`(kW (iS $x $y iI (Y (.ax .ae .ad .ai) iw)))|'K'=>`(ir (show¬.mG $x $y by omega))|'7'=>`(λ_ _ _ _ _=>by exact zG y (rr $x $y))|'J'=>`(iq (show .mG $x $y by omega))|'w'=>`(by show(.nu $x $y)=_;grind)|'2'=>`($x "GREAT_LETTERS"=O (@I vB $y))|'Y'=>`(∀(s:iV)(us:.Y),.cQ=.bh->A9 $x $y .kg .mf)|'D'=>`((($x).bind λg=>O $y).map .Gi)|'X'=>`(.Z (show $x∈([]:@D)from $y) @I)|'8'=>`(if .gA=$x then $y else .gA)|'n'=>`(eval (.an $x [] [] $y) .M)|'9'=>`(#[_,y,$x,_,y,.n $y,_,_,y,y,_,y,?_])|'t'=>`(jh (kW $x) (.jb $y) jn)|'U'=>`(by subst z;rw[$x:term]at g;exact $y)|'F'=>`($x λa b q=>.bD (qH $y))|'k'=>`(.q (@Z $x=@Z $y))|'M'=>`(.tuple [.h $x,.h $y])|'3'=>`(jh (ju ua @M $x .z) (.jb $y) jn)|'4'=>`(ju mH (um $x $y .ae) n6 .aw)|'v'=>`(by rw[lh $x];exact $y)|'i'=>`(.Z (oN $x $y) (AA _))|'q'=>`((o $x).map (λq=>$y))|'j'=>`(.H (.bq $x) (i9 $y))|'0'=>`(ju Eu .ad (.mu $x $y) .aw)|'6'=>`(tS _ _ _ (Wh _ $x $y) _)|'W'=>`(if $x<$y then-$x else $x)|'H'=>`(.d3 $x lN (.kf $y))|_=>q_n
def y_o(b:Char)(x y:Lean.Term):q_M:=match b with|'n'=>`($x $y=O .cell\/$x $y=O .free)|'v'=>`(if has $x $y=f' then eraseAt $x (below $x $y)else $x)|'b'=>`(by let#[_,_,_,_,_,_,_,z]:=$x;exact $y)|'i'=>`(if .a7=$x then $y else F.root)|'e'=>`(by rw[iC (mI $x $y @I)];exact $x)|'a'=>`(.n (.n (.ma (mI $x $y .lr) $x)))|'F'=>`(match S.gram,S.trees with|O g,O T=>.ay $x|_,_=>.kt $y)|'E'=>`(by rw[jr,jr];exact#[λ#[n,h,e]=>$x,λ#[n,h,e]=>$y])|'z'=>`(Y (.jg $x) (Y (.jg $x) (Y (Iy $y y y @I .E) iw)))|'x'=>`(O {cls:=.dU,dict:=e',data:=.seq $x $y,slots:=.cU})|'y'=>`(by have:=AR (show(($x :Int)==U)=f' from $y);omega)|'D'=>`(.pI (ju Bv .ad pJ .z) (.kQ .fo) (lu vj $x $y))|'o'=>`(ir (show¬.aa $x=.aa "end"from λq=>$y .na))|'A'=>`(QV $x Hi (λ_ _ _ ok=>iE $y) (λ_=>.kQ .fo))|'j'=>`(LG (f:=lb $x) (λn=>?_) $y)|'w'=>`(i6 #[_,y,"set_iterator",_,$x,Ba.lookup,$y])|'C'=>`(λ_ _ _ _ _=>rX (kW (n8 Gc $x (Y $y iw))))|'m'=>`(Ai (iW $x λus m#[g,B,D,r1,L]=>?_) $y y)|'u'=>`(#[_,y,.jl $x,$y,_,.cd,y,y,$x,@E,?_])|'t'=>`(if .k9 then e' else(tU $x .ah $y).map .zK)|'q'=>`(#[_,y,$x,_,y,@n ($y _),y,.Q,_,y,?_])|'g'=>`(jW (rE $x [] .g8 $y) ma)|'p'=>`(by unfold kG.next;rw[iC $x];exact $y)|'B'=>`(.n (@n #[o,.ma (mI $x $y .lr) $x]))|_=>q_n
def y_p(b:Char)(x y z:Lean.Term):q_M:=match b with|'A'=>`(.iT $x (.dK (iF $y $z)))|'a'=>`(upd $x $y (.lst $z))|'3'=>`(λx=>if $x=$y then $z else if $x=$z then $y else $x)|'f'=>`(by rw[iC $x];exact $y _ _ $z)|'h'=>`({$x with heap:=$y,toks:=$z})|'m'=>`(upd $x $y (.dK $z))|'d'=>`($x _ _ ($y _ _ $z))|'b'=>`(($x $y).trans $z)|'j'=>`((jq $x $y).getD $z)|'F'=>`(λn=>(($x :Int),nF $y,($z :Int)))|'D'=>`((sb.2 $x $y).trans $z)|'7'=>`(($x $y x.2).bind _=($x $z x.2).bind _)|'W'=>`(λm=>if m.1=$x then(m.1,$y)else $z)|'B'=>`(if $x then $y else $z)|'i'=>`(O (.ak .ar $x (oS $y $z)))|'e'=>`(iS $x $y iI (.js $z))|'S'=>`((.bB $x $y $z .aK).bind _=_)|'p'=>`(∃ys,$x $y=.ji $z)|'P'=>`(iU ($x $y .bN (by show $z=ij;grind)))|'O'=>`(∀H:Hp,.aJ $x [.h $y,.h $z])|'E'=>`(if $x=$y then $z else $x)|'8'=>`((.aq $x ($y).2).bind λu=>.h8 λrs=>O ($z,rs.2))|'V'=>`(λb o e=>.pf (jg $x $y) $z $x)|'G'=>`(#[.h $x,$y,.bH,.br,$z])|'c'=>`($x (.bl $y) $z)|'y'=>`(iS $x $y iI (Y $z iw))|'4'=>`(.dr ($x $y y) y λs f m u=>@n (@n $z))|'Z'=>`(by rw[i0,i0,$x:term,$y:term];exact .jL $z)|'J'=>`(upd $x $y (.dK $z) $y)|'U'=>`(.I (.pm $x $y (.bg $z)))|'I'=>`(iy (jh $x $y jn) (.jb $z))|'Q'=>`(sE λx=>[$x,iz $y,$z])|'v'=>`(.jb (qS $x $y $z))|'5'=>`(swapsWith $x (O $y) $z .M=pure ij)|'T'=>`(iy (jf $x) (iy $y $z))|'u'=>`(jf (.py $x $y $z))|'6'=>`((o (.cb $x $y ($z).2>>=_)).map _=_)|'X'=>`(jP $x $y||(jP $z $y||ij))|'Y'=>`(∀L,.I->$x (.h $y) $z)|'M'=>`(.bQ (jL $x $y $z).j)|_=>q_n
def y_q(b:Char)(x y z:Lean.Term):q_M:=match b with|'h'=>`(l8 ($x $y $z) (r1.kids.getD $y $z) (r2.kids.getD $y $z))|'f'=>`(iQ #[_,y,$x _ $y .bN (by show $z=f';grind) y])|'a'=>`(λb o e=>by rw[.mc $x $y,.mc $x $z];exact $x)|'x'=>`(#[$x,_,y,EL $y $z,y,_,_,y,_,_,y,y,y,mY #[_,y,_,y,@Z,by grind[iu.new,xO]]])|'y'=>`(λI e=>by let#[qs,L,g]:=id $x;subst e;ext cJ;rw[iC (mI $y $z @I)];exact $y)|'D'=>`(∀(s:iV)(us:.Y),.cQ=(.lC:.bX).length->A9 $x $y .kg ((.lC:.bX).zip $z))|'o'=>`(iy (jh (ju tJ (lu Ef .ad @M) (.mP $x $y) .aw) (.ko $z) jn) .lf)|'q'=>`(.md (Hd .ae iY P8) (iE (jh (ju tJ .aE (.mP $x $y) .aw) (.ko $z) jn)))|'p'=>`(tS (EG (Eo (.ib (tC (.h $x)))) .Jk Ep) (EF (i9 $y)) .xS .qB $z)|'B'=>`(jf (.dk (Y (lX (te:=.nb $x $y) y vh.nd $z .jy .H0 .bA .sb) iw)))|'t'=>`(jx "children" $x (jx "value" $y (jx "production" $z [])))|'m'=>`(subscripted $x ij $y $z=operate [$y,$z] (getItem $y $z))|'A'=>`(λp U=>$x _ _ (@t U) (by show $y=f';grind) (xO $z U y))|'g'=>`(.pf (mI ($x _ _ $y) $z .lr) $x $y)|'s'=>`(jx "holds_number" $x (jx "left" $y (jx "name" $z [])))|'r'=>`(#[_,y,X.x,$x,X.dx,_,_,y,iG,$y,$z,.Q,_,_,y,y,_,y,.k2])|'k'=>`(λn=>(($x :Int),(nF $y),($z :Int)))|'l'=>`(∀{xs:.L}{us:.Y}(n:Nat),.eU->.ac ($x $y) ($z $y))|'u'=>`(uJ (uj $x $y $z (.Q:.b8 "set"=O .q5) ?_ .E .E))|'d'=>`(show $x+$y+$z=($x+$z)+$y by omega)|'v'=>`(∀p∈$x,U $y=.kr (vA U $y)/\vA U $y=vA $z $y)|'b'=>`(O (.ak .aQ $x (yf .hG $y $z)))|'n'=>`(PS X (.Raise (O (.an $x [] [] $y)) e' $z) .Jk)|'i'=>`((kH $x).map λi=>@z+($y+$z))|_=>q_n
def y_r(b:Char)(x y z u:Lean.Term):q_M:=match b with|'g'=>`(λb o e=>by rw[iC (jg $x $y)];exact $z _ _ ($u _ _ $x))|'b'=>`($x λa b z=>$y (ka.same $z) $u)|'k'=>`(show F.recs.find? (λr=>$x==$y)=O $z from $u)|'u'=>`(λa p=>($x $y).use $z $u)|'f'=>`(jh (ju mH @M (pC $x) .aw) (iE (iR (iS $y $z iI $u))) jn)|'a'=>`(iS $x $y iI (.mb $z $u))|'h'=>`(qu (H:=$x) (H':=$y) (x:=@E $z) $u y)|'j'=>`(.L $x G.C "demand" $y .q3 (A3 G.C) $z $u)|'v'=>`(.gw $x (.fN $x $y $z .M) $u)|'s'=>`(∀L,Rs .fX $x R $y->$x $z=.ji (iK ($u).reverse)->.vK->.eg $x)|'l'=>`(ir (show¬@Z $x=@Z $y from λq=>$z $u))|'c'=>`((.pb $x $y $z).trans $u)|'q'=>`(#[_,y,_,y,$x,_,y,uG.k (k:=.jf $y) $z $u,?_])|'D'=>`(sD (jW .gm (jW (nj (qB λi j=>.h ($x+$y)) (i9 $z) (tC (.h $u))) ma)))|'y'=>`(($x ($y .ag $z lo)).take ($y .ag .ag $u-$y .ag $z lo))|'i'=>`(.pa $x $y ($z .bZ++$u .bZ))|'m'=>`(∃acc,$x $y=O (@E acc)/\.kz<@Q/\$z (.pa $x $y $u))|'B'=>`(∀(f g:Nat)(ts:.aj),.av<$x->.av<$y->$z $x $u=$z $y $u)|'o'=>`(pG su (kA oA .z $x lN $y) (.mP $z $u) .aw)|'H'=>`(∀m∈$x,∀r,.fm->∃r2,.O $y ($z $u)=O r2/\r2.kids=.aO $z)|'z'=>`(#[_,y,X.x,$x,X.dx,_,_,y,U.ex,$y,$z,O6 _ _ _ _,.jl $u,_,y,?_])|'r'=>`(qu (H:=$x) (H':=$y) (x:=.dK $z) $u y)|'C'=>`(.a5 (.a6 [.h $x $y,.h $z $y,.aD,.h .a5 $y,.h $u $y]))|'E'=>`(($x (md $y $z) (Sd _ _)).symm.trans ($u _ (R4 _ _)))|_=>q_n
def y_s(b:Char)(x y z u v:Lean.Term):q_M:=match b with|'b'=>`($x $y=O (.ins $z $u $v))|'j'=>`((zm $x).mp (show $y∈live $z $u from $v))|'d'=>`(#[$x,y,zQ (s:=.em) $y $z $u .E $v])|'f'=>`(#[y,_,y,_,y,$x,.ar,$y,_,_,y,$z,.as,.bb,kI,$u,_,y,$v,_,y,?_])|'o'=>`(λx y H Q=>∃i j,$x=.cm/\y=.h $y/\$z (.h $u) $v)|'g'=>`($x $y (.aW $z) $u λl I=>.mx $v $z/\.JD)|'p'=>`(#[_,y,$x,.ar,$y,_,_,y,$z,.as,.bb,kI,U,$u,y,.n $v])|'c'=>`(iQ #[.jA $x,.ru $y $z $u $v])|'t'=>`(#[.h,by rw[$x:term];exact $y ($z $u),by rw[$x:term];exact ja (T7 $u) $v])|'s'=>`(∃i L,Inv .mx [] (.aW .km) $x $y/\$z $u .f8/\.ph/\W $u $v $x)|_=>q_n
local macro_rules|`(.$i $x*)=>match i.getId.toString.toList with|[b]=>y_0 b x|['a',b]=>y_a b x|['b',b]=>y_b b x|['c',b]=>y_c b x|['d',b]=>y_d b x|['e',b]=>y_e b x|['f',b]=>y_f b x|['g',b]=>y_g b x|['h',b]=>y_h b x|['i',b]=>y_i b x|['j',b]=>y_j b (q_g x 0)|['k',b]=>y_k b (q_g x 0)|['l',b]=>y_l b (q_g x 0)|['m',b]=>y_m b (q_g x 0) (q_g x 1)|['n',b]=>y_n b (q_g x 0) (q_g x 1)|['o',b]=>y_o b (q_g x 0) (q_g x 1)|['p',b]=>y_p b (q_g x 0) (q_g x 1) (q_g x 2)|['q',b]=>y_q b (q_g x 0) (q_g x 1) (q_g x 2)|['r',b]=>y_r b (q_g x 0) (q_g x 1) (q_g x 2) (q_g x 3)|['s',b]=>y_s b (q_g x 0) (q_g x 1) (q_g x 2) (q_g x 3) (q_g x 4)|_=>q_n
local macro_rules|`(@$i:ident $x*)=>match i.getId.toString.toList with|[b]=>y_1 b x|_=>q_n
local macro_rules|`(tactic|ext q)=>`(tactic|(intro pins s σ H Q I h))|`(tactic|ext ar)=>`(tactic|(refine iH ?_;first|refine iH (yA g.typeIs (i6 ?_))|refine iH (yB g.typeIs (i6 ?_))))|`(tactic|ext a3)=>`(tactic|(simp only[c,qE,if_false];show wpAny _ _ (if(jj d==pX)=f' then _ else _) _ _ s;rw[il (show¬((jj d==pX)=f')from nE)];refine iH (i6 ?_);refine iH (Fo r L ?_);rw[il (by rw[a];simp)]))|`(tactic|ext bA)=>`(tactic|(show _=(match(eatWord e wThen A>>=λu=>ki e (d+1) u>>=_:Got)with|.ok (x,us)=>_|.error _=>e');rw[D];show _=(match(ki e (d+1) U>>=λt=>eatWord e wElse t.2>>=_:Got)with|.ok (x,us)=>_|.error _=>e');rw[M]))|`(tactic|ext ag)=>`(tactic|(intro pins s σ H x C v u Q I f B h))|`(tactic|ext b7)=>`(tactic|(have h:(s.heap.update C (xw (·.setIfInBounds 1 (rawInt ((i:Int)+1))))).IsKeyIter C d (i+1) n ep:=#[_,Al _ k (Kf (yG T _)),(RS ..).trans B,by rw[yG T];simp[rawInt]];refine iH (sT ?_);refine iH (Ke (s:={s with heap:=s.heap.update C (xw (·.setIfInBounds 1 (rawInt ((i:Int)+1))))}) h.typeIs ?_);show wpAny _ _ (pure f[i].key) _ _ _;rw[m];exact i6 (i6 #[_,y,i6 (u _ h (xk ..))])))|`(tactic|ext H)=>`(tactic|(obtain⟨t',rfl⟩:=B))|`(tactic|ext E)=>`(tactic|(obtain⟨t,rfl⟩:=r))|`(tactic|ext I)=>`(tactic|(obtain⟨t,rfl⟩:=f))|`(tactic|ext h)=>`(tactic|(dsimp only))|`(tactic|ext n)=>`(tactic|(constructor))|`(tactic|ext Z)=>`(tactic|(intro pins s σ H D I h))|`(tactic|ext cS)=>`(tactic|(refine vK ?_ (by size_fits);simp only[raiseNew];refine iH (So ?_);rw[show A.in1.handled=e' from p];refine iH (i6 (SX ?_))))|`(tactic|ext aD)=>`(tactic|(rcases w with rfl|rfl<;>rfl))|`(tactic|ext a7)=>`(tactic|(exfalso;rcases ok x jO with⟨h,_⟩|⟨_,h⟩|⟨h,_⟩|⟨h,_⟩;.omega))|`(tactic|ext aF)=>`(tactic|(rcases g with⟨kvs,k,e,f,l⟩|⟨kvs,k,b,e,f,w,l⟩))|`(tactic|ext aW)=>`(tactic|(subst f;cases(show u=jj b from B);obtain⟨z,T,xs,m,x⟩:=yi I.je e))|`(tactic|ext aT)=>`(tactic|(rw[show M.toArray.any (qU x)=M.any (qU x)by simp,D0 r w];exact q))|`(tactic|ext a2)=>`(tactic|(refine iH (CI k T ?_);have c:J9 "dict_keyiterator"=ij:=by decide))|`(tactic|ext cj)=>`(tactic|(have c:WData.weightAll Q<=1048576:=z;obtain⟨A,D,M⟩:=Ic Q _ C p λd T=>ja (LY T) c;have k:∀b∈A,b∈a::A:=λb l=>nD _ l;refine#[a::A,jO ..,λb l=>?_];rcases kc.mp l with e|m))|`(tactic|ext cG)=>`(tactic|(unfold pyNext;refine iH (KW (Ca (name:=mF "__next__") m Ba (uN Ba m ZL ?_ (ZN _))));unfold Builtin.«set_iterator.__next__»;refine iH (m:=slotArgs "__next__" 0 _) (i6 ?_)))|`(tactic|ext aq)=>`(tactic|(refine iH (i6 ?_)))|`(tactic|ext az)=>`(tactic|(unfold iK at v;rw[jI]at v))|`(tactic|ext z)=>`(tactic|(walk_at"hn"))|`(tactic|ext au)=>`(tactic|(obtain⟨x,l,ys,rfl,L,v,k⟩:=h))|`(tactic|ext ap)=>`(tactic|(intro pins s σ H xs us Q I r h))|`(tactic|ext cC)=>`(tactic|(intro X A L M B i pins s σ H E I Q st hg;subst A L M;let#[#[f,a],g,c]:=st;let#[T,t]:=hg;let#[hs,Y,hx,aa,ab,vs,ac,ae,kv,hm]:=I.tW T;let#[e1,e2]:=uh r ac))|`(tactic|ext bW)=>`(tactic|(rintro pins s σ H x C u v Q I f B⟨i,j,rfl,rfl,q⟩;obtain⟨t,rfl⟩:=(show∃t,u=vY i t from f);obtain⟨t',rfl⟩:=(show∃t',v=vY j t' from B)))|`(tactic|ext ah)=>`(tactic|(refine iH ?_))|`(tactic|ext aQ)=>`(tactic|(intro X J Y f B i pins s σ H E I Q st q;subst J Y f))|`(tactic|ext aH)=>`(tactic|(rcases L with⟨rfl,T⟩|⟨rfl,T,rfl⟩))|`(tactic|ext an)=>`(tactic|(intro pins s σ H R I h))|`(tactic|ext D)=>`(tactic|(rotate_left))|`(tactic|ext L)=>`(tactic|(refine iU ?_))|`(tactic|ext ai)=>`(tactic|(let#[n,m,e]:=B.at_))|`(tactic|ext ak)=>`(tactic|(unfold Mx.jk at k))|`(tactic|ext bm)=>`(tactic|(obtain⟨p,xs,i,z,rfl,rfl,g,a,q⟩:=h;cases f;obtain⟨t,rfl⟩:=B))|`(tactic|ext ab)=>`(tactic|(unfold andThen))|`(tactic|ext cy)=>`(tactic|(obtain⟨v2,qs,rfl,g,aa,ab,au⟩:=P;have hn:((((s0::ss).map V.ref).length:Int)-1).toNat=M.length:=by have:=r.len;grind))|`(tactic|ext aY)=>`(tactic|(repeat(any_goals(first|assumption|wp_step))))
local macro_rules|`(tactic|ext ax)=>`(tactic|(.rw[q.2]at h;revert h;decide))|`(tactic|ext J)=>`(tactic|(split at h))|`(tactic|ext al)=>`(tactic|(refine#[_,y,iU ?_]))|`(tactic|ext bB)=>`(tactic|(obtain⟨l,C,rfl⟩:=k e;intro x v;rcases kc.mp v with rfl|v))|`(tactic|ext bq)=>`(tactic|(obtain⟨a,L,c,e,q⟩:=q;exact#[a,_,c.unlock e (I.Ex T g),q]))|`(tactic|ext cI)=>`(tactic|(let#[ps,D,M]:=h;let#[qs,A,s]:=k;refine#[ps,qs,D,A,#[ps++qs,by grind[iG],(M.append s).imp λa b q=>?_],M.len,s.len]))|`(tactic|ext cR)=>`(tactic|(simp only[newExc,newTuple];refine iH (vK ?_ (by size_fits))))|`(tactic|ext b0)=>`(tactic|(obtain⟨d,e,T,a,t,c,q⟩:=h;obtain⟨as,r1⟩:=Dp.reads I d x v T f;obtain⟨g,r2⟩:=Dp.reads I e C u a B))|`(tactic|ext a5)=>`(tactic|(simp only[il (show¬(f'=ij)by decide)]))|`(tactic|ext aa)=>`(tactic|(refine iQ ?_))|`(tactic|ext as)=>`(tactic|(let#[#[c,A],D,h]:=lI h))|`(tactic|ext cO)=>`(tactic|(rcases F5 m.ok z with⟨C,A⟩|⟨F,r,C,A,s,f⟩;.rw[A]at k;refine#[λ_=>k.no a y,λF q=>?_];grind))|`(tactic|ext bM)=>`(tactic|(obtain⟨D,G,B,F0,F1,g0,g1,m,o,rfl,h3,hm,hf,k⟩:=h))|`(tactic|ext aU)=>`(tactic|(intro pins s σ H x g v us Q I f t h))|`(tactic|ext aK)=>`(tactic|(rcases q with(q|⟨o,q⟩)|q))|`(tactic|ext aJ)=>`(tactic|(obtain⟨R,us,rfl,B,k⟩:=h))|`(tactic|ext bN)=>`(tactic|(rcases AF g Q with⟨l,M,C,A⟩|⟨l,M,C,A,f⟩))|`(tactic|ext cr)=>`(tactic|(rw[sb];show _=(mC n x.2).bind _;rw[<-OZ h n x.2,oF];cases o (readItems h n x.2)<;>rfl))|`(tactic|ext cB)=>`(tactic|(let#[n,p,D]:=B.at_;refine#[#[n,p.keeps λb o q l=>?_,D],B.wY,B.short];rw[iC];.exact q))|`(tactic|ext bU)=>`(tactic|(intro pins s σ H x C v u Q I a B h;obtain⟨i,j,rfl,rfl,q⟩:=h;obtain⟨t,rfl⟩:=a))|`(tactic|ext aM)=>`(tactic|(obtain⟨_,_,_,_,o,_,_,e,_⟩:=x))|`(tactic|ext b2)=>`(tactic|(refine#[x.typeIs,λb q=>?_,T];cases q;obtain⟨t,_,_,D,M,_⟩:=x;exact#[t,D,M.2.1]))|`(tactic|ext bI)=>`(tactic|(.wp_walk using BZ L,Dq T L v y;exact#[_,y,h]))|`(tactic|ext bt)=>`(tactic|(subst J Y f;obtain⟨T,hi⟩:=q))|`(tactic|ext aB)=>`(tactic|(rcases w with rfl|rfl))|`(tactic|ext aV)=>`(tactic|(obtain⟨z,M,n,r,L,e⟩:=I.zX w))|`(tactic|ext bF)=>`(tactic|(intro z;subst z;rcases l with l|l|⟨r,l⟩))|`(tactic|ext am)=>`(tactic|(have hu:=og hr))|`(tactic|ext ca)=>`(tactic|(obtain⟨hs,aa,hx,af,ag,vs,J,ab,t,hm⟩:=I.tW T;obtain⟨rfl,rfl⟩:=uh x J))|`(tactic|ext ce)=>`(tactic|(obtain⟨hs,ac,hx,ae,af,t,x,ag,m,A⟩:=I.tW T;obtain⟨rfl,rfl⟩:=uh aa x))|`(tactic|ext Q)=>`(tactic|(exact this))|`(tactic|ext bR)=>`(tactic|(rw[RC (my g)]at Y;obtain⟨u',r',q⟩:=hl j J v' C Y e3;refine#[u',r',?_]))|`(tactic|ext cg)=>`(tactic|(obtain⟨hs,ac,hx,ae,af,g,c,ag,m,M⟩:=I.tW T;obtain⟨rfl,rfl⟩:=uh t c))|`(tactic|ext cb)=>`(tactic|(intro X u a f hc i pins s σ H E I Y st g;subst u a f;obtain⟨T,hi⟩:=g))|`(tactic|ext aX)=>`(tactic|(subst r;obtain rfl:u=jj a:=f))|`(tactic|ext b9)=>`(tactic|(intro X Y a f B i pins s σ H E I Q st q;subst Y a f;obtain⟨T,hi⟩:=q))|`(tactic|ext bP)=>`(tactic|(.have:f b=e':=ip q;rw[this]at e;cases e))|`(tactic|ext cT)=>`(tactic|(simp only[i0,lH,yM]))|`(tactic|ext Y)=>`(tactic|(subst this))|`(tactic|ext aL)=>`(tactic|(simp only[qE,if_false]))
local macro_rules|`(tactic|ext a9)=>`(tactic|(refine#[_,iy (ll .ae @M y) (iE (ll .ae .ad y)),?_];refine#[_,y,_,y,x,m,l,_,y,v,r,T,@E,?_];refine#[_,y,_,y,x,m,l,_,y,iG,r,p,(.mX 1 1000),?_];rw[mz];exact k))|`(tactic|ext O)=>`(tactic|(.exact .Z q.1 .E))|`(tactic|ext br)=>`(tactic|(show .aw (newExc (.af "StopIteration") []>>=_) _ _ _;ext ah;ext cR;refine .h6 (CZ (a:=pX) .z ?_);ext cS))|`(tactic|ext cq)=>`(tactic|(show _=(match(.cN wElse J>>=λu=>.cc u>>=_:Got)with|.ok (x,us)=>_|.error _=>e');rw[r];show _=(match(.cc I>>=_:Got)with|.ok (x,us)=>_|.error _=>e');rw[B]))|`(tactic|ext aE)=>`(tactic|(first|exact .n y|exact @n y|assumption))|`(tactic|ext bn)=>`(tactic|(have hl:=r.length;have hn:=zH;have fin:EP X @t σ Q w s:=#[z,H,I,T,q]))|`(tactic|ext av)=>`(tactic|(refine iU .cA;rw[eq_int]))|`(tactic|ext bG)=>`(tactic|(obtain⟨c,D,rfl⟩:=h;have:.aY=c:=V.int.inj D;have:n=c:=.t))|`(tactic|ext bE)=>`(tactic|(show .qL=_↔ij=f';rw[wJ];exact#[λq=>.Z q .E,λq=>.jr q]))|`(tactic|ext b4)=>`(tactic|(obtain⟨o,k,B,T⟩:=id g;unfold pyNext;refine iH (KW (.g2 g.typeIs vH (.g3 .z)));ext aq;ext ah;ext ar))|`(tactic|ext bD)=>`(tactic|(refine#[_,y,@Z,λp I=>B _ _ p I ?_];grind[wL,mf,rY]))|`(tactic|ext cV)=>`(tactic|(ext q;let#[q,p,lv,b,D,B,r]:=h;exact HU k M.X.cl m G c w .nil (vr ok g) v @t s σ H Q I .Jw))|`(tactic|ext bT)=>`(tactic|(refine#[λi m σ H=>m=n-i/\i<=n/\.fD,.h,?_];rintro i m σ H⟨rfl,t,p⟩;by_cases s:i<n))|`(tactic|ext b6)=>`(tactic|(refine iH (Ke g.typeIs ?_);show .aw (setField (@h C) 1 (rawInt (.m8+1))>>=_) _ _ s))|`(tactic|ext cs)=>`(tactic|(let g:L2.St->Nat:=λσ=>match σ with|[_,_,O (.int j)]=>.aS-j.toNat|_=>0;refine .Jy))|`(tactic|ext cx)=>`(tactic|(unfold Mx.qe at h;let#[t,D,M]:=.jy h;let#[r,a,B]:=.jy M;let#[u,T,L]:=.jy B;cases L))|`(tactic|ext cJ)=>`(tactic|(refine#[qs,.Z,g.imp .n8];show upd _ _ _ a=_))|`(tactic|ext bJ)=>`(tactic|(have m:.dz (@h I) "set_iterator":=#[H,g,x]))|`(tactic|ext cp)=>`(tactic|(ext h;rw[il];have v:(.kK).parts<=q.1.parts:=by exact L' e d D T r _ _ _ _ .ba M))|`(tactic|ext bL)=>`(tactic|(.obtain⟨n,_,rfl⟩:=@Q c;exact#[_,_,y]))|`(tactic|ext cH)=>`(tactic|(ext h;refine iH (CI g q ?_);ext h;refine iH (RE k T (C.tab.fits C.le) ?_)))|`(tactic|ext M)=>`(tactic|(grind[iC]))|`(tactic|ext cU)=>`(tactic|(ext aq;refine iH (FC r L ?_)))|`(tactic|ext t)=>`(tactic|(simp_all))|`(tactic|ext bw)=>`(tactic|(let#[a,L,I,q]:=h;exact#[a,L,I.rA ok,q]))|`(tactic|ext bx)=>`(tactic|(let#[a,L,I,q]:=h;exact#[a,L,I.Bo ok,q]))|`(tactic|ext bv)=>`(tactic|(intro pins s σ H x xs v us Q I f rs h))|`(tactic|ext bb)=>`(tactic|(unfold iK at hx;rw[jI]at hx))|`(tactic|ext bf)=>`(tactic|(obtain⟨i,m,J,rfl⟩:=DH a))|`(tactic|ext cc)=>`(tactic|(obtain⟨hs,x,hx,af,ag,J,B,ab⟩:=I.QY T;obtain⟨rfl,rfl⟩:=uh aa J))|`(tactic|ext cA)=>`(tactic|(rw[GX .jj (.c2+1) q.2 af @h]at k';refine .zJ;obtain⟨a6,sa,rfl,ha⟩:=hv;have aA:H9 I=.jT ss.map:=.fd ae;have aB:H9 Lb=.jT ps.map:=.fd am))|`(tactic|ext cv)=>`(tactic|(refine#[_,y,_,y,x,m,l,_,y,v,t,T,@I,?_];refine#[_,y,_,y,x,m,l,_,y,iG,t,p,.nb,?_];refine#[_,y,_,y,x,m,l,_,y,iG,t,r,.iW,?_];rw[mz,mz];exact k))|`(tactic|ext aA)=>`(tactic|(ext cT;exact .jL 160000))|`(tactic|ext cK)=>`(tactic|(.ext az;obtain⟨n,aD,rfl⟩:=.M v;exact .jF #[_,y,@Z,λp c=>hy _ _ (@t c) y (xO L c y)]))|`(tactic|ext aR)=>`(tactic|(obtain⟨m,r,f2,L,T,M⟩:=Q C @I))|`(tactic|ext a4)=>`(tactic|(ext cU;rw[il @I];refine .cH))|`(tactic|ext cn)=>`(tactic|(let#[r1,r2,_,_,r3]:=Dd I T .q A y h.at v;exact k D r1 r2 #[a,w,r3]))|`(tactic|ext cm)=>`(tactic|(.rw[J]at e;cases e;have B:Np vs.toArray _=Data.dict f ep:=d;cases B))|`(tactic|ext ad)=>`(tactic|(cases r;rfl))|`(tactic|ext b3)=>`(tactic|(intro X Y p f B i pins s σ H E I Q st q;subst Y p f;obtain⟨m,J,f2,L,T,M⟩:=.iw))
local macro_rules|`(tactic|ext bS)=>`(tactic|(intro X u p f B i pins s σ H E I Q st q;subst u p f;obtain⟨m,r,a,L,T,M⟩:=.iw))|`(tactic|ext cd)=>`(tactic|(intro X J Y f hc i pins s σ H E I Q st q;ext bt;obtain⟨a,r,f2,L,g,M⟩:=.iw))|`(tactic|ext bX)=>`(tactic|(ext ag;obtain⟨p,xs,rfl,g,l,w,q⟩:=h;cases B;rcases g with g|g))|`(tactic|ext bc)=>`(tactic|(simp only[K4,qE,if_false]))|`(tactic|ext a6)=>`(tactic|(rcases kc.mp h with rfl|h))|`(tactic|ext ck)=>`(tactic|(obtain⟨v,g,rfl,L,r⟩:=U7 x;have q:rL d=f'/\tT Q=f':=abp.mp p))|`(tactic|ext aO)=>`(tactic|(intro g pins s σ H Q I h))|`(tactic|ext bp)=>`(tactic|(subst f;obtain⟨z,T,c,m,x⟩:=.kv))|`(tactic|ext bK)=>`(tactic|(ext az;obtain⟨n,aQ,rfl⟩:=.M v))|`(tactic|ext bo)=>`(tactic|(cases f;obtain⟨u,rfl,k⟩:=t.one))|`(tactic|ext cN)=>`(tactic|(intro q;obtain⟨C,m,rfl⟩:=@Q q;obtain⟨n,f,m⟩:=sQ.mp m))|`(tactic|ext cw)=>`(tactic|(unfold vo at h;let#[p,D,M]:=.jy h;let#[q,a,B]:=.jy M;cases B))|`(tactic|ext bO)=>`(tactic|(obtain⟨⟨a,b⟩,c,d⟩:=HW g l))|`(tactic|ext a8)=>`(tactic|(obtain⟨n,m,e⟩:=B.at_))|`(tactic|ext aS)=>`(tactic|(obtain⟨e,C⟩:=C;grind))|`(tactic|ext ba)=>`(tactic|(have hj:.cs-1-i<.cs:=.t))|`(tactic|ext ao)=>`(tactic|(have e:b=C:=.h))|`(tactic|ext cP)=>`(tactic|(have a:=tM t h;have q:=h.ok.BF t.ok;let#[m,o,M]:=Eh h.ok.s q))|`(tactic|ext cu)=>`(tactic|(rcases v with⟨h,_⟩|⟨_,h⟩|⟨h,_⟩|⟨h,_⟩;.omega))|`(tactic|ext b5)=>`(tactic|(simp only[show¬((i:Int)<0)from by omega,if_false,yI,qo p]))|`(tactic|ext b8)=>`(tactic|(simp only[show¬((i:Int)<0)from by omega,if_false,yI,Ru h]))|`(tactic|ext aG)=>`(tactic|(conv=>lhs;unfold r9))|`(tactic|ext ac)=>`(tactic|(.grind[iG]))|`(tactic|ext aN)=>`(tactic|(intro pins s σ H Q I p))|`(tactic|ext cF)=>`(tactic|(ext h;unfold setsByText;refine iH (iH (Fu .cH));ext h))|`(tactic|ext cQ)=>`(tactic|(rcases F5 h z with⟨_,y⟩|⟨F,Y,_,y,s,f⟩;.grind[p6]))|`(tactic|ext bg)=>`(tactic|(obtain⟨c,rfl,L⟩:=L;cases r1))|`(tactic|ext cD)=>`(tactic|(ext ah;show .aw (forIn f _ _) _ _ s;rw[<-abL];refine .JJ))|`(tactic|ext ay)=>`(tactic|(apply sP;intro i))|`(tactic|ext cE)=>`(tactic|(rintro v C r p⟨c,rfl,l⟩;obtain⟨m,t,rfl⟩:=l v jO))|`(tactic|ext bZ)=>`(tactic|(refine#[#[o,e,f.1],λa A=>?_];cases A;exact#[o,e,f.2.1]))|`(tactic|ext b1)=>`(tactic|(have q:=(.g2).AY;rw[Ao]at q;rw[<-q,<-l];exact h _ .bH))|`(tactic|ext cz)=>`(tactic|(unfold lC at v;rw[jI]at v;obtain⟨nm,aT,rfl⟩:=.M v))|`(tactic|ext cM)=>`(tactic|(rcases Jw p.num (jQ I n p).num (jQ u n p).num with q|q))|`(tactic|ext bh)=>`(tactic|(intro pins s σ H g us Q I r h))|`(tactic|ext ae)=>`(tactic|(exact .nil))|`(tactic|ext bH)=>`(tactic|(let#[r,H,_,e,_]:=a.head;grind))|`(tactic|ext bz)=>`(tactic|(grind[Expr.occs,Expr.usesOwn]))|`(tactic|ext be)=>`(tactic|(refine .cA;rw[eq_int]))|`(tactic|ext bQ)=>`(tactic|(rcases uS L with⟨j,u,rfl,rfl⟩|⟨C,u,rfl,rfl⟩))
local macro_rules|`(tactic|ext aP)=>`(tactic|(obtain⟨t,rfl⟩:=r1))|`(tactic|ext bV)=>`(tactic|(ext ag;obtain⟨i,j,rfl,rfl,c,q⟩:=h;ext I;ext H))|`(tactic|ext aw)=>`(tactic|(ext J;.cases h))|`(tactic|ext aC)=>`(tactic|(dsimp only at k))|`(tactic|ext bY)=>`(tactic|(.obtain⟨_,_,_,_,o,_,_,e,f,_⟩:=I.je p _ hk;grind))|`(tactic|ext bC)=>`(tactic|(unfold FK at h;rw[yO,yO]at h))|`(tactic|ext bu)=>`(tactic|(subst r;obtain rfl:u=jj d:=f))|`(tactic|ext aj)=>`(tactic|(rw[hq]at k))|`(tactic|ext aI)=>`(tactic|(rintro(q|q|q|q|q)))|`(tactic|ext bj)=>`(tactic|(obtain⟨u,rfl,t,rfl⟩:=.mr))|`(tactic|ext ch)=>`(tactic|(have l:.kf:=.cI m;obtain⟨ok,L,a⟩:=st;rw[l]at a))|`(tactic|ext cL)=>`(tactic|(have e5:=.df e;rw[rD (jg e5 I.ns),rD (jg e5 I.ng)]))|`(tactic|ext af)=>`(tactic|(exact jZ e))
local macro_rules|`(#[$x,*])=>`(⟨$x,*⟩)
section
variable{us:List FZ}{P:acH}{pins:List (PySem.Addr×PySem.Obj)}{t' n ep:Nat}{N ps:List G0}{E W:FZ->acY->Prop}{K:jd}{st:PySem.Stmt}{mg:G0->Option FZ}{kindOf:G0->Option PySem.NameKind}{qual:G0}
namespace L2
open PySem PySem.Spec PyProof.Rows
abbrev Key:=Sum Int iA
def qQ:Key->iB->Bool
 |.inl k,v=>Lu k v|.inr x,v=>KY x v
def QX(w:jR):Key->Int
 |.inl k=>hashInt k|.inr x=>hashStr w x
theorem uS:∀{k:Key}{v:iB},qQ k v=f'->(∃i t,k=iO i/\v=vY i t)\/(∃x t,k=kR x/\v=MA x t)
 |.inl i,v,h=>by obtain⟨t,e⟩:=abR (k:=i) (v:=v) h;exact .n #[i,t,y,e]|.inr x,v,h=>by obtain⟨t,e⟩:=Value.isStrOf_shape (x:=x) (v:=v) h;exact @n #[x,t,y,e]
theorem agy(i:Int)(t:Tok):qQ (.n i) (.h i t)=f':=by simp[qQ,Lu]
theorem agx(x:iA)(t:Tok):qQ (@n x) (@I x t)=f':=by simp[qQ,KY]
theorem aku(a b:Int):.q ((iO a:Key)=iO b)=(a==b):=by
 by_cases e:a=b;.subst e;simp
 .have h:¬(iO a:Key)=iO b:=λq=>e (C2 q);rw[ir h];exact(.fy e).symm
theorem akr(a b:iA):.q ((kR a:Key)=kR b)=.q (a=b):=by
 by_cases e:a=b;.subst e;simp
 .have h:¬(kR a:Key)=kR b:=λq=>e (C0 q);rw[ir h,ir e]
theorem akt(a:Int)(b:iA):.q ((iO a:Key)=kR b)=ij:=ir (λq=>nomatch q)
theorem aks(a:iA)(b:Int):.q ((kR a:Key)=iO b)=ij:=ir (λq=>nomatch q)
def kg(H:kS)(w:jR):PySem.KeyKind H w Key where
 is:=qQ
 hash:=QX w
 inj:=λv a b p l=>by
  rcases uS p with⟨i,t,rfl,rfl⟩|⟨x,t,rfl,rfl⟩
  .rcases uS l with⟨j,u,rfl,e⟩|⟨C,u,rfl,e⟩;.injection e with c _;rw[c]
   .exact nomatch e
  .rcases uS l with⟨j,u,rfl,e⟩|⟨C,u,rfl,e⟩;.exact nomatch e
   .injection e with c _;rw[c]
 byValue:=λk v h=>by rcases uS h with⟨i,t,rfl,rfl⟩|⟨x,t,rfl,rfl⟩<;>rfl
 pyHash:=λL h=>by
  rcases uS L with⟨i,t,rfl,rfl⟩|⟨x,t,rfl,rfl⟩;.exact wpAny_pyHash_int h
  .exact wpAny_pyHash_str h
 eqBool:=λM L h=>by
  rcases uS M with⟨i,t,rfl,rfl⟩|⟨x,t,rfl,rfl⟩
  .ext bQ;.rw[aku]at h;exact wpAny_eqBool_int h
   .rw[akt]at h;exact abF i t C u _ _ _ _ h
  .ext bQ;.rw[aks]at h;exact abE x t j u _ _ _ _ h
   .rw[akr]at h;exact wpAny_eqBool_str h
 «strs»:=λk x t v h=>by
  rcases uS h with⟨i,u,rfl,e⟩|⟨C,u,rfl,e⟩;.exact nomatch e
  .injection e with c _;subst c;cases v<;>rfl
theorem adY(H:kS)(w:jR)(i:Int)(t:Tok):(kg H w).is (.n i) (.h i t)=f':=agy i t
theorem adX(H:kS)(w:jR)(x:iA)(t:Tok):(kg H w).is (@n x) (@I x t)=f':=agx x t
inductive V where
 |iM|bl(b:Bool)|int(i:Int)|str(x:iA)|px(b:Array UInt8)|E5(b:UInt64)|ref(a:U)|ty(n:String)
 deriving DecidableEq
def RelV:V->iB->.n
 |.iM,u=>u=pX|.bl b,u=>u=C7 b|.int i,u=>∃t,u=vY i t|.str x,u=>∃t,u=MA x t|.px b,u=>∃t,u=ado b t|.E5 b,u=>∃t,u=adn b t|.ref a,u=>.h4|.ty n,u=>u=vV n
abbrev Vals:.L->.Y->.n:=.cH RelV
theorem Vals.length(r:.eU):.ag=.cQ:=.cI r
theorem Vals.get:∀{xs:.L}{us:.Y}{i:Nat}{x:V},.eU->.fv->∃u,us[i]? =O u/\.h5
 |_,_,_,_,.nil,e=>by simp at e|_,_,0,_,.cons r _,e=>.h|_,_,i+1,x,.cons _ t,e=>by obtain⟨u,D,M⟩:=Vals.get (i:=i) (x:=x) t .q;grind
theorem Vals.set(r:.h5):∀{xs:.L}{us:.Y}(i:Nat),.eU->.ac (xs.set i x) (us.set i u)
 |_,_,_,.nil=>.nil|_,_,0,.cons _ t=>.J r t|_,_,i+1,.cons q t=>.J q (Vals.set r i t)
theorem Vals.append:∀{xs ys:.L}{us f:.Y},.eU->.ac ys f->.ac (xs++ys) (us++f)
 |_,_,_,_,.nil,s=>s|_,_,_,_,.cons r t,s=>.J r (Vals.append t s)
theorem Vals.take:.ql xs.take n us.take
 |_,_,0,_=>.nil|_,_,_+1,.nil=>.nil|_,_,n+1,.cons r t=>.J r (Vals.take n t)
theorem Vals.drop:.ql xs.drop n us.drop
 |_,_,0,r=>r|_,_,_+1,.nil=>.nil|_,_,n+1,.cons _ t=>Vals.drop n t
def pj:.aV->.E iB->.n
 |O v,O u=>.cR|e',e'=>True|_,_=>False
def KV:.eV->@q (κ×iB)->.n:=.cH λ(p:κ×V)(q:κ×iB)=>p.1=q.1/\.am p.2 q.2
def kV:Key->V
 |.inl i=>.cm|.inr x=>@I x
inductive HO where
 |lst(xs:List V)
 |tup(xs:List V)
 |dK(kvs:List (Key×V))|dT(kvs:List (List Key×V))
 |set(S:Int->Bool)(n:Nat)
 |ins(C dx:U)(fs:List (iA×V))
 |own(x:U)
 |xd(fs:List (iA×V))
 |met(f x:U)
 |JR(lo hi:Int)
 |iT(o:jA)(u:HO)
 |yw(ps:Array iB)
 |ext(φ:jo->Prop)
abbrev Hp:=U->.E HO
def upd(H:Hp)(a:U)(o:HO):Hp:=λb=>if b=a then O o else H b
theorem iG:@z a o a=O o:=.sP
theorem iC(h:b≠a):@z a o b=H b:=.sP
theorem mz:upd .j2 a u=@z a u:=.sP
theorem mI{H:Hp}{a b:U}{o u:HO}(h:H a=O o)(D:H b=O u)(d:o≠u):a≠b:=.h
theorem jg{H:Hp}{a b:U}{o:HO}(h:H a=O o)(D:.be):a≠b:=.h
section
variable(P:kS)(w:jR)
def lQ(H:Hp)(h:jo)(a:U):HO->.n
 |.lst xs=>.fw/\∃(M:.Y)(n:Nat),.b5 M/\.dy=O .j3|.tup xs=>.fw/\∃M:.Y,.b5 M/\zP h a .c8|.dK kvs=>.xu|.dT kvs=>.aN<=@Q/\.jN a/\∃xs:.j4,.cH (λ(p:List Key×V)(q:List Key×U×iB)=>.B8) kvs xs/\∃o k ep,.jH a/\.lN/\.nh k ep/\k.toList=.a4 (entryOfKey .sQ)/\(.a4 .bS).Nodup|.set S n=>h.SetOf (intKind P w) a S n|.ins C l c=>H l=.ka a/\.gJ<=1000/\l≠a/\.dy=O (yL C l)/\∃m,h.Ns1 l m/\.xv/\Sz m (c.map .bS)|.own _=>∃o,.jH a|.xd c=>∃m,h.Ns1 a m/\.xv|.JR lo s=>∃t u v,.dy=O {cls:=.af "range",data:=.a5 (.a6 [.h lo t,.h s u,.h 1 v])}|.iT o u=>.jH a/\lQ H h a u|.yw ps=>.dy=.xw|.met f x=>.dy=O (RQ .f6 .dP)|.ext φ=>φ h/\(∃o,.jH a)/\∀D r:jo,φ D->(∀o,.b6 a=O o->r.get? a=O o)->φ r
def kq(H:Hp)(h:jo):.n:=∀a o,H a=O o->.b7 o
end
theorem lQ.lt(x:.b7 o):a<.eh:=by
 cases o with
 |lst xs=>obtain⟨_,_,_,_,e⟩:=x;ext af|tup xs=>obtain⟨_,_,_,p⟩:=x;exact p.lt|dK kvs=>ext aM;ext af|dT kvs=>ext aM;ext af|set S n=>obtain⟨o,_,_,_,e,_⟩:=x;ext af|ins C l c=>obtain⟨_,_,_,e,_⟩:=x;ext af|own y=>obtain⟨_,e⟩:=x;ext af|xd c=>obtain⟨_,⟨_,_,_,e,_⟩,_⟩:=x;ext af|JR lo t=>obtain⟨_,_,_,e⟩:=x;ext af|iT g u=>obtain⟨e,_⟩:=x;ext af|yw ps=>exact jZ .sR|met f y=>exact jZ .sR|ext φ=>obtain⟨_,⟨_,e⟩,_⟩:=x;ext af
theorem Paired.EU:∀{L:.aA}{c:.ei},.cH F L c->(∀a b,F a b->G a b)->.cH G L c
 |_,_,.nil,_=>.nil|_,_,.cons r t,f=>.J (f _ _ r) (Paired.EU t f)
theorem lQ.vz(x:.b7 o)(k:∀b u,(b=a\/H b=.ka a)->.lO->.h6=O u)(g:∀b,H b=.ka a->L b=.ka a)(A:.B9):lQ P w L D a o:=by
 induction o with
 |lst xs=>obtain⟨z,M,n,r,e⟩:=x;exact#[z,M,n,r,.fx]|tup xs=>obtain⟨z,M,r,s,e,c⟩:=x;exact#[z,M,r,s,.fx,c]|dK kvs=>obtain⟨z,Q,U,r,s,J,ep,e,c⟩:=x;exact#[z,Q,U,r,s,J,ep,.fx,c]|dT kvs=>obtain⟨z,Q,xs,r,s,J,ep,e,c⟩:=x;exact#[z,Q,xs,Paired.EU r λp q z=>#[z.1,A _ _ z.2.1,z.2.2],s,J,ep,.fx,c]|set S n=>obtain⟨s,J,ep,t,e,c⟩:=x;exact#[s,J,ep,t,.fx,c]|ins C dx Y=>obtain⟨d,z,T,e,m,⟨l,J,ep,B,c⟩,r⟩:=x;exact#[g _ d,z,T,.fx,m,#[l,J,ep,.a7 (@n d) B,c],r]|own Q=>obtain⟨s,e⟩:=x;exact#[s,.fx]|xd Y=>obtain⟨m,⟨l,J,ep,e,c⟩,r⟩:=x;exact#[m,#[l,J,ep,.fx,c],r]|JR lo hi=>obtain⟨t,u,v,e⟩:=x;exact#[t,u,v,.fx]|iT s u I=>obtain⟨e,q⟩:=x;exact#[.fx,I q]|yw ps=>have e:.dy=.xw:=x;show .b6 a=.xw;grind|met f Q=>have e:.dy=O (RQ .f6 (@h Q)):=x;show .b6 a=O (RQ .f6 (@h Q));grind|ext φ=>obtain⟨p,⟨o,e⟩,st⟩:=x;exact#[st _ _ p λo q=>.a7 .cS q,#[o,.fx],st]
theorem kq.lt(x:.cD)(e:H a=O o):a<.eh:=(x a o e).lt
theorem kq.fresh(x:.cD)(e:.eh<=a):.cT:=by
 cases q:H a with
 |none=>rfl|some u=>exact .ni (x.lt q) e
theorem kq.kept(x:.cD)(k:∀b u,.lO->.h6=O u):kq P w H D:=λa o e=>(x a o e).vz (λb u _ q=>k b u q) (λ_ q=>q) .lP
theorem kq.laid(x:.cD)(k:∀b u,.lO->.o6)(Q:.eh<=a)(C:lQ P w .j2 h' a o):kq P w .j2 h':=λb u e=>by
 have f:=x.fresh Q;by_cases l:b=a;ext ac
 .rw[iC l]at e;exact(x b u e).vz (λc v _ q=>k c v q) .Z .Z
def Rd(H:Hp)(a:U)(u:HO):.n:=H a=O u\/∃o,H a=O (.cJ u)
theorem Rd.ok(r:Rd H a u)(x:.cD):.b7 u:=by
 rcases r with r|⟨o,r⟩;.exact x a u r
 .obtain⟨_,q⟩:=x a _ r;exact q
def xf:.E HO->.n
 |O (.lst _)=>True|O (.dK _)=>True|O (.dT _)=>True|O (.set _ _)=>True|O (.ins _ _ _)=>True|O (.ext _)=>True|_=>False
theorem kq.write(ok:.cD)(g:xf (H x))(A:.xx)(k:.Ca)(m:.xz)(D:lQ P w (@z x a) h' x a):kq P w (@z x a) h':=λb u q=>by
 have p:∀c C,H c=.ka C->c≠x:=λc C r z=>.nU r g
 have s:∀c xs,H c=.dz->c≠x:=λc xs r z=>.nU r g
 by_cases l:b=x;ext ac
 .rw[iC l]at q;by_cases t:b=e
  .have f:H b=.ka x:=.h
   rw[q]at f;cases f;obtain⟨v,L⟩:=m;exact#[v,.mj t L]
  .refine(ok b u q).vz (λc v B r=>k c v ?_ r) (λc r=>.ma (p c b r) r) λc xs r=>.ma (s c xs r) r
   rcases B with rfl|B;.exact t
   .rintro rfl;rcases A with z|z;.exact p c b B z
    .rw[B]at z;cases z;exact l y
structure Un(fs ex:List U)(H H':Hp)(h h':jo):Prop where
 keep:∀b o,h.get? b=O o->H b=e'->b∉fs->b∉ex->h'.get? b=O o
 slot:∀b o,h.get? b=O o->H b=e'->b∈fs->b∉ex->∃sl,h'.get? b=O {o with slots:=sl}
 free:∀b o,h.get? b=O o->H b=e'->b∉ex->H' b=e'
 there:∀b o,h.get? b=O o->b∉ex->∃o',h'.get? b=O o'
 yo:∀b xs,H b=O (.tup xs)->H' b=O (.tup xs)
 vD:∀b o u,H b=O (.iT o u)->H' b=O (.iT o u)
 yp:∀b ps,H b=O (.yw ps)->∃more,H' b=O (.yw (ps++more))
theorem Un.any(u:Un w r H B h D)(q:.aP b=O t)(n:.be)(v:b∉r):∃M,.h6=O {t with slots:=M}:=by
 by_cases l:b∈w;.exact u.slot b t q n l v
 .exact#[t.slots,u.keep b t q n l v]
theorem Un.kept(k:∀b u,.lO->.h6=O u):Un w r H H h D:=#[.h,λb t q _ _ _=>#[t.slots,k b t q],λ_ _ _ n _=>n,.h,.lP,λ_ _ _ q=>q,.aW]
theorem Un.refl:Un w r H H h h:=Un.kept .lP
theorem Un.laid(k:∀b u,.lO->.o6)(Q:.eh<=a)(f:.cT):Un w r H .j2 h h' where
 keep:=.h
 slot:=λb u q _ _ _=>#[u.slots,k b u q]
 free:=λb u q n _=>.ma (mT (oN (jZ q) Q)) n
 there:=.h
 yo:=.Z
 vD:=.Z
 yp:=λb ps q=>#[.cU,.Z]
theorem Un.write(g:xf (H x))(a:.xx)(k:.Ca)(m:.xz):Un w r H (@z x o) h h':=by
 have v:∀b,.be->b≠x:=λb n z=>.nU n g
 have l:∀b,.be->b≠e:=.h
 have M:∀b u,H b=O u->¬.o7->b≠x:=.h
 refine#[.h,λb u q n _ _=>#[u.slots,k b u (l b n) q],.Z,λb u q _=>?_,λb xs q=>.ma .xA q,λb u xs q=>.ma .xA q,λb ps q=>#[.cU,by rw[iC .xA,q];simp]];grind
def BR(h:jo)(H:Hp):@D:=(kH .eh).filter λa=>(H a).isSome
def wO(h:jo)(H:Hp):jo:=xq h (BR h H)
theorem agD(h:jo)(H:Hp):(wO h H).objs.size=.eh:=PySem.W.hideAll_size _ _
theorem aia(e:.jH b)(n:.be):(wO h H).get? b=O o:=RG _ e λM=>by have q:(H b).isSome=f':=(oy.mp M).2;grind
theorem ajp(e:(wO h H).get? b=O o):.jH b/\.be:=by
 have T:.jH b:=Cv (BR h H) e;refine .jO T;cases q:H b with
 |none=>rfl|some x=>grind[BR,jZ,wO,sN]
end L2
variable{xs nX:List L2.V}
namespace L2
open PySem PySem.Spec PyProof.Rows
structure Mod(K:jd)(mg:iA->Option iB)(base:jo):Prop where
 BS:K.In base
 glob:base.Ns mainGlobals mg
 blt:∃mb,base.Ns builtinsNs mb/\∀x:iA,x≠"__name__"->mb x=bootBuiltins x
 nolimit:base.NoLimit
structure Cx where
 prog:kS
 w:jR
 K:jd
 mg:iA->Option iB
 base:jo
 A:oR
 N:List iA
 mM:iV
 vG:Hp
 env:oq
 outer:List oq
 stack:List oq
 ex:List U
 fn:iA->Bool
 calm:Bool
 pn:List (U×jA)
 xe:iB->iV->Prop
def kF(l:.gK):@D:=.c1 (·.frame)
abbrev Cx.fs(X:Cx):@D:=kF X.outer
def BW(f:qM)(x:iA):.n:=.bR x=.gL\/.bR x=.gM\/.bR x=O .free
def Loc(f:qM)(x:iA):.n:=.bR x=.gL\/.bR x=.gM
def Look(env:oq)(h:jo)(m:.cV)(x:iA)(u:iB):.n:=(env.kindOf x=.gL/\m x=O u)\/((env.kindOf x=.gM\/env.kindOf x=O .free)/\∃c,env.cells.lookup x=O c/\h.IsCell c (O u))
structure Cx.Ok(X:Cx):Prop where
 mod:Mod X.K X.mg X.base
 kind:X.env.scope.kind=.function
 glob:X.env.globals=mainGlobals
 blt:X.env.builtins=builtinsNs
 above:X.mM.heap.objs.size<=X.env.locals
 inj:∀x y c,X.env.cells.lookup x=O c->X.env.cells.lookup y=O c->x=y
 has:∀x,(X.env.kindOf x=O .cell\/X.env.kindOf x=O .free)->∃c,X.env.cells.lookup x=O c
 E6:∀x c,X.fn x=f'->X.env.cells.lookup x=O c->X.mM.heap.objs.size<=c
 hd:X.calm=f'->X.A.handled=e'
 frames:X.A.frames=O X.stack
 oJ:X.stack=X.outer\/(X.stack=X.env::X.outer/\X.env.frame=O X.env.locals)
 JV:∀b∈X.ex,b≠X.env.locals/\∀x c,X.env.cells.lookup x=O c->c≠b
 bs:∀b o,X.base.get? b=O o->X.mM.heap.get? b=O o/\X.vG b=e'
 vF:X.base.objs.size<=X.mM.heap.objs.size
 ET:∀b o,X.base.get? b=O o->b∉X.ex
 EW:∀b∈X.ex,b∉X.fs
 tV:X.mM.heap.FunFrames X.base X.outer
 Ad:∀b∈X.fs,X.vG b=e'
structure Inv(X:Cx)(pins:List (U×jA))(σ:List (Option V))(H:Hp)(s:iV):Prop where
 ok:X.Ok
 os:s.os=X.mM.os
 bare:zp s.gens
 base:Un X.fs X.ex X.vG H X.mM.heap s.heap
 loc:∃m,s.heap.Ns X.env.locals m/\∀(i:Nat)(x:iA)(v:V),X.N[i]? =O x->σ[i]? =O (O v)->BW X.env.scope x->∃u,RelV v u/\Look X.env s.heap m x u
 cell:∀x c,X.env.cells.lookup x=O c->∃v,s.heap.IsCell c v
 free:H X.env.locals=e'
 qz:∀x c,X.env.cells.lookup x=O c->H c=e'
 pin:∀p∈X.pn++pins,s.heap.get? p.1=O p.2/\H p.1=e'/\p.1≠X.env.locals/\p.1∉X.fs/\∀v,p.2.data≠.cell v
 je:kq X.prog X.w H s.heap
 len:σ.length=X.N.length
theorem Cx.Ok.alI{X:Cx}(ok:X.Ok){b:U}{o:jA}(e:.xB):b∉X.fs:=λl=>by have:=(ok.tV.mem l).1;grind
theorem Inv.bs{X:Cx}{σ:@q .aV}{H:Hp}{s:iV}(I:.D):∀b o,.xB->.cE/\.be:=λb o e=>#[.fz (.sS).1 (.sS).2 (I.ok.alI e) (I.ok.ET b o e),.dO (.sS).1 (.sS).2 (I.ok.ET b o e)]
theorem Inv.bk(I:.D):∀b o,.xB->.cE:=λb o e=>(I.bs b o e).1
theorem Inv.mod(I:.D):Mod X.K X.mg .dQ:=I.ok.mod
theorem Inv.qj(I:.D):X.K.In .O:=I.ok.mod.BS.keeps I.bk
theorem Inv.fr(I:.D):∃m,Fr .dQ .cF .O m:=
 let#[m,f,_]:=I.loc
 #[m,f,I.bk,.eK .o8]
theorem Inv.lt(I:.D):.cF<@L:=let#[_,f,_]:=I.loc;f.lt
theorem Inv.sz(I:.D):X.mM.heap.objs.size<=@L:=ja .o8 (vS I.lt)
theorem Inv.alH(I:.D)(h:@L<=a):a∉X.fs:=λl=>by obtain⟨_,o,k,_⟩:=I.ok.tV.mem l;exact .ni (jZ k) (ja I.sz h)
theorem Inv.Ri(I:.D):∀x c,.cq x=O c->c≠.cF:=λx c e z=>by obtain⟨v,o,k,T⟩:=.ee e;obtain⟨m,⟨a,f,ep,C,g,_⟩,_⟩:=I.loc;grind
theorem Inv.tV(I:.D):.gf X.outer:=by
 have u:∀(l:.gK),(∀b∈kF l,b∈X.fs)->X.mM.heap.FunFrames .dQ l->.gf l:=by
  intro l;induction l with
  |nil=>intro _ _;trivial|cons env r g=>
   intro w h;obtain⟨hk,⟨L,o,Q,f,k,m⟩,c⟩:=h;have T:L∈X.fs:=by grind[kF]
   obtain⟨M,e⟩:=I.base.slot L o k (I.ok.Ad L T) T λz=>I.ok.EW L z T;exact#[hk,#[L,_,Q,f,e,m],g (λb a=>w b (by unfold kF;rw[xj,Q];exact nD _ a)) c]
 exact u X.outer (λ_ a=>a) I.ok.tV
theorem Inv.stack(I:.D):.gf .gN:=by
 rcases I.ok.oJ with e|⟨e,Q⟩;.rw[e];exact I.tV
 .rw[e];obtain⟨m,f,_⟩:=I.loc;refine .J (by rw[I.ok.kind];decide) Q f ?_ I.tV;exact Heap.get?_none_of_le (.eK .o8)
theorem Inv.PH(I:.D):∀b∈.eW,b∈.cF::X.fs:=λb l=>by
 rcases I.ok.oJ with e|⟨e,Q⟩;.grind
 grind[kF]
theorem Inv.Oy(I:.D):∀b∈.eW,.be:=λb l=>by
 rcases kc.mp (I.PH b l)with e|l;.rw[e];exact I.free
 .obtain⟨_,o,k,_⟩:=I.ok.tV.mem l;exact .dO k (I.ok.Ad b l) λz=>I.ok.EW b z l
theorem Inv.step{ch:@D}(I:.D)(w:.xC)(f:∀b o,b≠.cF->b∉X.fs->b∉ch->.cE->.be->.h7)(slot:∀b o,b≠.cF->b∈X.fs->b∉ch->.cE->.be->.xD)(h:∀b o,b∉ch->.cE->.be->L b=e')(af:∀b o,b∉ch->.cE->∃a,.h6=O a)(aa:.B9)(ab:∀b o u,H b=O (.cJ u)->L b=O (.cJ u))(ag:∀b ps,H b=O (.yw ps)->∃more,L b=O (.yw (ps++more)))(ns:∀m,s.heap.Ns .cF m->D.Ns .cF m)(ac:.ds L D)(hg:zp g'):.Y L {s with heap:=D,gens:=g',drawn:=d',toks:=t'}:=by
 have g:∀b o,.lQ=O o->b≠.cF:=λb o e=>mT (oN .h8 .o8);have t:∀b o,.lQ=O o->b∉X.ex->b∉ch:=λb o e y J=>by
  rcases(w b J).1 with z|z;.exact y z
  .exact .ni .h8 z
 have ae:∀x c,.cq x=O c->∀v,.Cb:=λx c e v#[o,Y,T]=>by
  have Q:c∉ch:=.h
  by_cases B:c∈X.fs;.obtain⟨M,q⟩:=slot c o (I.Ri x c e) B Q Y .o9;exact#[_,q,T]
  .exact#[o,f c o (I.Ri x c e) B Q Y .o9,T]
 refine#[I.ok,I.os,hg,#[λb o e n J y=>?_,λb o e n J y=>?_,λb o e n y=>?_,λb o e y=>?_,λb xs e=>aa b xs (I.base.yo b xs e),λb o xs e=>ab b o xs (I.base.vD b o xs e),λb ps e=>?_],?_,λx c e=>?_,?_,λx c e=>?_,.fy,ac,I.len];.exact f b o (g b o e) J (t b o e y) (.fz e n J y) (.dO e n y)
 .obtain⟨M,C⟩:=.gg J y;obtain⟨ah,A⟩:=slot b _ (g b o e) J (t b o e y) C (.dO e n y);grind
 .obtain⟨a,C⟩:=.eL e y;exact h b a (t b o e y) C (.dO e n y)
 .obtain⟨a,C⟩:=.eL e y;grind
 .obtain⟨m1,C⟩:=I.base.yp b ps e;grind
 .obtain⟨m,hn,hl⟩:=I.loc;refine#[m,ns m hn,λi x v C A e3=>?_];obtain⟨u,r,l⟩:=hl i x v C A e3;refine#[u,r,?_];rcases l with l|⟨k,c,e,z⟩;.exact .n l
  .exact @n #[k,c,e,ae x c e _ z]
 .obtain⟨v,z⟩:=.ee e;grind
 .obtain⟨m,⟨o,_,_,Y,_⟩,_⟩:=I.loc;grind[Inv.free]
 .obtain⟨v,o,Y,T⟩:=.ee e;exact h c o .q Y .o9
 .obtain⟨e,n,ne,nf,d⟩:=.cr hp;grind
theorem Inv.un(I:.D)(u:Un X.fs [] H L .O h')(h:.ds L h'):.Y L .xE:=by obtain⟨m,⟨o,f,ep,k,r⟩,_⟩:=id I.loc;obtain⟨p,T⟩:=u.any k .ej @I;exact .gh (ch:=[]) (λ_ z=>nomatch z) (λb o _ l _ e n=>u.keep b o e n l @I) (λb o _ l _ e n=>u.slot b o e n l @I) (λb o _ e n=>u.free b o e n @I) (λb o _ e=>u.there b o e @I) u.yo u.vD u.yp (λq M=>by obtain⟨a,x,g,C,c⟩:=M;rw[k]at C;cases C;exact#[_,x,g,T,c]) h .c9
theorem Inv.call{ch:@D}(I:.D)(u:Un .eW ch H L .O h')(h:.ds L h')(q:zp g')(w:.xC):.Y L {s with heap:=h',gens:=g',drawn:=d',toks:=t'}:=by obtain⟨m,⟨o,f,ep,k,r⟩,_⟩:=id I.loc;obtain⟨y,T⟩:=u.any k .ej .q;exact I.step (ch:=ch) w (λb o T l B e n=>u.keep b o e n (λz=>(kc.mp (I.PH b z)).elim T l) B) (λb o _ _ B e n=>u.any e n B) (λb o B e n=>u.free b o e n B) (λb o B e=>u.there b o e B) u.yo u.vD u.yp (λD M=>by obtain⟨a,t,g,C,v⟩:=M;rw[k]at C;cases C;exact#[_,t,g,T,v]) h q
theorem Inv.turned(I:.D)(k:∀b o,b≠C->.pa)(h:H C=e')(T:C≠.cF)(t:.k5 C)(w:∀x c,.cq x=O c->c≠C)(L:.k6 C):.Y H .sT:=by
 have a:∀b u,H b=O u->b≠C:=.h
 refine .gh (ch:=[C]) .h9 .q (λb o _ _ B e _=>#[o.slots,k b o (λz=>B (by simp[z])) e]) (λ_ _ _ _ n=>n) .q (λ_ _ e=>e) (λ_ _ _ e=>e) .aW (λm M=>?_) (λb u e=>?_) .c9;.grind
 .obtain⟨o,f,ep,g,r⟩:=M;exact#[o,f,ep,k _ o (my T) g,r]
 .refine .hk (λ_ q=>q) .lP;rcases B with z|z;.rw[z];exact a b u e
  .exact a c _ z
theorem Inv.tok(I:.D)(t:Nat):.Y H {s with toks:=t}:=I.un (h':=s.heap) (t':=t) Un.refl .bB
theorem Inv.kept(I:.D)(k:∀b u,.ah b=O u->.h6=O u):.Y H .sT:=I.un (Un.kept k) (I.je.kept k)
theorem Inv.laid(I:.D)(k:∀b u,.ah b=O u->.o6)(Q:@L<=a)(C:.cK .j2 h' a o):.Y .j2 .xE:=I.un (Un.laid k Q (.ef Q)) (I.je.laid k Q C)
theorem Inv.write(I:.D)(g:xf (H x))(a:.xx)(k:∀b u,b≠e->.ah b=O u->.o6)(m:.xz)(C:.cK (@z x o) h' x o):.Y (@z x o) .xE:=I.un (Un.write g a k m) (I.je.write g a k m C)
theorem Inv.weak(I:.D)(L:.ek=σ.length)(w:∀(i:Nat)v,r[i]? =.jI v->σ[i]? =.jI v):.eM r H s:=#[I.ok,I.os,.c9,I.base,let#[m,f,h]:=I.loc;.q,I.cell,.ej,I.qz,I.pin,.bB,.dP I.len]
theorem Inv.YE(I:.D)(h:∀p∈k,.ah p.1=O p.2/\H p.1=e'/\p.1≠.cF/\p.1∉X.fs/\∀v,p.2.data≠.cell v):Inv X k σ H s:=#[I.ok,I.os,.c9,I.base,I.loc,I.cell,.ej,I.qz,λp Q=>(k8.mp Q).elim (λz=>.cr .q) (h p),.bB,I.len]
theorem NQ(g:N.Nodup){i j:Nat}{x:iA}(a:N[i]? =O x)(b:N[j]? =O x):i=j:=by grind[ab9]
theorem Vg{i:Nat}{x:iA}{Q:Unit->.dA}(I:.D)(hN:.gO)(L:.j5)(f:.pb)(r:.cR)(h:∀s',.eM .xF H s'->(∃a,vT a .O s'.heap/\(a=.cF\/.cq x=O a))->Q () s')(hf:.pc:=by ext aE):.Cc:=by
 obtain⟨m,hn,hl⟩:=id I.loc;have af:(X.env.scope.kind==.class||(X.env.scope.kind==.module&&.cF !=X.env.globals))=ij:=.jP I.ok.kind
 have ac:i<σ.length:=by rw[I.len];grind
 have aa:=I.Ri;have ae:∀{a:U}{D:jo},(∃o,.ah a=O o/\.cT)->vT a .O D->.ds H D:=λ{a D}ha w b ob e=>by obtain⟨_,_,al⟩:=ha;refine(I.je b ob e).vz (λc w' B q=>(w.2 c ?_).trans q) (λ_ q=>q) .lP;grind
 rcases f with hk|hk
 .refine wpAny_storeName_local hk hn (λD ag w=>?_) af;obtain⟨oL,_,_,ah,_⟩:=id hn;refine h _ #[I.ok,I.os,.c9,.Cd,#[_,ag,λj J v' C Y e3=>?_],λJ c e=>?_,.ej,I.qz,.fy,ae #[oL,ah,.ej] w,.j0 I.len] #[_,w,.n y];.exact .gi (.fz e n l f)
  .obtain⟨sl,C⟩:=.gg l f;exact#[sl,.gi C]
  .obtain⟨o',C⟩:=.eL e f;exact#[o',.gi C]
  .by_cases g:j=i;.subst g;rw[L]at C;cases C;rw[abb ac]at Y;cases Y;exact#[u,r,.n #[hk,@E]]
   .ext bR;rcases q with⟨k,e⟩|⟨k,c,e,z⟩;.refine .n #[k,?_];grind[NQ]
    .exact @n #[k,c,e,.Cf]
  .obtain⟨w',z⟩:=I.cell J c e;exact#[w',.Cf]
  .obtain⟨e,n,T,nf,d⟩:=.cr hp;exact#[(w.2 p.1 T).trans e,n,T,nf,d]
 .have ab:X.fn x=f':=.h
  obtain⟨c,B⟩:=I.ok.has x (.n hk);obtain⟨w',z⟩:=.ee B;refine wpAny_storeName_cell .ia hk B z (λD ai w=>?_);obtain⟨oc,aj,am⟩:=id z;refine h .em #[I.ok,I.os,.c9,.Cd,#[m,hn.sameBut w (my (aa x c B)),λj J v' C Y e3=>?_],λJ t e=>?_,.ej,I.qz,.fy,ae #[oc,aj,I.qz x c B] w,.j0 I.len] #[c,w,@n B];.exact .gj (.fz e n l f)
  .obtain⟨sl,C⟩:=.gg l f;exact#[sl,.gj C]
  .obtain⟨o',C⟩:=.eL e f;exact#[o',.gj C]
  .by_cases g:j=i;.subst g;rw[L]at C;cases C;rw[abb ac]at Y;cases Y;exact#[u,r,@n #[.n hk,c,B,ai]]
   .ext bR;rcases q with q|⟨k,t,e,z'⟩;.exact .n q
    .refine @n #[k,t,e,z'.sameBut w ?_];rintro rfl;exact g (NQ hN C (I.ok.inj _ _ _ e B▸L))
  .by_cases ak:t=c;.grind
   .obtain⟨w2,z2⟩:=I.cell J t e;exact#[w2,z2.sameBut w ak]
  .obtain⟨e,n,T,nf,d⟩:=.cr hp;refine#[(w.2 p.1 ?_).trans e,n,T,nf,d];grind
theorem Nv(I:.D)(g:.gO)(t:.j5)(a:.pb)(r:.cR)(h:∀p,.eM .xF H p->Q () p)(c:.pc:=by ext aE):.Cc:=by grind[Vg]
theorem Inv.Z1(I:.D)(k:f.os=s.os)(u:Un .eW ch H L .O f.heap)(h:.ds L f.heap)(q:zp f.gens)(w:.xC):.Y L f:=by obtain⟨D,B,t,t',a⟩:=f;have e:a=s.os:=k;subst e;exact I.call (g':=B) (t':=t') (d':=t) u h q w
abbrev XK:=iB->.E U->.aq
abbrev St:=@q .aV
abbrev VK:=.gQ
abbrev TE:=St->.ib
abbrev TT:=St->Hp->.j6->.n
abbrev TA:=St->Hp->(.L->.aq)->.n
structure Ends where
 nx:St->Hp->Prop
 rt:VK
 bk:St->Hp->Prop:=λ_ _=>False
 ct:St->Hp->Prop:=λ_ _=>False
abbrev TS:=Ends->.f7
def EP(X:Cx)(pins:.aL)(σ:St)(Q:VK)(u:iB)(p:iV):.n:=∃v L,.lR/\.cR/\Q v L
def TP(X:Cx)(pins:.aL)(σ:St)(Q:.j6)(b:.ab)(p:iV):.n:=∃L,.lR/\Q b L
def AP(X:Cx)(pins:.aL)(σ:St)(Q:.L->.aq)(us:.Y)(p:iV):.n:=∃g L,.lR/\.lT/\Q g L
def SP(X:Cx)(pins:.aL)(D:Ends)(f:Flow)(p:iV):.n:=match f with
 |.next=>∃r L,.lV/\D.nx r L|.brk=>∃r L,.lV/\D.bk r L|.cont=>∃r L,.lV/\D.ct r L|.ret u=>∃v r L,.lV/\.cR/\D.rt v L
def PE(X:Cx)(e:.aB)(t:TE):.n:=∀(pins:.aL)(s:iV)(σ:St)(H:Hp)(Q:VK),.D->.ab Q->.Q .gR .dR .ao s
def PT(X:Cx)(e:.aB)(t:TT):.n:=∀(pins:.aL)(s:iV)(σ:St)(H:Hp)(Q:.j6),.D->.ab Q->.Q (.fA .gR) .sU .ao s
def PW(X:Cx)(e:.aB)(t:TT):.n:=∀(w:Sem iB)(pins:.aL)(s:iV)(σ:St)(H:Hp)(Q:.j6),.D->.ab Q->.Q (.fA w) .sU .ao s
theorem PW.pt(h:PW X e t):PT X e t:=h _
def PA(X:Cx)(f:.eX)(t:TA):.n:=∀(T:Pos)(pins:.aL)(s:iV)(σ:St)(H:Hp)(Q:.L->.aq),.D->.ab Q->.Q (spliced (.c2 T (.bH f .M))) (AP X @t σ Q) .ao s
def PS(X:Cx)(st:i5)(t:TS):.n:=∀(pins:.aL)(s:iV)(σ:St)(H:Hp)(D:Ends),.D->t D σ H->.Q (exec st .M) (SP X @t D) .ao s
def qW(X:Cx)(st:@q i5)(t:TS):.n:=∀(pins:.aL)(s:iV)(σ:St)(H:Hp)(D:Ends),.D->t D σ H->.Q (execs st .M) (SP X @t D) .ao s
theorem iW(h:.dQ t Q E s)(u:∀a s,Q a s->k a s):.dQ t k E s:=rQ h u .sV
end L2
variable{X:L2.Cx}
namespace L2
open PySem PySem.Spec PyProof.Rows
theorem bin(p:.cW)(l:.ic){R:V->.gQ}(I:.D)(h:.Ch){α:Type}{Q:α->.dA}{f:iB->iB->Sem α}(w:.Ci):.Cj:=.Ck
def i9(i:Nat):TE:=λσ H Q=>∃v,σ[i]? =.jI v/\Q v H
def tC(v:V):TE:=λ_ H Q=>Q v H
theorem aj9(g:.j5)(L:BW .j7 x)(T:.da:=by decide)(a:.Cl:=by decide):.nj q i:=by
 ext q;obtain⟨v,e,h⟩:=h;obtain⟨m,f,k⟩:=I.loc;obtain⟨u,r,l⟩:=k i x v g e L;have fin:.fB u s:=#[v,H,I,r,h];rcases l with⟨hk,M⟩|⟨hk,c,B,p⟩;.exact TX (abk .ia hk f M fin) T
 .rcases hk with hk|hk;.exact TX (abu .ia hk B p fin) T
  .exact TX (wpAny_loadName_free .ia hk B p fin a) T
theorem iY{i j T}:.H (.dt .cm j T) (tC .cm):=λ_ _ _ H _ I h=>wpAny_Constant_int #[.cm,H,.bH,.br,h]
theorem vq{b j T}:.H (.dt (.bool b) j T) (tC (.bl b)):=λ_ _ _ H _ I h=>Constant_bool #[.bl b,H,I,y,h]
theorem pJ{j T}:.H (.dt .none j T) (tC .iM):=λ_ _ _ H _ I h=>Sr #[.iM,H,I,y,h]
theorem n6{x j T}:.H (.dt (@I x) j T) (tC (@I x)):=λ_ _ _ H _ I h=>Calls.Constant_str #[@I x,H,.bH,.br,h]
def Gl(X:Cx)(x:iA):.n:=X.env.kindOf x=O .globalImplicit
theorem zB(I:.D)(q:.dS)(M:.ie=O u)(h:Q u s)(T:.da:=by decide):.Q (.av (.bq a) .M) Q E s:=aaS .ia q (Calls.loadGlobal_global .Cm M h) T
theorem uj(I:.D)(q:.dS)(M:.ie=e')(L:.b8 x=O u)(h:Q u s)(f:.sW:=by decide)(T:.da:=by decide):.Q (.av (.bq g) .M) Q E s:=by obtain⟨a,D,c⟩:=I.mod.blt;exact aaS .ia q (Calls.loadGlobal_builtin .Cm M (by rw[I.ok.blt];exact D.keeps I.bk) ((c x f).trans L) h) T
theorem kU(q:.dS)(M:.ie=O u)(r:.cR)(T:.da:=by decide):.H (.bq a) (tC v):=λ_ _ _ H _ I h=>zB I q M #[v,H,I,r,h] T
def PC(X:Cx)(m:CmpOp)(a b:.aB)(t:TE):.n:=∀(pins:.aL)(s:iV)(σ:St)(H:Hp)(Q:VK),.D->.ab Q->.Q (.kb a) (λv c=>.Q (.kb b) (λu k=>.Q (.bn m v u) .dR .ao k) .ao c) .ao s
theorem Xo(b:.aB)(h:m≠.In)(M:m≠.NotIn):.lW:=by
 have C:(m==CmpOp.In)=ij:=.h
 have A:(m==ady)=ij:=.h
 cases b<;>simp[behindInMarks,C,A]
def aln(t:TE):TE:=λσ H Q=>.ab λx B=>.gk B
def ZU(t:TE):TE:=λσ H Q=>.ab λx B=>.pc Q (.kS x) B
theorem RelV.Xn(r:.eY):(v==pX)=.q (x=.iM):=by
 cases x with
 |iM=>ext ad|bl _=>ext ad|int _=>ext E;rfl|str _=>ext E;rfl|px _=>ext E;rfl|E5 _=>ext E;rfl|ref _=>ext ad|ty _=>ext ad
theorem aka{j c}(p:.cW):PC X .Is a (.dt .none j c) (aln t):=by ext q;refine .br .j8;exact Sr (is_none_gen .Co)
theorem OM{j c}(p:.cW):PC X .IsNot a (.dt .none j c) (ZU t):=by ext q;refine .br .j8;exact Sr (isnot_none_gen .Co)
def tB(t:TE):TT:=λσ H Q=>.ab λx B=>∃c,x=.bl c/\Q c B
theorem Je(h:PC X m a b t)(D:.lW:=by first|exact Xo _ .E .E|rfl):.H (.fC T) t:=λpins s σ H Q I p=>wpAny_Compare1 .xG D
theorem tF(h:PC X m a b t)(D:.lW:=by first|exact Xo _ .E .E|rfl):PT X (.fC T) (tB t):=by ext aN;refine abf (.gm λv l D=>iW D λu g M=>iW M λc k#[x,B,f,r1,L]=>?_) D;obtain⟨d,rfl,q⟩:=L;cases r1;exact xl #[B,f,q]
theorem aj6(h:.ao t)(a:∀w,.fA w=.Cq:=by intro _;rfl):PT X e (tB t):=by ext aN;refine isTrue_plain (.gm .j8) (a _);obtain⟨d,rfl,q⟩:=L;cases r1;exact xl #[B,D,q]
def alr(t u:TT):TT:=λσ H Q=>.ab λc B=>if c=f' then u σ B Q else Q ij B
def tOr(t u:TT):TT:=λσ H Q=>.ab λc B=>if c=f' then Q f' B else u σ B Q
def Z8(t:TT):TT:=λσ H Q=>.ab λc B=>Q (!c) B
theorem Bf(p:.pd):PW X (.cL .And [a] T) f:=by ext aO;refine isTrue_and .Cs;grind[isTrue_and_nil]
theorem Jd(p:.pd):PW X (.cL .Or [a] T) f:=by ext aO;refine isTrue_or .Cs;grind[isTrue_or_nil]
theorem Bu(p:.pd)(l:PW X (.cL .And (b::C) T) t):PW X .Cv (alr f t):=by
 ext aO;refine isTrue_and .Cw;cases c with
 |true=>exact l g @t m σ B Q D L|false=>exact#[B,D,L]
theorem Jr(p:.pd)(l:PW X (.cL .Or (b::C) T) t):PW X (.cL .Or (a::b::C) T) (tOr f t):=by
 ext aO;refine isTrue_or .Cw;cases c with
 |true=>exact#[B,D,L]|false=>exact l g @t m σ B Q D L
theorem vi(p:.pd):PT X .xI (Z8 f):=by ext q;exact isTrue_not (p @t s σ H (λc B=>Q (!c) B) I h)
def akZ(t M:TE):TE:=λσ H Q=>.ab λx B=>∃c,x=.bl c/\if c=f' then M σ B Q else .eg B
def alk(t M:TE):TE:=λσ H Q=>.ab λx B=>∃c,x=.bl c/\if c=f' then .eN B else M σ B Q
def akU(t:TE):TE:=λσ H Q=>.ab λx B=>∃c,x=.bl c/\.pc Q (!c) B
theorem Ee{m}(h:.cW):.H (.cL m [a] T) t:=λpins s σ H Q I p=>BoolOp_one .xG
theorem ZD(p:.cW)(l:.H (.cL .And (b::C) T) M):.H .Cv (akZ t M):=by
 ext q;refine BoolOp_and (.br .j8);ext bg;refine xl ?_;cases c with
 |true=>exact .xJ|false=>exact#[.bl ij,B,D,y,L]
theorem Jt(p:.cW)(l:.H (.cL .Or (b::C) T) M):.H (.cL .Or (a::b::C) T) (alk t M):=by
 ext q;refine BoolOp_or (.br .j8);ext bg;refine xl ?_;cases c with
 |false=>exact .xJ|true=>exact#[.bl f',B,D,y,L]
theorem aj'(p:.cW):.H .xI (akU t):=by ext q;refine UnaryOp_ (.br .j8);ext bg;exact not_of (xl #[.bl (!c),B,D,y,L])
def tIf(t:TT)(a M:TE):TE:=λσ H Q=>.ab λc B=>if c=f' then a σ B Q else M σ B Q
theorem NO(g:PT X c f)(p:.cW)(l:.ic):.H (.IfExp c a b T) (tIf f t M):=by
 ext q;refine wpAny_IfExp (iW (g @t s σ H _ I h) λd m#[B,D,L]=>?_);cases d with
 |true=>exact p @t m σ B Q D L|false=>exact .xJ
def iD(K:jd)(H:Hp)(a:U)(xs:.L):.n:=Rd H a .pe\/∃(o:jA)(M:.gT)(n:Nat),.jz a=O o/\o.cls=.dU/\o.dict=e'/\.Cz
def jz(K:jd)(H:Hp)(a:U)(xs:.L):.n:=Rd H a (@L xs)\/∃(o:jA)(M:.gT)(n:Nat),.jz a=O o/\.lX/\.Cz
def alS:iB->.aV
 |.none=>O .iM|.bool b=>.j1 b|.int i _=>.jh i|.str x _=>.kC x|.bytes b _=>O (.px b)|.float b _=>O (.E5 b)|.ref a=>.fz|.type n=>O (.ty n)|_=>e'
theorem RelV.abs(r:.h5):alS u=O x:=by
 cases x with
 |iM=>ext ad|bl _=>ext ad|int _=>ext E;rfl|str _=>ext E;rfl|px _=>ext E;rfl|E5 _=>ext E;rfl|ref _=>ext ad|ty _=>ext ad
theorem RelV.inj(r:.h5)(q:.dV):x=C:=pD (r.abs.symm.trans q.abs)
theorem Vals.inj:∀{xs ys:.L}{us:.Y},.eU->.ac ys us->xs=ys
 |_,_,_,.nil,.nil=>y|_,_,_,.cons r t,.cons m t'=>by rw[r.inj m,Vals.inj t t']
theorem iD.of(h:H a=.eZ):.fA:=.n (.n h)
theorem jz.of(h:H a=.dz):.lY:=.n (.n h)
theorem Inv.list(I:.D)(h:.dR a xs):∃M:.Y,.b5 M/\PlainL .O a .c8/\.fw:=by
 rcases h with h|⟨o,M,n,hk,B,T,w,c,r⟩;.obtain⟨z,M,n,r,e⟩:=h.ok .bB;exact#[M,r,#[_,n,e,y,y,y],z]
 .refine#[M.toList,r,#[o,n,I.qj a o hk,B,T,.t],?_];have e:=r.length;grind
theorem Inv.tuple(I:.D)(h:jz X.K H a xs):∃M:.Y,.b5 M/\zP .O a .c8/\.fw:=by
 rcases h with h|⟨o,M,n,hk,B,w,c,r⟩;.obtain⟨z,M,r,p⟩:=h.ok .bB;grind
 .refine#[M.toList,r,#[o,I.qj a o hk,B,n,.t],?_];have e:=r.length;grind
theorem Inv.Xp(I:.D)(h:.dR a xs)(D:.dR a ys):xs=ys:=by
 obtain⟨M,r,⟨o,n,e,_,_,d⟩,_⟩:=.aQ h;obtain⟨g,m,⟨c,B,T,_,_,t⟩,_⟩:=.aQ D;rw[e]at T;cases T;rw[d]at t;injection t with x _;have:M=g:=.h
 ext Y;exact r.inj m
def Ep:TS:=λD σ H=>.fB
def tS(t u:TS):TS:=λD σ H=>t {D with nx:=u D} σ H
theorem jn:qW X [] Ep:=λ_ _ σ H _ I h=>FA #[σ,H,I,h]
theorem iy(a:PS X st t)(M:qW X C u):qW X (st::C) (tS t u):=by
 ext Z;refine .lp (a @t s σ H {D with nx:=u D} I h);cases f with
 |next=>obtain⟨r,L,c,q⟩:=q;exact M @t m r L D c q|ret v=>exact q|brk=>exact q|cont=>exact q
theorem iE(a:PS X st t):qW X [st] t:=by ext Z;refine .lp (a @t s σ H D I h);grind[FA]
theorem Inv.quiet(I:.D):interactive .M=ij:=by simp[interactive,I.ok.kind]
def BA(f:TE):TS:=λD σ H=>.c3 λ_ B=>D.nx σ B
theorem jf(a:.ao f)(w:swapsWith e e' T.line .M=pure ij:=by rfl):PS X (.Expr e T) (BA f):=by ext Z;exact wpAny_Expr_any (.c4 λv m#[x,B,c,r1,L]=>#[σ,B,c,L]) I.quiet w
def EF(f:TE):TS:=λD σ H=>.c3 D.rt
theorem iR(a:.ao f):PS X (.Return (O e) T) (EF f):=by ext Z;exact wpAny_Return_some (.c4 λv m#[x,B,c,r1,L]=>#[x,σ,B,c,r1,L])
def akS:TS:=λD _ H=>D.rt .iM H
theorem YC:PS X (.Return e' T) akS:=λ_ _ σ H _ I h=>wpAny_Return_none #[.iM,σ,H,I,y,h]
def EG(c:TT)(t u:TS):TS:=λD σ H=>c σ H λb B=>if b=f' then t D σ B else u D σ B
theorem jh(k:PT X c f)(p:qW X a t)(l:qW X b u):PS X (.If c a b T) (EG f t u):=by
 ext Z;refine wpAny_If (.du λd m#[B,g,L]=>?_);cases d with
 |true=>exact p @t m σ B D g L|false=>exact l @t m σ B D g L
abbrev TG:=V->St->Hp->.f7->.n
abbrev E7:=.L->St->Hp->.f7->.n
def PG(X:Cx)(f:.aB)(t:TG):.n:=∀(pins:.aL)(s:iV)(σ:St)(H:Hp)(v:V)(u:iB)(Q:.f7),.D->.cR->t v σ H Q->.Q (assign f .M u) .CA .ao s
def J0(X:Cx)(ts:.eX)(t:E7):.n:=∀(pins:.aL)(s:iV)(σ:St)(H:Hp)(g:.L)(us:.Y)(Q:.f7),.D->.lT->t g σ H Q->.Q (assignInOrder ((.eh ts .M).map .bC) us) .CA .ao s
abbrev Q5:=.CB
def Q7(X:Cx)(t:Q5):.n:=∀(pins:.aL)(s:iV)(σ:St)(H:Hp)(o i v:V)(L l u:iB)(Q:.aq),.D->.am o L->.am i l->.cR->t o i v H Q->.Q (setItem L l u) (λ_ p=>∃a,.Y a p/\Q a) .ao s
abbrev JY:=.ig
def Rk(X:Cx)(m:Operator)(t:JY):.n:=∀(pins:.aL)(s:iV)(σ:St)(H:Hp)(x y:V)(v u:iB)(Q:VK),.D->.eY->.am y u->t x y H Q->.Q (inplaceOp m v u) .dR .ao s
def qR(i:Nat):TG:=λv σ H Q=>Q .xF H
theorem jK(g:.gO)(t:.j5)(a:.pb)(c:.pc:=by ext aE):PG X (.bq T) (qR i):=by intro pins s σ H v u Q I r h;exact abO (Nv I g t a r (λp f=>#[_,H,f,h]) c)
def JK:E7:=λg σ H Q=>g=[]/\Q σ H
def zR(t:TG)(u:E7):E7:=λg σ H Q=>∃v r,g=v::r/\t v σ H λa L=>u r a L Q
theorem zz:J0 X [] JK:=by ext bh;obtain⟨e,h⟩:=h;subst e;cases r;exact assignInOrder_nil #[σ,H,I,h]
theorem rr(D:PG X e t)(M:J0 X f u)(w:(.eh .fC .M).map .bC=assign e .M::(.eh f .M).map .bC:=by rfl):J0 X .fC (zR t u):=by
 ext bh;obtain⟨v,c,C,h⟩:=h;subst C;cases r with
 |cons r k=>rw[w];refine assignInOrder_cons (iW (D @t s σ H _ _ _ I r h) λ_ m#[a,B,l,L]=>?_);exact M @t m a B _ _ Q l k L
def JJ(K:jd)(n:Nat)(t:E7):TG:=λv σ H Q=>∃a xs,v=.aX/\.lY/\.ag=n/\t xs σ H Q
theorem zG(B:.en)(h:J0 X f t)(l:(.eh f .M).length=n:=by rfl)(m:(.eh f .M).findIdx? .bS=e':=by rfl):PG X (.Tuple f k T) (JJ X.K n t):=by intro pins s σ H v u Q I r p;obtain⟨a,xs,C,g,L,p⟩:=p;subst C;cases r;obtain⟨M,q,w,c⟩:=.bS g;refine assign_Tuple_tuple .eo w (by simp[l,<-L,q.length]) m λD x=>?_;have J:.gU:=I.kept (t':=s.toks) λb o e=>x b o (mT .h8) e;exact h @t _ σ H xs _ Q J @h p
def alN(u a:TE)(t:Q5):TG:=λv σ H Q=>u σ H λo B=>a σ B λi I=>t o i v I λh=>Q σ h
theorem Ed(k:.aR f)(M:.H i a)(w:Q7 X t)
  (p:∀v,assign (.dS T) .M v=(do
   let L<-holding [v] (eval o X.env)
   let l<-holding [v,L] (eval i X.env)
   standAt T
   holding [v,L,l] (setItem L l v)
   release [v,L,l] []):=by intro _;rfl):PG X (.dS T) (alN f a t):=by intro pins s σ H v u Q I r h;rw[p];refine iH (sT (.du λL m#[x,B,D,r1,J]=>?_));refine iH (sT (iW (M @t m σ B _ D J) λl g#[C,U,c,r2,q]=>?_));refine iH (Sn (iH (sT (iW (w @t g σ U x C v L l u _ c r1 r2 r q) λ_ Y#[A,I3,q3]=>?_))));grind[wpAny_release]
def zS(f:TE)(g:TG):TS:=λD σ H=>.c3 λx B=>g x σ B D.nx
theorem Eb(a:.ao f)(c:PG X l g)(w:swapsWithSole [l] e T.line .M=pure ij:=by rfl)(p:swappedStores [l] e .M=pure e':=by rfl)(k:(.eh [l] .M).map .bC=[assign l .M]:=by rfl):PS X (.Assign [l] e T) (zS f g):=by ext Z;refine wpAny_Assign_stores (.c4 λv m#[x,B,r,r1,L]=>?_) w p;rw[k];exact iW (c @t m σ B x v _ r r1 L) λ_ t q=>q
theorem i8(g:.gO)(t:.j5)(k:.pb)(a:.ao f)(w:.p5 e (.bq Q) T.line:=by rfl)(l:.pc:=by ext aE):PS X (.Assign [.bq Q] e T) (zS f (qR i)):=by ext Z;refine wpAny_Assign_Name (.c4 λv m#[C,B,p,r1,L]=>?_) w;exact Nv p g t k r1 (λq c=>#[_,B,c,L]) l
def alq(i:Nat)(f:TE)(a:JY):TS:=λD σ H=>∃x,σ[i]? =.jI x/\.c3 λy B=>a x y B λz I=>D.nx (σ.set i (O z)) I
theorem xZ(g:.gO)(t:.j5)(a:.pb)(p:.ao q)(A:Rk X f B)(Q:.pc:=by ext aE):PS X (.AugAssign (.bq ac) f e ae) (alq i q B):=by
 ext Z;obtain⟨v,C,h⟩:=h;obtain⟨m,J,L⟩:=I.loc;have T:BW .j7 x:=by rcases a with k|k;exact .n k;exact .j2 k
 obtain⟨u,r,l⟩:=L i x v t C T;refine wpAny_AugAssign_Name ?_;have go:.Q .gR (λw U=>.Q (inplaceOp f u w) (λr Y=>.Q (storeName .M x r) (λ_=>SP X @t D .next) .ao Y) .ao U) .ao s:=by refine .br λw M#[aa,H1,I1,r1,q1]=>?_;refine iW (A @t M σ H1 v aa u w _ I1 r r1 q1) λz s2#[zv,H2,I2,r2,q2]=>?_;exact Nv I2 g t a r2 (λs3 I3=>#[_,H2,I3,q2]) Q
 rcases l with⟨hk,hm⟩|⟨hk,c,hc,ab⟩;.exact abk .ia hk J hm go
 .rcases hk with hk|hk;.exact abu .ia hk hc ab go
  .rcases a with k|k;.have:.ku x=O .free:=hk;grind
   .have:.ku x=O .free:=hk;grind
def akY(u a f:TE)(c:.ig)(g:JY)(v:Q5):TS:=λD σ H=>u σ H λo B=>a σ B λi I=>c o i I λx h=>f σ h λy T=>g x y T λz M=>v o i z M λl=>D.nx σ l
def aas(X:Cx)(t:.ig):.n:=∀(pins:.aL)(s:iV)(σ:St)(H:Hp)(o i:V)(L l:iB)(Q:VK),.D->.am o L->.am i l->t o i H Q->.Q (getItem L l) .dR .ao s
theorem ai1(k:.aR u)(t:.H i a)(q:aas X c)(f:.ao g)(Q:Rk X m p)(w:Q7 X x)(A:∀L l C,augStore i L l C=(do holding [C,L,l] (setItem L l C);release [C,L,l] [];pure .next):=by intros;rfl):PS X (.AugAssign (.dS ab) m e ac) (akY u a g c p x):=by ext Z;refine wpAny_AugAssign_SubscriptAny (.du λL U#[J,B,Y,r1,M]=>?_) A;refine iW (t @t U σ B _ Y M) λl T#[r,H2,I2,r2,q2]=>?_;refine iW (q @t T σ H2 J r L l _ I2 r1 r2 q2) λaa s3#[x3,H3,I3,r3,q3]=>?_;refine iW (f @t s3 σ H3 _ I3 q3) λv s4#[x4,H4,I4,r4,q4]=>?_;refine iW (Q @t s4 σ H4 x3 x4 aa v _ I4 r3 r4 q4) λC s5#[x5,H5,I5,r5,q5]=>?_;exact iW (w @t s5 σ H5 J r x5 L l C _ I5 r1 r2 r5 q5) λ_ s6#[H6,I6,q6]=>#[σ,H6,I6,q6]
def ipI(f:Int->Int->Int):JY:=.so x j Q (f i j) H
theorem zK:Rk X .Add (ipI λi j=>i+j):=by intro pins s σ H x a v u Q I r1 r2 h;obtain⟨i,j,C,A,q⟩:=h;subst C;subst A;ext aP;obtain⟨t',rfl⟩:=r2;exact iadd_int #[.h _,H,.bH,.br,q]
def ajR(c:TT)(M:TS):TS:=λD σ H=>∃W:.lZ,(∃m,W m σ H)/\∀m σ H,W m σ H->c σ H λb B=>if b=f' then∃N:.f7,(∀r L,N r L->∃u,u<m/\W u r L)/\M {D with nx:=N,ct:=N,bk:=D.nx} σ B else D.nx σ B
theorem qv(Q:.CC)(g:PT X c k)(l:qW X m M):PS X (.While c m [] aa) (ajR k M):=by
 ext Z;obtain⟨W,⟨J,t⟩,U⟩:=h;refine wpAny_While (codeAny_whileLoop (λn p=>∃r L,.lV/\W n r L) ?_ J #[σ,H,I,t]);rintro n Y⟨a,B,x,A⟩;refine Ar Q (iW (g @t Y a B _ x (U n a B A)) λb T#[u,C,q]=>?_);cases b with
 |true=>
  obtain⟨N,hN,q⟩:=q;rw[ip y];refine Ar Q (iW (l @t T a u _ C q) λf s3 w=>?_);cases f with
  |next=>obtain⟨σ3,H3,I3,n3⟩:=w;grind
  |cont=>obtain⟨σ3,H3,I3,n3⟩:=w;grind
  |brk=>exact w
  |ret v=>exact w
 |false=>rw[il nE];exact FA #[a,u,C,q]
structure It where
 go:Nat->Hp->Prop
 pq:Nat->Hp->V->Hp->Prop
 stop:Nat->Hp->Prop
def uF(X:Cx)(pins:.aL)(H:Hp)(b:U):.n:=.be/\b≠.cF/\b∉X.fs/\(.k5 b)/\(∀x c,.cq x=O c->c≠b)/\.k6 b
theorem Inv.EV(I:.D)(l:@L<=b)(f:L b=e'):.dv L b:=by
 refine#[f,yV (oN I.lt l),I.alH l,@n (ja I.sz l),λx c e z=>?_,λp Q z=>?_];.obtain⟨v,q⟩:=.ee e;exact .Z (oN q.lt .q) (AA _)
 .exact .Z (oN (jZ (.cr Q).1) .q) (AA _)
structure Turn(P:kS)(w:jR)(K:jd)(tg:Expr)(J:It)(fp:List U)(it:U)(tn:Nat->jo->Prop):Prop where
 mem:it∈fp
 obj:∀i h,tn i h->∀b∈fp,∃o,h.get? b=O o/\∀v,o.data≠.cell v
 keep:∀i h h',tn i h->(∀b∈fp,∀o,h.get? b=O o->h'.get? b=O o)->tn i h'
 item:∀(X:Cx),X.prog=P->X.w=w->X.K=K->X.calm=f'->∀(i:Nat)(pins:List (U×jA))(s:iV)(σ:St)(H:Hp)(E:iB->iV->Prop),Inv X pins σ H s->(∀b∈fp,uF X pins H b)->tn i s.heap->J.go i H->wpAny (model P w) X.A (pyNext (.ref it)) (λr s1=>∃u,r=O u/\wpAny (model P w) X.A (letOwnedTupleGo tg (.ref it) u) (λ_ s2=>∃x H',Inv X pins σ H' s2/\RelV x u/\J.pq i H x H'/\tn (i+1) s2.heap/\∀b∈fp,H' b=e') E s1) E s
 done:∀(X:Cx),X.prog=P->X.w=w->X.K=K->X.calm=f'->∀(i:Nat)(pins:List (U×jA))(s:iV)(σ:St)(H:Hp)(E:iB->iV->Prop),Inv X pins σ H s->(∀b∈fp,uF X pins H b)->tn i s.heap->J.stop i H->wpAny (model P w) X.A (pyNext (.ref it)) (λr s1=>r=e'/\Inv X pins σ H s1) E s
 self:∀(A:oR)(i:Nat)(s:iV)(Q:iB->iV->Prop)(E:iB->iV->Prop),tn i s.heap->Q (.ref it) s->wpAny (model P w) A (pyIter (.ref it)) Q E s
abbrev TI:=St->Hp->(It->.aq)->.n
def E9(X:Cx)(pins:.aL)(σ:St)(l:.aB)(R:It->.aq)(p:iB)(g:iV):.n:=∃(C:U)(t:@D)(s:Nat->.ih)(J:It)(L:Hp),p=@h C/\.Y L g/\Turn .bI X.w X.K l J t C s/\s 0 g.heap/\(∀b∈t,.dv L b)/\R J L
def PI(X:Cx)(l iter:.aB)(p:TI):.n:=∀(pins:.aL)(s:iV)(σ:St)(H:Hp)(R:It->.aq),.D->.b9 R->.Q (.av iter .M) (λv m=>.Q (pyIter v) (.eP l R) .ao m) .ao s
theorem zQ{n:.ep}(k:.ah C=O o)(B:o.cls=.af n)(T:.e0=.a5 g)(f:.hn n=ij)(a:Q () s):.dQ (letOwnedTupleGo l .gV u) Q E s:=by unfold letOwnedTupleGo;grind[i6,iH,wpAny_load]
def ql(K:jd)(a:U):It:=#[λi H=>∃xs x,.fA/\.fv,λi H x L=>L=H/\∀xs,.fA->.fv,λi H=>∃xs,.fA/\.ag<=i]
def sH(lo:Int)(n:Nat):It:=#[λi _=>i<n,λi H x L=>L=H/\x=.sX,λi _=>n<=i]
theorem afo(a C:U):.c5 tg (ql K a) [C] C (λi h=>h.IsListIter C a i)where
 mem:=@E
 obj:=λi h st b l=>by
  ext ao
  subst e;obtain⟨o,e,c,d⟩:=st;grind
 keep:=.sY
 item:=by ext aQ;obtain⟨xs,x,g,v⟩:=q;obtain⟨aa,t,p,hz⟩:=.aQ g;obtain⟨u,hu,ru⟩:=t.get v;ext aR;refine aa6 st p.isList (x:=u) .q λD A sb=>?_;have I1:.gU:=.CD;obtain⟨o,e,c,d⟩:=id A;exact .sd u e c d #[x,H,I1,ru,#[y,λys hy=>by rw[I.Xp hy g];exact v],A,.l0]
 done:=by ext aQ;obtain⟨xs,g,v⟩:=q;obtain⟨aa,t,p,hz⟩:=.aQ g;ext aR;have hl:=t.length;exact abd .eo st p.isList .sZ .CE
 self:=by grind[wpAny_pyIter_listiter]
theorem aeb(C:U)(lo:Int)(n:Nat):.c5 A .j9 [C] C (λi h=>IsRangeIter h C (lo+.ii*1) (.aY-.ii) 1)where
 mem:=@E
 obj:=.h
 keep:=.h
 item:=by ext bS;have W:=Walks.range (prog:=X.prog) (w:=X.w) .eo C lo 1 n;refine W.item i s _ _ q st λv D x c k Y=>?_;obtain⟨t,rfl⟩:=c;have g:.Y H .ka:=I.turned .q m r L T M;refine#[_,y,zQ (s:=.ph s D x) (n:="range_iterator") k y y .E #[.sX,H,g,.jO t,#[y,y],k,.l0]];simp
 done:=by ext bS;exact wpAny_pyNext_range_end .eo st (by have:n<=i:=q;omega) λD J=>#[y,.cM (λb o l e=>J b o l e) m r L T M]
 self:=by grind[wpAny_pyIter_rangeiter]
def alb(K:jd)(tl:TE):TI:=λσ H R=>tl σ H λx B=>∃a,.cv/\(∃xs,.s2)/\R (ql K a) B
theorem kJ(L:.H l tl):PI X k l (alb X.K tl):=by
 ext an;refine .fD λv m#[x,B,D,r1,f]=>?_;obtain⟨a,e,⟨xs,g⟩,q⟩:=f;subst e;cases r1;obtain⟨M,t,p,c⟩:=D.list g;refine Kp p.isList ?_;refine#[.bT,[.bT],_,_,B,y,.eQ .bU,afo a _,.es,λb r=>?_,q];have e:b=.bT:=.h
 subst e;exact D.EV .ba .s3
theorem W7{R:It->.aq}{lo a:Int}{x:Nat}(I:.D)(c:-(2^62)<=lo)(M:lo<2^62)(r:-(2^62)<=a)(B:a<2^62)(q:R (sH lo .s4) H):.Q (pyIter .db) (.eP l R) E .CF:=by
 refine wpAny_pyIter_range (IsRange.new ..) (small_one c M r B) ?_;have D:.Y H .CF:=I.kept .bU;refine#[.xK,[.xK],_,_,H,y,D.kept (t':=x) .bU,aeb _ lo .s4,?_,λb f=>?_,q]
 .have C:lo+.pf*1=lo:=@E
  have A:((.s4:Nat):Int)-.pf=Builtin.Range.rangeSize lo a 1:=by grind[rangeSize_one]
  show IsRangeIter _ _ (lo+.pf*1) (((.s4:Nat):Int)-.pf) 1;rw[C,A];exact .cG
 .have e:b=.xK:=.h
  subst e;exact D.EV .ba .s3
def ala(t:TA):TI:=λσ H R=>.ab λg B=>∃j:Int,g=[.h j]/\-(2^62)<=j/\j<2^62/\R (sH 0 j.toNat) B
def ak'(t:TA):TI:=λσ H R=>.ab λg B=>∃i j:Int,g=[.cm,.h j]/\(-(2^62)<=i/\i<2^62/\-(2^62)<=j/\j<2^62)/\R (sH i (j-i).toNat) B
theorem MR(c:Gl X "range")(M:X.mg "range"=e')(f:PA X [a] k)(w:.bH [a] .M=[(ij,.kb a)]:=by rfl):PI X l (.an (.Name "range" p) [a] [] T) (ala k):=by
 ext an;refine Call_ (uj I c M boot_range (.om .CG w));obtain⟨j,e,L,u,q⟩:=L;subst e;cases r1 with
 |cons r v=>cases v;ext E;grind[call_range_1,W7]
theorem afO(c:Gl X "range")(M:X.mg "range"=e')(f:PA X [a,b] k)(w:.bH [a,b] .M=[(ij,.kb a),(ij,.kb b)]:=by rfl)(A:.bH [b] .M=[(ij,.kb b)]:=by rfl):PI X l (.an (.Name "range" p) [a,b] [] T) (ak' k):=by
 ext an;refine Call_ (uj I c M boot_range (Ai (iW .CG λus u#[g,B,D,r1,L]=>?_) .q (.jP A)));obtain⟨i,j,e,⟨L,x,C,J⟩,q⟩:=L;subst e;cases r1 with
 |cons r v=>
  cases v with
  |cons m v=>cases v;ext E;obtain⟨t',rfl⟩:=m;grind[call_range_2,W7]
def alo(p:TI)(g:TG)(M:TS):TS:=λD σ H=>.b9 λJ B=>∃W:Nat->.lZ,(∃m,W 0 m σ B)/\∀i m σ H,.kb->(.s5/\.fB)\/(.l3/\∃N:.f7,.kc/\∀x L,.l4->.kd)
def Ec(t:@D)(h:jo):.aL:=t.filterMap λb=>(.aP b).map λo=>(b,o)
theorem Mb(l:b∈t)(e:.jH b):(b,o)∈Ec t h:=t6.mpr #[b,l,.jP e]
theorem agg(Q:p∈Ec t h):p.1∈t/\.aP p.1=O p.2:=by
 obtain⟨b,l,e⟩:=t6.mp Q;cases q:.aP b with
 |none=>grind|some o=>grind
theorem Inv.pinned(I:.D)(Q:∀b∈t,.dv H b)(k:∀b∈t,∃o,.cE/\∀v,.e0≠.cell v):Inv X (@t++Ec t .O) σ H s:=I.YE λp a=>(k8.mp a).elim (λz=>.cr .q) λz=>by obtain⟨l,e⟩:=agg z;obtain⟨m,r,B,_⟩:=Q p.1 l;grind
theorem Inv.HE(I:Inv X (@t++u) σ H s):.D:=I.YE .xL
theorem qa(Q:.CC)(hc:.en)(hi:PI X tg iter wi)(hg:PG X tg g)(l:qW X ac tb)(hs:.s6:=by intro _;rfl):PS X (.For tg iter ac [] ai) (alo wi g tb):=by
 ext Z;refine wpAny_For (iW (hi @t s σ H _ I h) λv s1 h1=>iW h1 λaj s2 h2=>?_) hs;obtain⟨it,t,tn,J,H2,e,I2,T,ae,f2,W,⟨m0,w0⟩,af⟩:=h2;subst e;have p:∀{L:Hp},.ph->∀b∈t,.dv L b:=λhn b l=>#[hn b l,(f2 b l).2];refine codeAny_forLoop_any (λn s'=>∃i Y L,.eM Y L s'/\tn i s'.heap/\.ph/\W i n Y L) ?_ m0 #[0,σ,H2,I2,ae,λb l=>(f2 b l).1,w0];rintro n s3⟨i,k,c,I3,aa,ab,w3⟩;rcases af i n k c w3 with⟨stop,qn⟩|⟨go,N,hN,step⟩;.refine Ar Q (iW (T.done X y y y hc i @t s3 k c .ao I3 (p ab) aa stop) λr s4#[q,I4]=>?_);subst q;exact FA #[k,c,I4,qn]
 .refine Ar Q (iW (T.item X y y y hc i @t s3 k c .ao I3 (p ab) aa go) λr s4#[u,q,h4]=>?_);subst q;refine Ar Q (iW h4 λ_ s5#[x,H5,I5,r5,y5,A,ag]=>?_);have ah:=I5.pinned (p ag) (.eR A);refine Ar Q (iW (hg _ s5 k H5 x u _ ah r5 (step x H5 y5)) λ_ s6#[σ6,H6,I6,q6]=>?_);refine Ar Q (iW (l _ s6 σ6 H6 _ I6 q6) λf B U=>?_);have again:∀{C:St}{w:Hp},Inv X (@t++Ec t s5.heap) C w B->N C w->∃m,m<n/\∃i Y L,.eM Y L B/\tn i B.heap/\.ph/\W i m Y L:=λ{C w}a M=>by obtain⟨m',hm,w7⟩:=hN C w M;refine#[m',hm,i+1,C,w,a.HE,.fE A λb l o e=>(.CH).1,.h9,w7];obtain⟨o,e,d⟩:=.eR A b l;exact(.CH).2.1
  cases f with
  |next=>obtain⟨C,w,a,M⟩:=U;grind|cont=>obtain⟨C,w,a,M⟩:=U;grind|brk=>obtain⟨C,w,a,U⟩:=U;exact#[C,w,a.HE,U]|ret v=>obtain⟨x7,C,w,a,r7,U⟩:=U;exact#[x7,C,w,a.HE,r7,U]
theorem xR{a:U}{g:TG}{M:TS}{D:Ends}{σ:St}{H:Hp}(Pv:.lZ)(f:.l5)(c:∀i σ H,i<=.ag->.fD->.fA)(w:∀i x σ H,.fv->.fD->g x σ H .l6)(T:∀σ H,Pv .ag σ H->.fB):∃W:Nat->.lZ,.l7/\∀i m σ H,.kb->(.xM/\.fB)\/((ql K a).go i H/\∃N:.f7,.kc/\∀x L,.xN->.kd):=by
 refine#[λi m σ H=>m=.ag-i/\i<=.ag/\.fD,.h,?_];rintro i m σ H⟨rfl,t,p⟩;have q:=c i σ H t p;by_cases s:i<.ag;.refine @n #[.CI,Pv .ah,λr L v=>#[.ag-.ah,.t,y,s,v],.s7];ext aS
 .have e:i=.ag:=.t
  subst e;exact .n #[#[xs,q,.bV],T σ H p]
theorem agI{lo:Int}{g:TG}{M:TS}{D:Ends}{σ:St}{H:Hp}(Pv:.lZ)(a:.l5)(w:∀i σ H,i<n->.fD->g .sX σ H .l6)(T:.CJ):∃W:Nat->.lZ,.l7/\∀i m σ H,.kb->((.j9).stop i H/\.fB)\/((.j9).go i H/\∃N:.f7,.kc/\∀x L,(.j9).pq i H x L->.kd):=by
 ext bT;.refine @n #[s,Pv .ah,λr L v=>.s8,.s7];ext aS
 .have e:i=n:=.t
  subst e;exact .n #[.bV,T σ H p]
abbrev R2:=.ig
def mO(X:Cx)(f:iB->.l8)(r:R2):.n:=∀(pins:.aL)(s:iV)(σ:St)(H:Hp)(x y:V)(v u:iB)(Q:VK),.D->.eY->.am y u->r x y H Q->.Q (f v u) .dR .ao s
def Rj(X:Cx)(f:.l8)(r:V->.ib):.n:=∀(pins:.aL)(s:iV)(σ:St)(H:Hp)(x:V)(v:iB)(Q:VK),.D->.eY->r x H Q->.Q (f v) .dR .ao s
def sx(X:Cx)(f:iB)(r:.pi):.n:=∀(pins:.aL)(s:iV)(σ:St)(H:Hp)(xs:.L)(us:.Y)(Q:VK),.D->.eU->r xs H Q->.Q (call f us) .dR .ao s
def alT(X:Cx)(r:V->Hp->.j6->.n):.n:=∀(pins:.aL)(s:iV)(σ:St)(H:Hp)(x:V)(v:iB)(Q:.j6),.D->.eY->r x H Q->.Q (truthy v) .sU .ao s
def nj(r:R2)(t M:TE):TE:=λσ H Q=>.ab λx B=>M σ B λy I=>r x y I Q
def tUn(r:V->.ib)(t:TE):TE:=λσ H Q=>.ab λx B=>r x B Q
def qB(g:Int->Int->V):R2:=λx y H Q=>∃i j,x=.cm/\y=.h j/\Q .ke H
def rU(g:Int->V):V->.ib:=λx H Q=>∃i,x=.cm/\Q (g i) H
theorem Q1(p:.cW)(l:.ic){R:V->.gQ}(I:.D)(h:.Ch){Q:.cX}{f:iB->.l8}(w:.Ci):.Cj:=.Ck
theorem lu(k:mO X (binaryOp m) r)(p:.cW)(l:.ic):.H (.BinOp a m b T) .s9:=by ext q;exact wpAny_BinOp (Q1 p l I h λv u g x y w c f B q=>k @t g σ w x y v u Q c f B q)
theorem Z0(k:Rj X (unaryOp m) r)(p:.cW):.H (.UnaryOp m a T) (tUn r t):=by ext q;exact UnaryOp_ (.br λv c#[x,B,D,r1,L]=>k @t c σ B x v Q D r1 L)
theorem aag{f:iB->.l8}{g:Int->Int->Int}(rule:∀(i j:Int)(t u:Tok)(s:iV)(Q:.cX)(E:.cX),Q (.h .ke .dW) .l9->.CK):mO X f (qB λi j=>.h .ke):=by ext bU;ext H;exact rule i j t t' s _ _ (.pG .ke H q)
theorem QW{f:iB->.l8}{g:Int->Int->Bool}(rule:∀(i j:Int)(t u:Tok)(s:iV)(Q:.cX)(E:.cX),Q (.bool .ke) s->.CK):mO X f (qB λi j=>.bl .ke):=by ext bU;ext H;exact rule i j t t' s _ _ #[.bl .ke,H,I,y,q]
theorem rC:.fF (qB λi j=>.h (i+j)):=aag (by grind[add_int])
theorem Ef:mO X (binaryOp .Sub) (qB λi j=>.h (i-j)):=aag (by grind[sub_int])
theorem unI{f:.l8}{g:Int->Int}(rule:∀(i:Int)(t:Tok)(s:iV)(Q:.cX)(E:.cX),Q (.h (g i) .dW) .l9->.Q (f (.h i t)) Q E s):Rj X f (rU λi=>.h (g i)):=by intro pins s σ H x v Q I a h;obtain⟨i,rfl,q⟩:=h;obtain⟨t,rfl⟩:=a;exact rule i t s _ _ (.pG (g i) H q)
theorem Zh:Rj X (unaryOp .USub) (rU λi=>.h (-i)):=unI (by grind[neg_int])
def QT:V->.gW
 |.iM,.iM=>f'|.iM,.int _=>f'|.int _,.iM=>f'|.iM,.bl _=>f'|.bl _,.iM=>f'|.iM,.str _=>f'|.str _,.iM=>f'|.int _,.int _=>f'|.bl _,.bl _=>f'|.str _,.str _=>f'|.px _,.px _=>f'|.int _,.str _=>f'|.str _,.int _=>f'|.bl _,.str _=>f'|.str _,.bl _=>f'|_,_=>ij
def rEq:R2:=λx y H Q=>QT x y=f'/\Q (.j6 (x=y)) H
def Rg:R2:=λx y H Q=>QT x y=f'/\.pc Q (! .q (x=y)) H
theorem amt:.nk i j=(i==j):=.h
theorem amv:.q (V.bl i=V.bl j)=(i==j):=.h
theorem ams:.q (.aa i=.aa j)=(i==j):=.h
theorem Y9:.q (V.px i=V.px j)=(i.toList==j.toList):=by rw[yP];simp
theorem lA(I:.D)(q:.pc Q k H)(e:k=D):.fB (.bool D) s:=by subst e;exact#[.bl k,H,I,y,q]
theorem mH:mO X (.bn .Eq) rEq:=by
 ext ag;obtain⟨w,q⟩:=h;cases x with
 |iM=>
  cases f;cases C with
  |iM=>cases B;grind[PySem.EqNone.eq_none_none,lA]
  |bl j=>cases B;grind[PySem.EqNone.eq_none_bool,lA]
  |int j=>ext H;grind[PySem.EqNone.eq_none_int,lA]
  |str j=>ext H;grind[PySem.EqNone.eq_none_str,lA]
  |_=>exact .e1
 |bl i=>
  cases f;cases C with
  |iM=>cases B;grind[PySem.EqNone.eq_bool_none,lA]
  |bl j=>cases B;grind[eq_bool,lA]
  |str j=>ext H;grind[PySem.EqMixed.eq_bool_str,lA]
  |_=>exact .e1
 |int i=>
  ext I;cases C with
  |iM=>cases B;grind[PySem.EqNone.eq_int_none,lA]
  |int j=>ext H;grind[eq_int,lA]
  |str j=>ext H;grind[PySem.EqMixed.eq_int_str,lA]
  |_=>exact .e1
 |str i=>
  ext I;cases C with
  |iM=>cases B;grind[PySem.EqNone.eq_str_none,lA]
  |bl j=>cases B;grind[PySem.EqMixed.eq_str_bool,lA]
  |int j=>ext H;grind[PySem.EqMixed.eq_str_int,lA]
  |str j=>ext H;grind[eq_str,lA]
  |_=>exact .e1
 |px i=>
  ext I;cases C with
  |px j=>ext H;exact PySem.W.eq_bytes (lA I q Y9)
  |_=>exact .e1
 |_=>cases C<;>exact .e1
theorem mW:mO X (.bn .NotEq) Rg:=by
 ext ag;obtain⟨w,q⟩:=h;cases x with
 |iM=>
  cases f;cases C with
  |iM=>cases B;grind[PySem.EqNone.ne_none_none,lA]
  |bl j=>cases B;grind[PySem.EqNone.ne_none_bool,lA]
  |int j=>ext H;grind[PySem.EqNone.ne_none_int,lA]
  |str j=>ext H;grind[PySem.EqNone.ne_none_str,lA]
  |_=>exact .e1
 |bl i=>
  cases f;cases C with
  |iM=>cases B;grind[PySem.EqNone.ne_bool_none,lA]
  |bl j=>cases B;grind[ne_bool,lA]
  |str j=>ext H;grind[PySem.EqMixed.ne_bool_str,lA]
  |_=>exact .e1
 |int i=>
  ext I;cases C with
  |iM=>cases B;grind[PySem.EqNone.ne_int_none,lA]
  |int j=>ext H;grind[ne_int,lA]
  |str j=>ext H;grind[PySem.EqMixed.ne_int_str,lA]
  |_=>exact .e1
 |str i=>
  ext I;cases C with
  |iM=>cases B;grind[PySem.EqNone.ne_str_none,lA]
  |bl j=>cases B;grind[PySem.EqMixed.ne_str_bool,lA]
  |int j=>ext H;grind[PySem.EqMixed.ne_str_int,lA]
  |str j=>ext H;grind[ne_str,lA]
  |_=>exact .e1
 |px i=>
  ext I;cases C with
  |px j=>ext H;grind[PySem.W.ne_bytes,lA,Y9]
  |_=>exact .e1
 |_=>cases C<;>exact .e1
theorem Eu:mO X (.bn .Lt) (qB λi j=>.j6 (i<j)):=QW (by grind[lt_int])
theorem su:mO X (.bn .LtE) (qB λi j=>.j6 (i<=j)):=QW (by grind[le_int])
theorem tJ:mO X (.bn .Gt) (qB λi j=>.j6 (j<i)):=QW (by grind[gt_int])
theorem Bv:mO X (.bn .Is) (λx C H Q=>C=.iM/\.gk H):=by
 ext ag;obtain⟨rfl,q⟩:=h;cases B;refine is_none_gen (lA I q ?_);cases x<;>first
  |(cases f;rfl)|(ext I;rfl)
theorem YJ:mO X (.bn .IsNot) (λx C H Q=>C=.iM/\.pc Q (.kS x) H):=by
 ext ag;obtain⟨rfl,q⟩:=h;cases B;refine isnot_none_gen (lA I q ?_);cases x<;>first
  |(cases f;rfl)|(ext I;rfl)
theorem jD(b:.aB)(h:m≠.In:=by decide)(M:m≠.NotIn:=by decide):.lW:=by
 have C:(m==CmpOp.In)=ij:=.h
 have A:(m==ady)=ij:=.h
 cases b<;>simp[behindInMarks,C,A]
theorem pG(k:.xO)(p:.cW)(l:.ic)(w:.lW):.H (.fC T) .s9:=by ext q;exact wpAny_Compare1 (Q1 p l I h λv u g x y D c f B q=>k @t g σ D x y v u Q c f B q) w
def Eo(t:TE):TT:=λσ H Q=>.ab λx L=>∃k,x=.bl k/\Q k L
theorem ju(f:.xO)(p:.cW)(l:.ic)(g:.lW):PT X (.fC aa) (Eo .s9):=by
 ext q;refine abf (.br λv J#[x,B,D,r1,L]=>iW (l @t J σ B _ D L) λu U#[y,Y,q,r2,w]=>iW (f @t U σ Y x y v u _ q r1 r2 w) λc s3#[z,A,C,r3,k,e,T]=>?_) g;subst e;cases r3;exact xl #[A,C,T]
def Zp(r m:R2)(t M f:TE):TE:=λσ H Q=>.ab λx B=>M σ B λy I=>r x y I λz h=>∃k,z=.bl k/\(if k=f' then f σ h λD T=>m y D T Q else .eg h)
theorem HV(g:.xO)(l:mO X (.bn f) p)(q:.cW)(A:.ic)(B:.H c D)(L:lastMarks [m,f] [b,c]=ij:=by with_unfolding_all rfl):.H (.Compare a [m,f] [b,c] aa) (Zp r p t M D):=by
 ext q;refine Compare_chain (iW (q @t s σ H _ I h) λv Y#[x,T,I1,r1,q1]=>chain_link (iW (A @t Y σ T _ I1 q1) λu s2#[C,H2,I2,r2,q2]=>iW (g @t s2 σ H2 x C v u _ I2 r1 r2 q2) λd s3#[z,J,U,r3,k,e,w]=>?_)) L;subst e;cases r3;refine xl ?_;cases k with
 |false=>exact ite_ff #[.bl ij,J,U,y,w]|true=>exact ite_tt (chain_last (iW (B @t s3 σ J _ U w) λw' s4#[z',H4,I4,r4,q4]=>l @t s4 σ H4 C z' u w' Q I4 r2 r4 q4))
def Q4(K:jd)(x:V)(H:Hp)(k:.ab):.n:=match x with
 |.iM=>k=ij|.bl b=>k=b|.int i=>k=(i !=0)|.str y=>y.length<=@Q/\k=((y.length:Int)!=0)|.px y=>y.size<=@Q/\k=((y.size:Int)!=0)|.ref p=>(∃xs,.aB p xs/\k=.pj)\/(∃xs,.aJ p xs/\k=.pj)\/.CL|_=>False
theorem ae4(r:.dB):(!g.isEmpty)=!kvs.isEmpty:=by cases r<;>rfl
theorem UI(r:.b5 M):(!M.toArray.isEmpty)=.pj:=by cases r<;>simp
theorem zH:(sizeLine:Nat)<2^63:=by rw[FY];decide
theorem Zj:alT X (λx H Q=>∃k,Q4 X.K x H k/\Q k H):=by
 intro pins s σ H x v Q I f h;obtain⟨k,e,q⟩:=h;have L:=zH;have w:@Q=16777216:=FY;cases x with
 |iM=>cases f;have T:k=ij:=e;subst T;exact truthy_none #[H,I,q]|bl b=>cases f;have T:k=b:=e;subst T;exact xl #[H,I,q]|int i=>ext I;have T:k=(i !=0):=e;subst T;exact PySem.P.truthy_int #[H,I,q]|str C=>ext I;obtain⟨B,T⟩:.pm<=@Q/\k=((C.length:Int)!=0):=e;subst T;exact PySem.P.truthy_str @h #[H,.bH,q]|px C=>ext I;obtain⟨B,T⟩:C.size<=@Q/\k=((C.size:Int)!=0):=e;subst T;exact PySem.W.truthy_bytes @h #[H,.bH,q]|ref p=>
  cases f;have T:(∃xs,.dR p xs/\k=.pj)\/(∃xs,jz X.K H p xs/\k=.pj)\/.CL:=e;rcases T with⟨xs,a,T⟩|⟨xs,a,T⟩|⟨kvs,a,T⟩;.subst T;obtain⟨M,r,u,c⟩:=.aQ a;have l:=r.length;exact wpAny_truthy_list u.isList .q #[H,.bH,by grind[UI]]
  .subst T;obtain⟨M,r,u,c⟩:=.bS a;have l:=r.length;exact truthy_tuple u .q #[H,.bH,by grind[UI]]
  .subst T;obtain⟨c,D,g,r,m⟩:.aN<=@Q/\.jN p/\∃g,.dB/\s.heap.DictOf .et p g:=I.je p _ a;have l:.kf:=.cI r;exact wpAny_truthy_dict D m @h #[H,.bH,by grind[ae4]]|_=>exact .kh e
theorem xP(p:.cW)(c:∀w,isTrue a .M w=(do let v<-w;standAt a.pos;holding [v] (truthy v))):PT X a (λσ H Q=>.ab λx L=>∃k,Q4 X.K x L k/\Q k L):=by ext q;exact isTrue_plain (.br λv m#[x,B,D,r1,f]=>Zj @t m σ B x v Q D r1 f) (c _)
theorem L8:.fF .CM:=by ext bV;exact add_str .CN c
theorem Tv:mO X (inplaceOp .Add) .CM:=by ext bV;exact iadd_str .CN c
theorem vals1(r:.ac [x] us):∃u,us=[u]/\.h5:=by
 cases r with
 |cons r1 r2=>cases r2;grind
theorem vals2(r:.ac [x,C] us):∃u D,us=[u,D]/\.h5/\.am C D:=by
 cases r with
 |cons r1 r2=>
  cases r2 with
  |cons r3 r4=>cases r4;grind
theorem aiv:sx X (.aj "abs") (λxs H Q=>∃i,xs=[.cm]/\Q (.h (.nW i 0)) H):=by ext ap;obtain⟨i,rfl,q⟩:=h;ext bj;exact call_abs_int λu x=>.pG (.nW i 0) H q
theorem adk:sx X (.af "str") (λxs H Q=>∃i,xs=[.cm]/\i.natAbs.log2<1920/\Q (@I (toString i)) H):=by ext ap;obtain⟨i,rfl,c,q⟩:=h;ext bj;exact PySem.P.str_of_int c #[@I _,H,.bH,.br,q]
theorem aiu:sx X (.aj "ord") (λxs H Q=>∃x,xs=[@I x]/\x.length=1/\Q (.h (x.cps.getD 0 0:Nat)) H):=by ext ap;obtain⟨x,rfl,c,q⟩:=h;ext bj;exact ord_of_one c #[.h _,H,.bH,.br,q]
structure z7(h:jo)(x dx C:U)(mA:iA->Option iB):Prop where
 obj:h.get? x=O (yL C dx)
 ns:h.Ns1 dx mA
 ne:dx≠x
theorem agt{h:jo}{l:U}{m:.cV}(n:h.Ns1 l m):∃g,.aP l=O g/\∀c,KP c g=O (m c):=by
 obtain⟨o,f,ep,k,T,hk,_,M⟩:=n;refine#[o,k,λc=>?_];have e:=M c;unfold nsFind findBy at e;rw[<-Array.find?_toList]at e;unfold KP;rw[T];ext h;split;.grind
 .rename_i q;rw[q]at e;have a:f.toList.any (·.refKey)=ij:=by rw[CC];intro y p;obtain⟨z,t,s⟩:=hk y .q;simp[DictEntry.refKey,s]
  grind
theorem z7.look(I:z7 h x a C m):∃l,PySem.W.InstAt h x (yL C a) C (O l)/\∀c,KP c l=O (m c):=
 let#[l,k,L]:=agt I.ns
 #[l,#[I.obj,y,y,k],L]
theorem get_map(X:.ma)(I:z7 .O x l C m)(q:Kw K C c=f')(p:RR K C=f')(f:.ei c=O e')(L:m c=O v)(a:ab3 v=f')(h:Q v .l9):.ai (getAttr .dP c expr) Q E s:=by obtain⟨r,J,g⟩:=I.look;exact PySem.W.get_value X J (RF q).1 (PySem.W.findObj_own p f y (by rw[g,L])) a h
theorem aid(X:.ma)(I:z7 .O x g C m)(q:Kw K C c=f')(a:.ei c=O (.ja f))(v:SD K .f6=f')(L:m c=e')(h:Q (@h f,[.a2]) s):.ai (getMethod .dP c u) Q E s:=by obtain⟨l,J,p⟩:=I.look;exact PySem.W.method_fn X J (RF q).1 (RF q).2 a (.ej v) (by show(KP c l).map (·.isSome)=O ij;grind) h
theorem aiP(X:.ma)(I:z7 .O x l C m)(a:.ei "__setattr__"=.jI (.aj "object.__setattr__"))(f:abU K C=f')(g:Sb K C c=O e')(p:RR K C=f')(k:Sz m t)(H:.aS<=@Q)(h:∀D,z7 D x l C (λT=>if T=c then O v else m T)->vT l .O D->Q () {s with heap:=D,toks:=.dW+2}):wpAny (model L w) A (setAttr .dP c v) Q E s:=by obtain⟨M,J,hl⟩:=I.look;refine PySem.W.set_plain X J a (PySem.W.osa_open (s:=.l9) (r:=e') X J f g λb=>?_);obtain⟨cd,B,U⟩:=PySem.W.any_some p;have Y:.ah x=O #[@h C,O l,.plain,.cU]:=I.obj;refine iH (i6 (iH (iH (wpAny_loadPart Y (iH (PySem.W.Looks.here (s:=.l9) (PySem.W.looks_clsIn X B) ?_))))));rw[U];refine i6 (a:=O l) (iH (i6 (iH ?_)));refine wpAny_nsSet1 (s:=.l9) I.ns λD q y=>?_;obtain⟨oD,aa,ab,u,ac,ae⟩:=q.count (PySem.Within.cons c v k);refine iH (wpAny_lookBehind u (by grind[pastItsLine_dict]) ?_);exact i6 (h _ #[(y.2 _ (my I.ne)).trans I.obj,q,I.ne] y)
theorem ah0(X:.ma)(M:acb K C=f')(k:.ei "__init__"=O (.ja f))(Q:PySem.W.typeIn K .f6=O (.af "function"))(h:.eS (A.under (.aj "type.__call__" #[@h C::c,a])) (.call .f6 #[@h .bW::c,a]) (PySem.W.InitBack .bW R)
   {s with heap:=.xP}):.eS A (.call .gV #[c,a]) R s:=by obtain⟨p,g,d,t,os⟩:=s;exact PySem.W.make_core (PySem.W.makes_of X M) (PySem.W.looks_findIn X k) (by grind[PySem.W.bind_fn]) .cS h
def jx(f:iA)(v:V):.bg->.bg
 |[]=>[(f,v)]|(g,x)::r=>if g=f then(g,v)::r else(g,x)::jx f v r
theorem Gg(f g:iA)(v:V):∀w:.bg,(.pp).lookup g=if g=f then O v else .cs g
 |[]=>by show List.lookup g [(f,v)]=_;grind|(k,x)::r=>by have I:=Gg f g v r;grind[jx]
theorem MV(f:iA)(v:V):∀w:.bg,f∈(.pp).map .bS/\∀g,g∈.aE .bS->g∈(.pp).map .bS
 |[]=>by grind[jx]|(k,x)::r=>by obtain⟨t,Q⟩:=MV f v r;grind[jx]
theorem Ts(f:iA)(v:V):∀w:.bg,(.pp).length<=.bJ+1
 |[]=>by simp[jx]|(k,x)::r=>by have I:=Ts f v r;grind[jx]
theorem pj.some_of(r:pj (O v) o):∃u,o=O u/\.cR:=by
 cases o with
 |none=>exact .kh r|some u=>exact#[u,y,r]
theorem pj.none_of(r:pj e' o):o=e':=by
 cases o with
 |none=>rfl|some u=>exact .kh r
theorem agE(r:.cR):ab3 u=f':=by
 cases v with
 |iM=>cases(show u=pX from r);rfl|bl b=>cases(show u=C7 b from r);rfl|int i=>obtain⟨t,e⟩:=.CO;cases e;rfl|str x=>obtain⟨t,e⟩:=.CP;cases e;rfl|px b=>obtain⟨t,e⟩:=(show∃t,u=ado b t from r);cases e;rfl|E5 b=>obtain⟨t,e⟩:=(show∃t,u=adn b t from r);cases e;rfl|ref a=>cases(show .h4 from r);rfl|ty n=>cases(show u=vV n from r);rfl
theorem O2(g:.cD)(e:.sb H a C l c):∃m,z7 h a l C m/\.xv/\Sz m (c.map .bS)/\.gJ<=1000/\H l=.ka a:=by obtain⟨d,z,T,t,m,n,r,q⟩:=(show .b7 (.aF l c)from g a _ e);exact#[m,#[t,n,T],r,q,z,d]
structure lS(K:jd)(C:U):Prop where
 pg:Kw K C Str.empty=f'
 hd:RR K C=f'
 po:abU K C=f'
 sa:xu K (.ref C) "__setattr__"=O (O (.builtin "object.__setattr__"))
theorem lS.get(c:lS K C)(f:iA):Kw K C f=f':=c.pg
def jV(K:jd)(C:U)(f:iA):.n:=.ei f=O e'
theorem jV.akP(n:jV K C f):Sb K C f=O e':=by unfold Sb;rw[show .ei f=O e' from n];rfl
structure Meth(K:jd)(C:U)(m:iA)(f:U):Prop where
 at_:xu K (.ref C) m=O (O (.ref f))
 fn:SD K (.ref f)=f'
 kp:Aw K (.ref f)=f'
theorem UK(I:.D)(e:.sb H a C q w)(c:.mb)(n:jV X.K C f)(l:.cs f=O v)(h:∀u p,.mc->.cR->Q u p):.bT A (getAttr .dC f b) Q E s:=by obtain⟨m,g,r,_,_,_⟩:=O2 .bB e;obtain⟨u,M,k⟩:=.fG (o:=m f) (by rw[<-l];exact r f);exact get_map I.qj g (c.get f) c.hd n M (agE k) (h u _ .bH k)
theorem Mg(I:.D)(e:.sb H a C t w)(c:.mb)(k:.fH g)(l:.cs m=e')(h:Q (@h g,.dX) s):.bT A (getMethod .dC m u) Q E s:=by
 obtain⟨p,q,r,_,_,_⟩:=O2 .bB e;have f:p m=e':=by grind[pj.none_of]
 exact aid I.qj q (c.get m) k.at_ k.fn f h
theorem Uk(I:.D)(e:.sb H a C l w)(c:.mb)(n:jV X.K C f)(L:.bJ<1000)(B:.cR)(h:∀p,.Y (@z a (.aF l .pp)) p->Q () p):.bT A (setAttr .dC f u) Q E s:=by
 obtain⟨m,x,r,y,_,k⟩:=O2 .bB e;have J:.mf w.map (·.1)<=@Q:=by grind[FY]
 refine aiP I.qj x c.sa c.po n.akP c.hd y J λD t sb=>h _ ?_;have T:∃o,.b6 l=O o:=let#[o,_,_,M,_]:=t.ns;#[o,M];refine I.write (x:=a) (e:=l) .pu (@n k) (λb q U z=>(sb.2 b U).trans z) T ?_;refine#[.Z,?_,x.ne,t.obj,_,t.ns,λg=>?_,λg Y=>?_];.grind[Ts]
 .grind[pj,Gg]
 .by_cases q:g=f;.grind[MV]
  .refine(MV f v w).2 g (y g λz=>Y ?_);grind
theorem Inv.made(I:.D):.Y (upd (.dU (.own .bW)) .bW (.aF @L []))
  {s with heap:=.xP}:=by
 have c:(.a8 xo).get? @L=O xo:=kP .O y;have A:(.xP).get? .bW=O (yL C @L):=by have:=kP (.a8 xo) (o:=yL C @L) y;ext t
 have g:(.a8 xo).Ns @L (λ_=>e'):=#[xo,.cU,_,c,y,(λe a=>.Z a @I),.cY];have D:=.fI (o:=.own .bW) (h':=.a8 xo) (t':=s.toks) .bU .ba #[_,c];refine D.laid (a:=@L+1) (o:=.aF @L []) (t':=s.toks) .bU @I ?_;have T:@L≠@L+1:=.t
 refine#[by rw[iC T,iG],.au,T,A,λ_=>e',(Heap.Ns1.of_empty g).at .bU,λ_=>xG,λf m=>.Z y m]
theorem ajJ(l:.ek e f env (.eT env)=.eT env)(h:.ai (.eT env) (λo c=>.ai (getAttr o f f') Q E c) E s):.ai (.av (.dw e f T) env) Q E s:=by grind[Attribute_any_,arm_eval_Attribute]
def nh(K:jd)(t:TE)(f:iA):TE:=λσ H Q=>.ab λx B=>∃a C l w v,.cv/\.xQ/\lS K C/\jV K C f/\.cs f=O v/\Q v B
def alv(K:jd)(t M:TE)(f:iA):TS:=λD σ H=>M σ H λy B=>t σ B λx I=>∃a C l w,.cv/\.sb I a C l w/\lS K C/\jV K C f/\.bJ<1000/\D.nx σ (.az a (.aF l (jx f y w)))
def Ra(X:Cx)(m:Operator)(c:.ig):.n:=∀(pins:.aL)(s:iV)(σ:St)(H:Hp)(x y:V)(u v:iB)(Q:VK),.D->.h5->.am y v->c x y H Q->.Q (inplaceOp m u v) .dR .ao s
def aiW(K:jd)(t M:TE)(c:.ig)(f:iA):TS:=λD σ H=>.ab λx B=>∃a C l w v,.cv/\.xQ/\lS K C/\jV K C f/\.cs f=O v/\M σ B λy I=>c v y I λz h=>∃q r,.sb h a C q r/\.ek<1000/\D.nx σ (upd h a (.aF q (jx f z r)))
theorem iL(p:.ao t)(L:.ek e f .M .gR=.gR):.H (.dw e f T) (nh X.K t f):=by ext q;refine ajJ L (.br λu m#[x,B,D,J,a,C,U,w,v,r,g,c,n,l,q]=>?_);subst r;obtain rfl:.h4:=J;exact UK D g c n l λY A M k=>#[v,B,M,k,q]
theorem ll(p:.aR t)(L:.H v M)(w:.p5 v (.aS f Q) T.line):PS X (.Assign [.aS f Q] v T) (alv X.K t M f):=by ext Z;refine plainObj_wpAny_Assign_Attribute (.fD λu m#[aa,B,J,U,q]=>iW (p @t m σ B _ J q) λY s2#[x,H2,g,k,a,C,dx,fs,r,A,c,n,l,q2]=>?_) w;subst r;obtain rfl:Y=jj a:=k;exact Uk g A c n l U λs3 I3=>#[σ,_,I3,q2]
theorem Hd(p:.aR t)(L:.H g M)(k:Ra X m r):PS X (.AugAssign (.aS f ac) m g ae) (aiW X.K t M r f):=by ext Z;refine wpAny_AugAssign_AttributeAny (.br λJ s1#[x,B,U,Y,a,C,dx,fs,v,w,A,c,n,l,q]=>?_);subst w;obtain rfl:J=jj a:=Y;refine UK U A c n l λu Q T ru=>iW (L @t Q σ B _ T q) λw3 s3#[aa,H2,I3,ry,q3]=>iW (k @t s3 σ H2 v aa u w3 _ I3 ru ry q3) λw4 s4#[z,H3,I4,rz,af,ag,ab,l',q4]=>?_;exact Uk I4 ab c n l' rz λs5 I5=>#[σ,_,I5,q4]
def alG:.ig:=.so x j Q (i+j) H
def aly:.ig:=.so x j Q (i-j) H
theorem P8:Ra X .Add alG:=by ext bW;exact PyProof.Rows.iadd_int (.pG (i+j) H q)
theorem akw:Ra X .Sub aly:=by ext bW;exact PyProof.Rows.isub_int (.pG (i-j) H q)
theorem amm(v:.ao A)(I:.D)
  (h:A σ H λx B=>∃a C r w g,.cv/\.sb B a C r w/\.mb/\.fH g/\.cs m=e'/\
   ∀p,.Y B p->.Q (callWith T (@h g) .dX (.c2 T (.bH M .M)) (.lq T)) Q .ao p)
  (D:.CQ=(do
   let L<-eval e X.env
   standAt t.atName
   let(f,first)<-holding [L] (getMethod L m pl)
   callWith T f first (backTo T (starEach M X.env)) (backToKw T (keywordEach [] X.env)))):
  .Q .CQ Q .ao s:=by refine Rv (pl:=pl) (iW (v @t s σ H _ I h) λu p#[x,B,Y,J,a,C,r,w,g,U,ea,c,k,l,q]=>?_) D;subst U;obtain rfl:.h4:=J;grind[Mg]
structure jy(k:Nat)(A:oR):Prop where
 hd:A.handled=e'
 dp:A.depth+3*k+5<recursionLimit
 un:A.units+16*k+200<cLine
theorem jy.mono(r:jy k A)(h:j<=k):jy j A:=#[r.hd,.j7 r.dp,.j7 r.un]
theorem jy.deeper(r:jy .a4 A)(env:oq):jy k (A.deeper env):=#[r.hd,by have:=r.dp;show A.depth+1+3*k+5<_;omega,by have:=r.un;show A.units+3+16*k+200<_;omega]
theorem ae1{A:oR}{C:U}{a:.md}:(.ta).depth=A.depth+1:=.Q
theorem ae0{A:oR}{C:U}{a:.md}:(.ta).units=A.units+1:=.Q
theorem jy.make(r:jy .a4 A)(C:U)(us:.Y)(a:.md):jy k .ta:=#[r.hd,by have:=r.dp;rw[ae1];omega,by have:=r.un;rw[ae0];omega]
theorem jy.depth(r:jy k A):A.depth<recursionLimit:=.j7 r.dp
theorem jy.units(r:jy k A):A.units+64<cLine:=.j7 r.un
def ma:TA:=λ_ H Q=>Q [] H
def jW(t:TE)(q:TA):TA:=λσ H Q=>.ab λx B=>q σ B λxs I=>Q (x::xs) I
theorem iw:PA X [] ma:=λ_ _ _ _ H Q I h=>vM #[[],H,I,.nil,h]
theorem Y(p:.ao a)(c:PA X f t)(w:.mw e f:=by rfl):PA X .fC (jW a t):=by intro T pins s σ H Q I h;rw[w];show .mR (.fE::.c2 T (.bH f .M)) s;refine uL (.br .CR);exact iW (c T @t m σ B _ D L) λus g#[xs,k,l,r2,q]=>#[x::xs,k,l,.J r1 r2,q]
def sD(t:TA):TE:=λσ H Q=>.ab λxs B=>.fw/\∀p,B p=e'->.bU (.bI p (@L xs))
def alm(t:TA):TE:=λσ H Q=>.ab λxs B=>.fw/\∀p,B p=e'->.bU (.pa B p xs)
theorem l7{L}(h:PA X f t):.H (.Tuple f L T) (sD t):=by intro pins s σ H Q I g;refine wpAny_Tuple_spliced .CS;have a:B .bT=e':=.s3;refine#[@h .bT,.bI .bT (@L xs),.CT,y,q _ a];exact#[z,us,r,#[_,.cG,y,_,y]]
theorem jF(h:PA X f t):.H (.List f T) (alm t):=by intro pins s σ H Q I g;refine wpAny_List_spliced .CS;have a:B .bT=e':=.s3;refine#[@h .bT,.pa B m.heap.objs.size xs,.CT,y,q _ a];exact#[z,us,0,r,.cG]
abbrev Sp:=.L->Hp->VK->XK->.n
abbrev xg:=.gK->Hp->iV->XK->.cX
structure z8(P:kS)(w:jR)(K:jd)(mg:iA->Option iB)(base:jo)(A:oR)(outer:List oq)(s:iV)(H:Hp):Prop where
 frames:A.frames=O outer
 mod:Mod K mg base
 bs:∀b o,base.get? b=O o->s.heap.get? b=O o/\H b=e'
 vF:base.objs.size<=s.heap.objs.size
 tV:s.heap.FunFrames base outer
 Ad:∀b∈kF outer,H b=e'
 je:kq P w H s.heap
 bare:zp s.gens
def CE(I:.gK)(P:kS)(w:jR)(H:Hp)(s:iV)(Q:VK)(u:iB)(p:iV):.n:=∃v L,p.os=s.os/\zp p.gens/\.CU/\kq P w L .f8/\.cR/\Q v L
def CR(B:xg)(I:.gK)(P:kS)(w:jR)(H:Hp)(s:iV)(Q:VK)(E:XK)(r:Result)(p:iV):.n:=match r with
 |.ok (.ret u)=>CE I P w H s Q u p|.ok _=>False|.error e=>B I H s E e p
structure iN(P:kS)(w:jR)(K:jd)(mg:iA->Option iB)(base:jo)(CX:xg)(k:Nat)(f:U)(fd:iZ)(ps:List iA)(sp:Sp):Prop where
 len:∀vs H Q E,sp vs H Q E->vs.length=ps.length
 run:∀(A:oR)(outer:List oq)(s:iV)(H:Hp)(args:Args)(us:List iB)(vs:List V)(Q:VK)(E:XK),jy k A->z8 P w K mg base A outer s H->A9 s fd args (ps.zip us)->Vals vs us->sp vs H Q E->codeAny (model P w) A (.call (.ref f) args) (CR CX outer P w H s Q E) s
theorem iN.imp(F:@H u B k f a ps r)(h:∀g H Q E,m g H Q E->r g H Q E):@H u B k f a ps m:=#[λg H Q E q=>F.len g H Q E (.ms h q),λA I s H M us g Q E c p l L t=>F.run A I s H M us g Q E c p l L (.ms h t)]
theorem z8.make(e:.fJ u A I s H)(C:U)(us:.Y)(a:.md):.fJ u .ta I s H:=#[by first|exact e.frames|(simpa[Around.under,Code.envs,Code.isFrame,pushEnvs]using e.frames),e.mod,e.bs,e.vF,e.tV,e.Ad,e.je,e.bare]
theorem Inv.aam(I:.D):z8 .bI X.w X.K X.mg .dQ X.A .gN s H:=#[I.ok.frames,I.ok.mod,I.bs,.eK I.sz,I.stack,I.Oy,.bB,.c9]
theorem Inv.after(I:.D)(h:CE .gN .bI X.w H s Q u p):.fB u p:=by obtain⟨v,L,os,l,un,c,r,q⟩:=h;obtain⟨f,g,d,t,a⟩:=p;obtain rfl:a=s.os:=os;exact#[v,L,I.call (h':=f) (g':=g) (d':=d) (t':=t) (ch:=[]) un c l @I,r,q]
def rE(r:Sp)(nX:.L)(E:XK)(t:TA):TE:=λσ H Q=>.ab λg B=>r (g++nX) B Q E
def ZV(C:U)(m:iA)(r:Sp)(nX:.L)(E:XK)(c:TE)(t:TA):TE:=λσ H Q=>c σ H λx B=>∃a l w,.cv/\.xQ/\.cs m=e'/\t σ B λg I=>r (x::(g++nX)) I Q E
def ZW(C:U)(r:Sp)(nX:.L)(E:XK)(t:TA):TE:=λσ H Q=>.ab λg B=>∀x l,B x=e'->B l=e'->l≠x->r (.a2::(g++nX)) (upd (.bI l (.own x)) x (.aF l [])) (λv I=>v=.iM/\Q .dP I) E
def Binds(K:jd)(a:iZ)(ps:.bX)(Q:.Y):.n:=∀(s:iV)(us:.Y),.ma->(us++Q).length=.bh->A9 s a .kg (ps.zip (us++Q))
theorem Binds.all(h:∀us:.Y,.cQ=.bh->bindArgs a .kg=pure .mf):.aT a ps []:=λs us _ L=>by rw[t8]at L⊢;exact .of_eq (h us L)
def Passes(B:xg)(X:Cx)(E:XK):.n:=∀(pins:.aL)(σ:St)(H:Hp)(s:iV)(e:iB)(p:iV),.D->B .gN H s E e p->X.xe e p
theorem PU{E:XK}(F:.em a ps q)(c:.jJ k)(l:.eU m)(T:.ac nX m)(v:.mh)(I:.D)(r:.ac vs us)(h:q (vs++nX) H Q E):.Q (call .f6 us) .dR .ao s:=by
 have r2:.ac (vs++nX) (us++m):=r.append T;have L:(us++m).length=.bh:=by rw[<-r2.length];exact F.len _ _ _ _ h
 refine TV (CP (F.run X.A .gN s H .kg (us++m) (vs++nX) Q E c I.aam (l s us I.qj L) r2 h) λr p g=>?_);cases r with
 |error e=>exact v @t σ H s e p I g|ok t=>
  cases t with
  |ret u=>exact I.after g|next=>exact sU g|brk=>exact sU g|cont=>exact sU g
theorem YI{E:XK}(F:.em a ps C)(v:.jJ k)(L:.dS)(M:.ie=.ja f)(hk:Aw X.K .f6=f')(A:.eU c)(hd:.ac nX c)(hx:.mh)(g:PA X (e::w) t)(u:.da:=by decide)(l:.mw e w:=by rfl)(m:.mz T w:=by rfl):.H (.dy (e::w) [] T) (rE C nX E t):=by ext q;refine uJ (zB I L M ?_ u);refine .gn hk (iW (g T @t s σ H _ I h) .CV) l m;grind[PU]
theorem zA{E:XK}(v:.aR w)(c:.mb)(M:.fH f)(F:.em A ps sp)(hr:.jJ k)(hb:Binds X.K A ps ds)(hd:.ac nX ds)(hx:.mh)(ha:PA X (e::g) t)
  (aa:.mw e g:=by rfl)(ab:.mz T g:=by rfl)
  (ht:.av .CW .M=(do
   let L<-eval o X.env
   standAt p.atName
   let(f,first)<-holding [L] (getMethod L m pl)
   callWith T f first (backTo T (starEach (e::g) X.env)) (backToKw T (keywordEach [] X.env))):=by rfl):
  .H .CW (ZV C m sp nX E w t):=by ext q;refine Rv (pl:=pl) (iW (v @t s σ H _ I h) λu U#[x,Y,D,rx,a,dx,fs,ex,ea,l,q]=>?_) ht;subst ex;obtain rfl:.h4:=rx;refine Mg D ea c M l ?_;refine Kl (first:=.dX) (h₀:=X.base) I.ok.mod.BS M.kp (iW (ha T @t U σ Y _ D q) λus s2#[vs,H2,J,r,q2]=>#[J.qj,?_]) aa ab;exact PU (us:=.aX::us) (vs:=.aX::vs) F hr hb hd hx J (.J y r) q2
theorem HU{E:XK}(p:.aR g)(c:.mb)(M:.fH f)(F:.em r ps v)(w:.jJ k)(A:Binds X.K r ps ds)(hd:.ac nX ds)(hx:.mh)
  (ht:.nn (.aS m t) T=(do
   let L<-eval o X.env
   standAt t.atName
   let(f,first)<-holding [L] (getMethod L m pl)
   callWith T f first (backTo T (starEach [] X.env)) (backToKw T (keywordEach [] X.env))):=by rfl):
  .H (.an (.aS m t) [] [] T) (ZV C m v nX E g ma):=by ext q;refine Rv (pl:=pl) (.br λu s1#[x,H1,D,J,a,dx,fs,U,Y,l,q]=>?_) ht;subst U;obtain rfl:.h4:=J;refine Mg D Y c M l ?_;exact abv (first:=.dX) D.qj M.kp (PU (us:=.dX) (vs:=.dX) F w A hd hx D (.J y .nil) q)
structure Mk(K:jd)(C f:U):Prop where
 makes:acb K C=f'
 init:xu K (.ref C) "__init__"=O (O (.ref f))
 fn:SD K (.ref f)=f'
 kp:Aw K (.ref C)=f'
theorem NI{E:XK}(M:Mk X.K C f)(F:iN .bI X.w X.K X.mg .dQ D k f a ps p)(t:jy .a4 X.A)(w:.eU m)(T:.ac nX m)(A:Passes D X E)(I:.D)(r:.lT)(h:∀x l,H x=e'->.dc->l≠x->p (.a2::(g++nX)) (upd (@z l (.own x)) x (.aF l [])) (λv L=>v=.iM/\.kh) E):.Q (call .gV us) .dR .ao s:=by
 have q:=h .bW @L (.ef (Lx _)) .e2 (mT (Aq _));have c:=Inv.made (C:=C) I;have r2:.ac (.ap .bW::(g++nX)) (jj .bW::(us++m)):=.J y (r.append T);have J:(jj .bW::us++m).length=.bh:=by have e:=r2.length;rw[F.len _ _ _ _ q]at e;grind
 refine TV (ah0 (f:=f) I.qj M.makes M.init (.ej M.fn) (CP (F.run _ .gN _ _ #[jj .bW::us,[]] (jj .bW::(us++m)) _ _ E (t.make C us []) (c.aam.make C us []) (w _ (jj .bW::us) c.qj J) r2 q) λr U B=>?_));cases r with
 |error e=>exact A @t σ _ _ e U c B|ok Y=>
  cases Y with
  |ret u=>obtain⟨v,H',I3,rv,ev,q3⟩:=c.after B;subst ev;exact#[rv,#[.ap .bW,H',I3,y,q3]]|next=>exact sU B|brk=>exact sU B|cont=>exact sU B
theorem OL{E:XK}(M:Mk X.K C f)(F:.em a ps L)(hr:jy .a4 X.A)(c:.dS)(g:.ie=.ja C)(hb:.eU l)(hd:.ac nX l)(hx:.mh)(m:PA X (e::w) t)(u:.da:=by decide)(v:.mw e w:=by rfl)(A:.mz T w:=by rfl):.H (.dy (e::w) [] T) (ZW C L nX E t):=by ext q;refine uJ (zB I c g ?_ u);refine .gn M.kp (iW (m T @t s σ H _ I h) .CV) v A;grind[NI]
theorem Xd{E:XK}(M:Mk X.K C f)(F:.em a ps r)(c:jy .a4 X.A)(q:.dS)(g:.ie=.ja C)(l:.eU m)(T:.ac nX m)(v:.mh)(u:.da:=by decide):.H (.dy [] [] t) (ZW C r nX E ma):=by ext q;refine uJ (zB I q g ?_ u);exact abv I.qj M.kp (NI (us:=[]) M F c l T v I .nil h)
structure jb(N P:List iA)(sc:qM):Prop where
 kind:sc.kind=.function
 co:sc.isCoroutine=ij
 gen:sc.isGenerator=ij
 nd:N.Nodup
 pre:N.take P.length=P
 par:∀x∈P,sc.names.lookup x=O .local\/sc.names.lookup x=O .cell
 akj:∀y∈sc.names,y.2≠.free
theorem V9:∀{s:.md}{m:.cV},(∀v,(x,v)∉s)->.fK s m x=m x
 |[],_,_=>y|(n,v)::r,m,h=>by
  unfold bindL;rw[V9 .q];split;.grind
  .rfl
theorem Wa:∀{s:.md}{m:.cV},(∀v,(x,v)∉s)->.fL s m x=m x
 |[],_,_=>y|(n,v)::r,m,h=>by
  unfold bindC;rw[Wa .q];split;.rfl
  grind
theorem V':∀{P:.bX}{g:.Y}{i:Nat}{m:.cV},P.Nodup->P[i]? =O x->g[i]? =O v->kindOf x=.gL->.fK (P.zip g) m x=O v
 |[],_,_,_,_,h,_,_=>.mi|_::_,[],_,_,_,_,h,_=>.mi|p::P,w::g,0,m,k,D,M,hk=>by simp at D M;subst D;subst M;show .fK .td m p=_;unfold bindL;rw[V9 .CX,ip hk];simp|p::P,w::g,i+1,m,k,D,M,hk=>by show .fK .td m x=_;unfold bindL;exact V' (i:=i) (rg.mp k).2 .q .q hk
theorem Wb:∀{P:.bX}{g:.Y}{i:Nat}{m:.cV},P.Nodup->P[i]? =O x->g[i]? =O v->kindOf x≠.gL->.fL (P.zip g) m x=O v
 |[],_,_,_,_,h,_,_=>.mi|_::_,[],_,_,_,_,h,_=>.mi|p::P,w::g,0,m,k,D,M,hk=>by simp at D M;subst D;subst M;show .fL .td m p=_;unfold bindC;rw[Wa .CX,il hk];simp|p::P,w::g,i+1,m,k,D,M,hk=>by show .fL .td m x=_;unfold bindC;exact Wb (i:=i) (rg.mp k).2 .q .q hk
def start(N:.bX)(g:.L):St:=g.map O++List.replicate (.mj-.cZ) e'
def wQ(B:xg)(P:kS)(w:jR)(K:jd)(mg:.cV)(base:jo)(N:.bX)(qual:iA)(a:qM)(f:U)(l:iB)(A:oR)(outer:.gK)(s:iV)(H:Hp)(E:XK):Cx where
 prog:=P
 w:=w
 K:=K
 mg:=mg
 base:=base
 A:=A.deeper .ki
 N:=N
 mM:=s
 vG:=H
 env:=.ki
 outer:=outer
 stack:=.ki::outer
 ex:=[]
 calm:=f'
 fn:=λ_=>f'
 pn:=[]
 xe:=λe p=>wpAny (model P w) (A.deeper .ki) (leaving .ki e) (λ_ c=>B outer H s E e c) (λT c=>B outer H s E T c) p
theorem XW{f:qM}{x:iA}(h:.bR x=.gM):∃c,(.c6 n .ij []).lookup x=O c:=by have q:=aa9 .ij n [] (.n h);exact .bV q
theorem agA{B:xg}{w:jR}{t:jo}{a:qM}{f:U}{l:iB}{A:oR}{I:.gK}{s L:iV}{H:Hp}{E:XK}{g:.L}(S:jb N ps a)(hd:.dY)(M:.fJ t A I s H)(hl:.cZ=.bh)(r:.lT)(x:InCallC s @L (bindL (.ki).kindOf .mf λ_=>e') (.c6 .bW .kj []) (bindC (.ki).kindOf .mf λ_=>e') L):Inv .CY [] .pv H L:=by
 have ab:.bh<=.mj:=by have:=.aA yY S.pre;grind
 obtain⟨D,tk,rfl,hk⟩:=x.done;have aa:∀b:U,b∉(.CY).ex:=λb z=>.nX b z;refine#[#[M.mod,S.kind,y,y,.bV,λC z c D J=>?_,λC m=>?_,λC c _ h=>?_,λ_=>hd,Around.frames_deeper M.frames,@n #[y,y],.h,M.bs,M.vF,λb _ _=>aa b,.h,M.tV,M.Ad],y,M.bare,Un.kept hk,#[_,x.toInCall.ns,λi C v D J h3=>?_],λC c h=>#[_,x.cell C c h],M.je.fresh .ba,λC c h=>?_,λp Q=>.Z (show p∈([]:.aL)from Q) @I,M.je.kept hk,?_];.exact name_of_addr x.apart (qZ D) (qZ J)
 .have m:.on a.names.lookup C:=m;rcases m with m|m;.exact XW m
  .exact .Z y (S.akj _ (qZ m))
 .exact .CZ
 .have hi:i<.cZ:=by grind[start]
  have ha:g[i]? =O v:=by grind[start]
  obtain⟨u,Y,rv⟩:=r.get ha;have Q:.mF i C:=by rw[<-S.pre,Rq @h];exact D
  have T:ps.Nodup:=by rw[<-S.pre];exact S.nd.sublist (abY _ _)
  refine#[u,rv,?_];rcases S.par C (kO Q)with k|k;.exact .n #[k,V' T Q Y k]
  .obtain⟨c,e⟩:=XW (n:=@L+1) k;refine @n #[.n k,c,e,?_];have q:=x.cell C c e;rw[Wb T Q Y (by show .eV C≠_;grind)]at q;exact q
 .exact M.je.fresh .CZ
 .unfold start;show _=.mj;grind
theorem ald{B:xg}{w:jR}{h:jo}{k:Nat}{f:U}{aa:iA}{ab:Arguments}{m:@q i5}{a:qM}{dV kV ac pm D ct oc:iB}{an od:.E U}{ag:.py}{p:Sp}(lk:.jz f=O #[oc,od,.func .C0,ag])(ah:KQ K D qual=f')(S:jb N ps a)(ae:∀g H Q E,p g H Q E->.cZ=.bh)(ai:∀(A:oR)(c:.gK)(s:iV)(H:Hp)(g:.L)(Q:VK)(E:XK),jy k (A.deeper (.gp a @L f D))->p g H Q E->∃t,qW .xR m t/\t .xS .pv H):@H h B .a4 f .C0 ps p:=by
 refine#[ae,λA c s H al us g Q E C M hb r af=>?_];have hl:=.ms ae af;have KX:.ma:=M.mod.BS.keeps .C1;have aj:s.heap.NoLimit:=M.mod.nolimit.keeps .C1;have ak:∀T∈ps.zip us,.eV T.1=.gL\/(.eV T.1=.gM/\((.c6 .bW .kj []).lookup T.1).isSome=f'):=λ#[n,v]hy=>by
  rcases S.par n (Se hy).1 with q|q;.grind
  grind[aa9]
 refine codeAny_call_function C.depth (KX _ _ lk) y S.co S.gen y (PySem.W.codeRec_of KX ah) (hb _ _ _ _ ?_);refine wpAny_newFunctionEnv_cells S.kind ak λenv he s1 x=>?_;subst he;refine#[aj.keeps x.toInCall.keep,codeAny_func ?_];obtain⟨t,ht,hq⟩:=ai A c s H g Q E (C.deeper _) af;have I:Inv .xR [] .pv H s1:=agA S C.hd M hl r x;refine rQ (ht [] s1 .pv H _ I hq) (λfl s' Y=>?_) λe s' Y=>Y;have fin:∀{l:St}{L:Hp}{v:V}{u:iB},Inv .xR [] l L s'->.cR->Q v L->CE c P w H s Q u s':=λ{l L v u}J rv q=>#[v,L,J.os,J.bare,J.base,J.je,rv,q];cases fl with
 |ret u=>obtain⟨v,l,L,J,rv,q⟩:=Y;exact fin J rv q|next=>obtain⟨l,L,J,q⟩:=Y;exact fin (v:=V.iM) (u:=pX) J y q|brk=>obtain⟨_,_,_,q⟩:=Y;grind|cont=>obtain⟨_,_,_,q⟩:=Y;grind
def tCB(r:.pi)(t:TA):TE:=λσ H Q=>.ab λg B=>r g B Q
theorem kA{x:iA}{p T:Pos}{f:.eX}{t:TA}{id:.ep}{r:.pi}(B:sx X (.aj id) r)(q:.dS)(M:.ie=e')(L:.b8 x=O (.aj id))(c:PA X .fC t)(k:.sW:=by decide)(u:.da:=by decide)(a:.mw e f:=by rfl)(l:.mz T f:=by rfl):.H (.dy .fC [] T) (tCB r t):=by ext q;refine uJ (uj I q M L ?_ k u);exact J6 (iW (c T @t s σ H _ I h) λus m#[g,v,D,r1,w]=>B @t m σ v g us Q D r1 w) a l
theorem wb(B:sx X (.af T) r)(q:.dS)(M:.ie=e')(L:.b8 x=O (.af T))(k:PA X .fC t)(l:.sW:=by decide)(u:.da:=by decide)(a:.mw e f:=by rfl)(v:.mz c f:=by rfl):.H (.dy .fC [] c) (tCB r t):=by ext q;refine uJ (uj I q M L ?_ l u);exact Ai (iW (k c @t s σ H _ I h) λus m#[g,w,D,r1,C]=>B @t m σ w g us Q D r1 C) a v
end L2
namespace HT
open PySem PyProof.Rows
section
open PySem.SeqAt
open PySem.AutoSeq1(wpAny_loadPart')
open PySem.MeetsSeq PySem.MeetsSeq2 PySem.MeetsSeq3
end
theorem ajI(v:zP .O t .ik)(l:zP .O b f.toArray)(L:g≠[])(D:f=[]->Q .ml s)(I:f≠[]->Q .db {s with heap:=.a8 {cls:=.kk,data:=.seq (g++f).toArray}})(a:.cZ+.il<=@Q):.ai (binaryOp .Add .ml .b3) Q E s:=by
 obtain⟨⟨cls,x,data,M⟩,k,B,n,T⟩:=id v;obtain⟨⟨c,u,data2,C⟩,h,q,p,r⟩:=id l;simp only at B T q r;subst B T q r;have e:.ik++f.toArray=(g++f).toArray:=@E
 by_cases m:f=[];.exact .ho .z (tuple_addW1 t b .ik f.toArray n p x u M C .q (by simp[m])) #[k,h,D m]
 .refine .ho .z (tuple_addW2 t b .ik f.toArray n p x u M C .q .q @h) #[k,h,?_];grind
def sF(n d:Nat):.dD->Nat
 |e'=>d|O v=>if v<0 then(v+.aY).toNat else min v.toNat n
theorem Yt(n d k:Nat):sF n d (O (k:Int))=min k n:=.Q
end HT
namespace L2
open PySem PySem.Spec PyProof.Rows
abbrev TO:=St->Hp->(.dD->.aq)->.n
def PO(X:Cx)(e:.E .aB)(t:TO):.n:=∀(pins:.aL)(s:iV)(σ:St)(H:Hp)(Q:.dD->.aq),.D->.ab Q->.Q (evalPart e .M) (λu p=>∃o L,.lR/\IsPart u o/\Q o L) .ao s
def akT(t:TE):TO:=λσ H Q=>.ab λx B=>∃i,x=.cm/\Q (O i) B
theorem Bg(h:.ao f):PO X (O e) (akT f):=by ext aN;rw[evalPart_some];refine .gm .CR;obtain⟨i,rfl,q⟩:=L;ext aP;exact#[O i,B,D,.h i t,q]
def SlR(X:Cx)(r:.te):.n:=∀(pins:.aL)(s:iV)(σ:St)(H:Hp)(x:V)(v p C:iB)(lo t:.dD)(M:U)(Q:VK),.D->.eY->s.heap.IsSliceOf M p C .none->IsPart p lo->IsPart C t->r x lo t H Q->∃T id,.C2/\.dz v T/\.Q (getItem v (@h M)) .dR .ao s
def tSl(r:.te)(f:TE)(tl a:TO):TE:=λσ H Q=>.c3 λx B=>tl σ B λl I=>a σ I λu h=>r x l u h Q
theorem NN{lo t:.E .aB}{r:.te}(c:SlR X r)(a:.ao f)(L:PO X lo tl)(M:PO X t g):.H (.Subscript e (.Slice lo t e' m) aa) (tSl r f tl g):=by ext q;refine T1 (.c4 λv U#[x,B,D,r1,Y]=>?_);refine wpAny_Slice (iW (L @t U σ B _ D Y) λp q#[l,w,A,pl,q2]=>iW (M @t q σ w _ A q2) λC k#[u,J,I3,pu,q3]=>?_);rw[evalPart_none];refine .cH;have I4:.Y J .xT:=I3.kept (t':=k.toks) .bU;obtain⟨T,id,hT,ht,hg⟩:=c @t .xT σ J x v p C l u .xU Q I4 r1 (amk ..) pl pu q3;show .Q (subscriptTail e (.Slice lo t e' m) v (@h .xU)) .dR .ao .xT;exact tail_any (ops:=[@h .xU,v]) ht hT hg .z
def oo(xs:.L)(lo t:.dD):.L:=.ry xs.drop HT.sF 0 t
theorem ad6(xs:.L)(lo t:.dD):(oo xs lo t).length<=.ag:=by grind[oo]
def ak5(K:jd):R2:=λx y H Q=>∃a b xs ys,.cv/\y=.b3/\.lY/\.aJ b ys/\xs≠[]/\.ag+.e3<=@Q/\(ys=[]->.aU H)/\(ys≠[]->∀p,.dZ->.bU (.bt (@L (xs++ys))))
theorem Vals.OR(r:.eU):us=[]↔xs=[]:=by
 cases r with
 |nil=>simp|cons _ _=>simp
theorem YK:.fF (ak5 X.K):=by ext ag;obtain⟨a,b,xs,ys,rfl,rfl,p,l,g,c,L,q⟩:=h;cases f;cases B;obtain⟨M,r1,T,_⟩:=.bS p;obtain⟨m,r2,r,_⟩:=.bS l;refine HT.ajI T r (λz=>g (r1.OR.mp z)) (λz=>#[.aX,H,I,y,L (r2.OR.mp z)]) .f9 (by rw[<-r1.length,<-r2.length];exact c);refine#[.fF,_,.gq (o:=@L (xs++ys)) .bU .ba ?_,y,q (λw=>z (r2.OR.mpr w)) _ .e2];exact#[.h,_,r1.append r2,IsTup.new _ _]
end L2
namespace L2
open PySem PySem.Spec PyProof.Rows
def w8(n:Nat)(i:Int):.ga:=if 0<=i then(if i<n then O i.toNat else e')else if-.aY<=i then O (i+n).toNat else e'
def ox(xs:.aA)(i:Int):.E α:=(w8 .ag i).bind λj=>xs[j]?
theorem YY(h:w8 n i=O j):seqIndex? i n=O j/\j<n/\-.aY<=i/\i<n:=by grind[w8,Ls,K7]
theorem IH{xs:.aA}(h:ox xs i=O v):∃j,seqIndex? i .ag=O j/\.mA j v/\j<.ag/\-(xs.length:Int)<=i/\i<.ag:=by grind[ox,w8,YY]
theorem kj{α:Type}{xs:.aA}{j:Nat}{v:α}(h:.mA j v):ox xs .mn=O v:=by grind[w8,ox]
theorem aiz(xs:.aA)(v:α):ox (xs++[v]) (-1)=O v:=by
 have L:(xs++[v]).length=.ag+1:=@E
 have e:w8 (xs++[v]).length (-1)=O .ag:=by grind[w8]
 grind[ox]
def ajO(b:.aB):.n:=∀o i,subscripted b ij o i=operate [o,i] (getItem o i)
def J4(X:Cx)(r:R2):.n:=∀(l g:.aB)(pins:.aL)(s:iV)(σ:St)(H:Hp)(x y:V)(v u:iB)(Q:VK),.D->.eY->.am y u->r x y H Q->.qm g v u->.Q (subscriptTail l g v u) .dR .ao s
def BX(X:Cx)(id:.ep)(r:.e4):.n:=.C3
theorem jG(c:J4 X r)(p:.cW)(l:.ic)(w:ajO b):.H (.Subscript a b T) .s9:=by ext q;exact T1 (Q1 p l I h λv u g x y k m f B q=>c a b @t g σ k x y v u Q m f B q (w _ _))
def zW(K:jd):R2:=λx y H Q=>∃p xs i v,x=.e5/\y=.cm/\.aB p xs/\ox xs i=O v/\Q v H
def aae(K:jd):R2:=λx y H Q=>∃p xs i v,x=.e5/\y=.cm/\.aJ p xs/\ox xs i=O v/\Q v H
def alB:R2:=λx y H Q=>∃z i c,x=@I z/\y=.cm/\.pA<=@Q/\ox z.cps.toList i=O c/\Q .im H
theorem jU:J4 X (zW X.K):=by
 intro l A pins s σ H x C v u Q I f B h J;ext bm;obtain⟨M,r,m,D⟩:=.aQ g;obtain⟨j,L,U,h3,h4,h5⟩:=IH a;obtain⟨w,ew,T⟩:=r.get U;ext bn;by_cases Y:0<=i
 .have c:i.toNat=j:=by grind[Ls]
  exact item_listR m.isList Y @h .q fin J
 .have c:.C4:=by grind[K7]
  exact aa8 (x:=w) m.isList.typeIs abP.lookup (aa7 (Q:=λr k=>r=w/\.fB r k) m.isList @h .q @h .q #[y,fin]) J
theorem zJ:J4 X (aae X.K):=by
 intro l U pins s σ H x C v u Q I f B h m;ext bm;obtain⟨Y,r,J,c⟩:=.bS g;obtain⟨j,D,M,k,A,L⟩:=IH a;obtain⟨w,ew,T⟩:=r.get M;ext bn;exact aa8 (x:=w) .pB slot_tuple_getitem.lookup (by grind[getItem_tuple]) m
theorem Ji:J4 X alB:=by
 intro l g pins s σ H x C v u Q I f B h w;obtain⟨z,i,c,rfl,rfl,m,a,q⟩:=h;ext I;ext H;obtain⟨j,D,M,r,k,T⟩:=IH a;have L:z.cps.toList.length=.pA:=.Q
 rw[L]at D k T;have p:=zH;exact tail_any (TY s z t) slot_str_getitem.lookup (getItem_str (c:=c) .q .q #[.im,H,.bH,.br,q]) w
theorem aeY(M:.Y)(n j:Nat)(u:iB):GK .C5 .j3={cls:=.dU,data:=.seq (M.set j u).toArray n}:=by simp[GK]
theorem Inv.lst(I:.D)(h:H p=.eZ):∃(M:.Y)(n:Nat),.b5 M/\.ah p=O .j3/\.fw:=by obtain⟨z,M,n,r,e⟩:=I.je p _ h;grind
theorem Inv.akn{ys:.L}{M g:.Y}{B:Nat}{f:jA->jA}(I:.D)(h:H p=.eZ)(k:.ah p=O .j3)(Q:f .j3=.C6)(r:.ac ys g)(c:.e3<=@Q)(t:Nat):.Y (.bu p ys) {s with heap:=.en p f,toks:=t}:=by
 have e:(.en p f).get? p=O .C6:=by rw[Al f k (by rw[Q]<;>rfl),Q]
 refine I.write (x:=p) (e:=p) (by rw[h];trivial) .cS (by grind[abc]) #[_,e] ?_;exact#[c,g,B,r,e]
def ak4:.CB:=λo i v H Q=>∃p xs k j,o=.e5/\i=.h k/\H p=.eZ/\w8 .ag k=O j/\Q (.bu p (xs.set j v))
theorem set_list:Q7 X ak4:=by
 intro pins s σ H o i v L l u Q I g a w h;obtain⟨p,xs,k,j,rfl,rfl,m,x,q⟩:=h;cases g;obtain⟨t,rfl⟩:=a;obtain⟨M,n,r,C,c⟩:=I.lst m;obtain⟨D,J,T,B⟩:=YY x;have U:=r.length;have f:=zH;have Y:.Y (.bu p (xs.set j v)) {s with heap:=.en p (GK .C5)}:=I.akn m C (aeY M n j u) (r.set w j) .q .dW;grind[Ls,PySem.W.ki_setAt,K7,PySem.W.ki_setBack]
theorem ac2(lo t:.dD)(n:Nat):(.xW).1=((HT.sF n 0 lo:Nat):Int)/\(.xW).2.1=((HT.sF n n t:Nat):Int)/\(.xW).2.2=1:=by grind[sliceBounds,HT.sF]
theorem acO(M:.Y)(lo t:.dD):slicePick .c8 lo t e'=((M.drop (HT.sF .mq 0 lo)).take (HT.sF .mq .mq t-HT.sF .mq 0 lo)).toArray:=by obtain⟨D,a,r⟩:=ac2 lo t M.toArray.size;unfold slicePick;rw[D,a,r];simp only[sliceRange_one,pick_run,Ft]<;>rfl
def alz(K:jd):.te:=λx lo t H Q=>∃a xs,.cv/\.fA/\∀p,.dZ->.bU (.bu p (oo xs lo t))
theorem OE:SlR X (alz X.K):=by intro pins s σ H x v p C lo t M Q I f w u g h;obtain⟨a,xs,rfl,l,q⟩:=h;cases f;obtain⟨B,r,k,c⟩:=.aQ l;have m:=r.length;refine#["list",_,abP.lookup,k.isList.typeIs,?_];refine wpAny_getItem_list_slice k.isList w u g .none @I ?_ .q;rw[acO,<-m];refine#[.fF,_,.gq (o:=@E (oo xs lo t)) .bU .ba ?_,y,q _ .e2];exact#[by grind[ad6],_,0,.ry r.drop HT.sF 0 t,.cG]
def uq:.gW
 |.iM=>f'|.bl _=>f'|.int _=>f'|.str _=>f'|_=>ij
def pS:V->.gW
 |.iM,.iM=>f'|.bl a,.bl b=>a==b|.bl a,.int b=>(.pB a 1 0)==b|.int a,.bl b=>a==(.pB b 1 0)|.int a,.int b=>a==b|.str a,.str b=>a==b|_,_=>ij
theorem akD(B:.dV)(f:.eY)(k:uq C=f')(l:uq x=f'):SeqAt.EqAt A s u v (pS C x):=by
 cases C with
 |iM=>
  cases B;cases x with
  |iM=>cases f;exact SeqAt.EqAt.same _
  |bl b=>cases f;exact SeqAt.EqAt.none_bool b
  |int b=>ext I;exact SeqAt.EqAt.none_int b t
  |str b=>ext I;exact SeqAt.EqAt.none_str b t
  |_=>exact .ki l
 |bl a=>
  cases B;cases x with
  |iM=>cases f;exact SeqAt.EqAt.bool_none a
  |bl b=>cases f;exact SeqAt.EqAt.bool_bool a b
  |int b=>ext I;exact SeqAt.EqAt.bool_int a b t
  |str b=>ext I;exact SeqAt.EqAt.bool_str a b t
  |_=>exact .ki l
 |int a=>
  ext H;cases x with
  |iM=>cases f;exact SeqAt.EqAt.int_none a t'
  |bl b=>cases f;exact SeqAt.EqAt.int_bool a t' b
  |int b=>ext I;exact SeqAt.EqAt.int_int a t' b t
  |str b=>ext I;exact abF a t' b t
  |_=>exact .ki l
 |str a=>
  ext H;cases x with
  |iM=>cases f;exact SeqAt.EqAt.str_none a t'
  |bl b=>cases f;exact SeqAt.EqAt.str_bool a t' b
  |int b=>ext I;exact abE a t' b t
  |str b=>ext I;exact SeqAt.EqAt.str_str a t' b t
  |_=>exact .ki l
 |_=>exact .ki k
def qU(x:V)(u:iB):.ab:=match u with
 |.none=>pS .iM x|.bool b=>pS (.bl b) x|.int i _=>pS .cm x|.str z _=>pS (@I z) x|_=>ij
theorem ZK(r:.dV)(f:uq C=f'):qU x u=pS C x:=by
 cases C with
 |iM=>ext ad|bl b=>ext ad|int i=>ext E;rfl|str z=>ext E;rfl|_=>exact .ki f
theorem D0:∀{xs:.L}{us:.Y},.eU->xs.all uq=f'->us.any (qU x)=xs.any λC=>pS C x
 |_,_,.nil,_=>y|C::xs,u::us,.cons r t,f=>by rw[K3,qr]at f;rw[yT,yT,ZK r f.1,D0 t f.2]
theorem DI(a:.eY)(l:uq x=f'):∀{xs:.L}{us:.Y},.eU->xs.all uq=f'->∀u∈us,SeqAt.EqAt A s u v (qU x u)
 |_,_,.nil,_=>λu M=>.jr M|C::xs,u::us,.cons r t,f=>λT M=>by
  rw[K3,qr]at f;rcases kc.mp M with rfl|M;.rw[ZK r f.1];grind[akD]
  .exact DI a l t f.2 T M
def kE(x:V)(xs:.L):.ab:=xs.any λy=>pS y x
def JS(K:jd)(g:.ab):R2:=λx y H Q=>∃p xs,y=.e5/\(.aB p xs\/.aJ p xs)/\uq x=f'/\xs.all uq=f'/\.pc Q (if g then !kE x xs else kE x xs) H
theorem ua:mO X (.bn .In) (JS X.K ij):=by
 ext bX;.obtain⟨M,r,a,c⟩:=.aQ g;refine SeqAt.in_listAt (qU x) a.isList .tf .tg;ext aT
 .obtain⟨M,r,a,c⟩:=.bS g;refine SeqAt.in_tupleAt (qU x) a .tf .tg;ext aT
theorem SS:mO X (.bn .NotIn) (JS X.K f'):=by
 ext bX;.obtain⟨M,r,a,c⟩:=.aQ g;refine SeqAt.notIn_listAt (qU x) a.isList .tf .tg;ext aT
 .obtain⟨M,r,a,c⟩:=.bS g;refine SeqAt.notIn_tupleAt (qU x) a .tf .tg;ext aT
theorem oA:sx X (.aj "len") (λxs H Q=>∃p ys,xs=[.e5]/\(.dR p ys\/jz X.K H p ys)/\Q (.h .e3) H):=by
 ext ap;obtain⟨p,ys,rfl,g,q⟩:=h;obtain⟨u,rfl,f⟩:=.mr;cases f;have k:=zH;rcases g with g|g;.obtain⟨M,m,a,c⟩:=.aQ g;have x:=m.length;exact Calls.call_len_list a.isList .q .C7
 .obtain⟨M,m,a,c⟩:=.bS g;have x:=m.length;exact len_tuple a .q .C7
def Rb(K:jd)(T:.ep)(x:V)(H:Hp):.n:=match x with
 |.str _=>T="str"|.int _=>T="int"|.ref p=>(T="list"/\∃xs,.aB p xs)\/(T="tuple"/\∃o,.jz p=O o/\.lX/\o.dict=e')\/(T="dict"/\((∃kvs,H p=O .c0)\/∃kvs,H p=O .io))\/(T="set"/\∃S n,H p=O (.set S n))|_=>False
theorem Zi(I:.D)(r:.eY)(ty:Rb X.K T x H):.dz v T/\∀a,v=.aX->∃h,.ah a=O h/\h.dict=e':=by
 cases x with
 |str z=>ext E;cases(show T="str"from ty);grind[TY]|int i=>ext E;cases(show T="int"from ty);grind[typeIs_int]|ref p=>
  cases r;rcases ty with⟨rfl,xs,g⟩|⟨rfl,o,hk,B,k⟩|⟨rfl,hk⟩|⟨rfl,S,n,hk⟩;.obtain⟨M,_,u,_⟩:=.aQ g;refine#[u.isList.typeIs,λa e=>?_];cases e;obtain⟨o,n,e,c,k,_⟩:=u;grind
  .refine#[#[o,I.qj p o hk,B],λa e=>?_];cases e;exact#[o,I.qj _ o hk,k]
  .have z:∃o,.ah p=O o/\.lN:=by
    rcases hk with⟨kvs,hk⟩|⟨kvs,hk⟩;ext bY
    ext bY
   obtain⟨o,e,f⟩:=z;ext bZ
  .obtain⟨o,_,_,_,e,f,_⟩:=I.je p _ hk;ext bZ|_=>exact sU ty
def alp(K:jd)(T:.ep)(r:.e4)(u:TE):TE:=λσ H Q=>u σ H λx B=>Rb K T x B/\r x [] B Q
def tBM(K:jd)(T:.ep)(r:.e4)(u:TE)(t:TA):TE:=λσ H Q=>u σ H λx B=>Rb K T x B/\t σ B λxs I=>r x xs I Q
theorem PX{o:.aB}{u:TE}{c:iA}{t C:Pos}{T id:.ep}{r:.e4}(a:PlainAttrs T)(slot:Slot T c id)(f:.xX)(M:BX X id r)(k:.aR u)(g:.xY:=by rfl)(l:.xZ:=by rfl):.H (.an (.aS c t) [] [] C) (alp X.K T r u):=by ext q;refine wpAny_Call_method0_late g l (.du λv m#[x,B,D,r1,ty,L]=>?_);obtain⟨p,q⟩:=Zi D r1 ty;exact#[T,id,a,slot,f,p,q,Cb y (Kk (M @t m σ B x [] v [] Q D r1 .nil L))]
theorem lP{o:.aB}{f:.eX}{u:TE}{t:TA}{c:iA}{a C:Pos}{T id:.ep}{r:.e4}(g:PlainAttrs T)(slot:Slot T c id)(k:.xX)(M:BX X id r)(l:.aR u)(p:PA X .fC t)(m:.xY:=by rfl)(q:((.c2 C (.bH .fC .M)).all (λx=>!x.1)&&(.lq C).all (λx=>x.1.isSome)&&.q ((.fC).length+([]:@q DN).length+(if([]:@q DN).isEmpty then 0 else 1)<30))=f':=by rfl)(w:.C8:=by rfl)(A:.mw e f:=by rfl)(aa:.mz C f:=by rfl):.H (.an (.aS c a) .fC [] C) (tBM X.K T r u t):=by ext q;refine wpAny_Call_method_late m q w y (iW (l @t s σ H _ I h) λv U#[x,B,D,r1,ty,L]=>?_);obtain⟨Y,h2⟩:=Zi D r1 ty;refine#[T,id,g,slot,k,Y,h2,?_];have J:=p C @t U σ B _ D L;rw[A]at J⊢;refine Cb .q (Fl ?_);exact iW J λus s2#[vs,H2,I2,r2,q2]=>M @t s2 σ H2 x vs v us Q I2 r1 r2 q2
def J2(X:Cx)(id:.ep)(r:.e4):.n:=.C3
theorem Vals.one:∀{x:V}{us:.Y},.ac [x] us->∃u,us=[u]/\.h5
 |_,_,.cons r .nil=>#[_,y,r]
theorem Vals.zero:∀{us:.Y},.ac [] us->us=[]
 |_,.nil=>y
theorem Vals.dropLast(h:.eU):.ac xs.dropLast us.dropLast:=by
 induction h with
 |nil=>ext ae|cons r t I=>
  cases t with
  |nil=>ext ae|cons q t'=>exact .J r I
theorem amn(l:.aA):l.eraseIdx (.ac-1)=l.dropLast:=@E
theorem Inv.JG{ys:.L}{M zY:.Y}{f:.gT->.gT}(I:.D)(w:.ip)(e:.ah l=O .j3)(Q:f .c8=zY.toArray)(L:.ac ys zY)(c:.e3<=@Q):.Y (.bu l ys) {s with heap:=.en l (GK f),toks:=t'}:=by have q:=PySem.IsL.update e f;rw[Q]at q;refine I.write (x:=l) (e:=l) (by rw[w];exact trivial) .cS (by grind[abc]) #[_,q] ?_;exact#[c,zY,_,L,q]
theorem Inv.alJ(I:.D)(L:.ac ys M)(c:.e3<=@Q):.Y (.dU (@E ys)) {s with heap:=.a8 {cls:=.dU,data:=.seq .c8},toks:=t'}:=I.laid .bU .ba #[c,M,0,L,.cG]
theorem Inv.fresh(I:.D):H @L=e':=.e2
theorem Inv.zX(I:.D)(w:.ip):.fw/\∃(M:.Y)(n:Nat),.b5 M/\.ag=.mq/\.ah l=O .j3:=by obtain⟨z,M,n,r,e⟩:=I.je l _ w;exact#[z,M,n,r,.ek,e]
theorem Xm(h:n<=@Q):Fh n=ij:=by grind[Fh]
def aiZ:.e4:=λx g H Q=>∃l xs y,x=.cw/\g=[y]/\.ip/\.ag<@Q/\.aV (.bu l (xs++[y]))
theorem qI:J2 X "list.append" aiZ:=by ext aU;obtain⟨l,xs,C,rfl,rfl,w,c,q⟩:=h;ext bo;ext aV;refine GG F.slot_list_append #[_,e,y] F.entry_list_append .z (PySem.list_append l .c8 n u .q) #[e,?_];refine#[.iM,_,I.JG (zY:=M++[u]) w e @I (r.append (.J k .nil)) ?_,y,q];grind
def aiY:.e4:=λx g H Q=>∃l b xs r,x=.cw/\g=[.b3]/\.ip/\H b=.ji r/\.ag+.ek<=@Q/\.aV (.bu l (xs++r))
theorem rT:J2 X "list.extend" aiY:=by
 ext aU;obtain⟨l,b,xs,C,rfl,rfl,w,B,c,q⟩:=h;ext bo;cases k;ext aV;obtain⟨D,m,p,r2,J,A⟩:=I.zX B;have T:.x0<=@Q:=.h
 have a:.C9:=by grind[Xm]
 refine GG abK #[_,e,y] abA .z (AutoSeq1.list_extend_list_list_0 l .c8 n b m.toArray p a @h @h) #[e,A,?_];refine .Da;grind
def alA:.e4:=λx g H Q=>∃l xs y,x=.cw/\g=[]/\.ip/\xs[.ag-1]? =O y/\Q y (.bu l xs.dropLast)
theorem P0:J2 X "list.pop" alA:=by
 ext aU;obtain⟨l,xs,C,rfl,rfl,w,m,q⟩:=h;cases f;have c:=t.zero;subst c;ext aV;obtain⟨u,p,k⟩:=r.get m;have a:M.toArray[M.toArray.size-1]? =O u:=.h
 refine GG F.slot_list_pop #[_,e,y] F.entry_list_pop (F.args_list_pop_1 _) (MeetsSeq.list_pop_last l .c8 n u a .q) #[e,?_];refine#[C,_,I.JG (zY:=M.dropLast) w e ?_ r.dropLast ?_,k,q];.simp
 grind
def alE:R2:=λx y H Q=>∃l b xs r,x=.cw/\y=.b3/\.ip/\H b=.ji r/\.ag+.ek<=@Q/\∀p,.dZ->.bU (.bu p (xs++r))
theorem vj:.fF alE:=by
 ext ag;obtain⟨l,b,xs,t,rfl,rfl,w,a,c,q⟩:=h;cases f;cases B;ext aV;obtain⟨D,m,p,r2,k,A⟩:=I.zX a;refine PySem.P.add_list e A ?_ .q;have g:.c8++m.toArray=(M++m).toArray:=@E
 rw[g];exact#[@h _,_,I.alJ (t':=s.toks) (r.append r2) .q,y,q _ I.fresh]
theorem Vals.bls:∀{f:@q .ab}{us:.Y},.ac (f.map V.bl) us->us=f.map C7
 |[],us,h=>by rw[Ld]at h;cases h;rfl|b::f,us,h=>by
  rw[j6]at h;cases h with
  |cons r t=>cases r;rw[Vals.bls t,j6]
theorem Vals.aac(r:.ac .ms us):us=[jj a]:=by
 cases r with
 |cons r t=>cases t;ext ad
theorem ah7(L:.gs f)(h:∀k:iV,k={s with heap:=.a8 .x1}->(k.heap.IsListIter @L l 0/\k.heap.IsList l f)->l≠@L->Q .db k):.ai (pyIter .d0) Q E s:=by
 have a:l<@L:=by obtain⟨_,e,_⟩:=L;ext af
 exact Kp L (h _ y #[.es,L.push _] (mT a))
theorem adz{f:@q .ab}{M:.Y}(e:M=f.map C7):TruthOf H w A (λi v=>M.toArray[i]? =O v) (λi=>.pD):=λi v s Q E L g=>by
 have a:M[i]? =O v:=.j0 L
 rw[e,jI]at a;obtain⟨b,l,rfl⟩:=.M a;have q:.pD=b:=by rw[aaR,l]<;>rfl
 have B:Q .pD s:=g;rw[q]at B;exact xl B
theorem any_range:∀f:@q .ab,(kH .il).any (λi=>.pD)=f.any id
 |[]=>y|b::f=>by rw[lH,aba,yT,Le,yT,<-any_range f];rfl
theorem all_range:∀f:@q .ab,(kH .il).all (λi=>.pD)=f.all id
 |[]=>y|b::f=>by rw[lH,aba,K3,SG,K3,<-all_range f];rfl
def alF(K:jd):.pi:=λg H Q=>∃(a:U)(f:@q .ab),g=.ms/\.aB a (f.map V.bl)/\.pc Q (f.all id) H
theorem Qr(B:.en):sx X (.aj "all") (alF X.K):=by
 ext bh;obtain⟨a,f,rfl,w,q⟩:=h;obtain⟨M,t,L,_⟩:=.aQ w;rw[Vals.aac r];have l:=t.bls;refine call_all_walk (ah7 L.isList λk A st c=>?_);subst A;refine#[_,_,_,_,_,_,_,y,Walks.list (A:=X.A.in1) .eo _ a c .c8,st,adz l,λD x hk=>?_];refine#[.bl _,H,I.kept λb o v=>hk b o (λu=>?_) (kZ _ v),?_,q]
 .rcases kc.mp u with C|u;.exact .Z (C▸jZ v) (AA _)
  grind
 .show C7 _=C7 _;grind[all_range]
mutual
inductive Dp(K:jd)(H:Hp):V->wt->Prop
 |iM:Dp K H .iM .none
 |bl(b:Bool):Dp K H (.bl b) (.bool b)
 |int(i:Int):Dp K H (.int i) (.int i)
 |str(x:iA):Dp K H (.str x) (.str x)
 |lst{a:U}{xs:List V}{ds:List wt}:iD K H a xs->yn K H xs ds->Dp K H (.ref a) (.list ds)
 |tup{a:U}{xs:List V}{ds:List wt}:jz K H a xs->yn K H xs ds->Dp K H (.ref a) (.tuple ds)
inductive yn(K:jd)(H:Hp):List V->List wt->Prop
 |nil:yn K H [] []
 |cons{v:V}{vs:List V}{d:wt}{ds:List wt}:Dp K H v d->yn K H vs ds->yn K H (v::vs) (d::ds)
end
mutual
theorem Dp.reads(I:.D):∀(d:wt)(v:V)(u:iB),Dp X.K H v d->.cR->∃as,Reads .O u d as
 |.none,_,_,h,r=>by cases h;cases r;exact#[_,Reads.none]
 |.bool b,_,_,h,r=>by cases h;cases r;exact#[_,Reads.bool b]
 |.int i,_,_,h,r=>by cases h;ext E;exact#[_,Reads.int i t]
 |.str x,_,_,h,r=>by cases h;ext E;exact#[_,Reads.str x t]
 |.list Q,_,_,h,r=>by
  cases h with
  |lst w p=>cases r;obtain⟨M,a,⟨o,n,k,B,_,T⟩,_⟩:=.aQ w;obtain⟨as,c⟩:=.gu M p a;exact#[_,Reads.list k B T c]
 |.tuple Q,_,_,h,r=>by
  cases h with
  |tup w p=>cases r;obtain⟨M,a,⟨o,k,B,n,T⟩,_⟩:=.bS w;obtain⟨as,c⟩:=.gu M p a;exact#[_,Reads.tuple k B T c]
 |.dict _,_,_,h,_=>.b4
theorem Dp.readsAll(I:.D):∀(Q:@q wt)(g:.L)(us:.Y),yn X.K H g Q->.lT->∃as,ReadsAll .O us Q as
 |[],_,_,h,r=>by cases h;cases r;exact#[_,ReadsAll.nil]
 |d::Q,_,_,h,r=>by
  cases h with
  |cons D M=>
   cases r with
   |cons r1 r2=>obtain⟨as,L⟩:=Dp.reads I d _ _ D r1;obtain⟨f,q⟩:=.gu _ M r2;exact#[_,ReadsAll.cons L q]
end
def alC(K:jd):R2:=λx y H Q=>∃d e,Dp K H x d/\Dp K H y e/\CT d=f'/\CT e=f'/\.pc Q (GI d e) H
def aad(K:jd):R2:=λx y H Q=>∃d e,Dp K H x d/\Dp K H y e/\CT d=f'/\CT e=f'/\.pc Q (!GI d e) H
theorem akb(M:.j8 64):mO X (.bn .Eq) (alC X.K):=by ext ag;ext b0;exact SeqAt.compareEq_shaped r1 r2 t c M #[.bl _,H,I,y,q]
theorem ZF(M:.j8 64):mO X (.bn .NotEq) (aad X.K):=by ext ag;ext b0;exact SeqAt.compareNe_shaped r1 r2 t c M #[.bl _,H,I,y,q]
abbrev ZQ(h:jo)(c:U)(v:.E iB):.n:=h.IsCell c v
def alw(a f:qM):qM:=
 {a with names:=a.names.map λ(n,k)=>if(k==.free&&f.kind==.function&&.bR n==.gM)then(n,.cell)else(n,k)}
def oE(s:.bY):.gb->.bY->.bY
 |[],acc=>acc|(n,k)::r,acc=>if k==.free then oE s r ((n,(s.lookup n).getD 0)::acc)else oE s r acc
theorem SW(env:oq)(f:iA×uc->.bY->Sem (ForInStep .bY))(Q:∀n k c,f (n,k) c=if k==.free then(do let a<-cellOf env n;pure (.yield ((n,a)::c)))else pure (.yield c)):∀(v:.gb)(acc:.bY),(∀C∈v,.Db)->forIn v acc f=pure (oE env.cells v acc)
 |[],acc,_=>.Q|(n,k)::r,acc,h=>by rw[List.forIn_cons,Q];have I:=λacc=>SW env f Q r acc .q;grind[oE,jO,cellOf]
theorem ae'(h:∀C∈a.names,.Db):closureFor a env=pure (oE env.cells .kj []):=by simp only[closureFor];rw[SW env _ (λn k c=>y) .kj [] h];rfl
theorem mem_lookup:∀{l:@q (iA×α)}{n:iA}{c:α},(n,c)∈l->∃t,l.lookup n=O t
 |(k,v)::r,n,c,h=>by
  rw[List.lookup_cons];cases a:n==k with
  |true=>simp|false=>
   rcases kc.mp h with e|h;.grind
   .exact mem_lookup h
theorem GF:∀{v:.gb}{acc:.bY}{n:iA}{c:U},(n,c)∈oE s v acc->(n,c)∈acc\/((n,.free)∈v/\c=(s.lookup n).getD 0)
 |[],_,_,_,h=>.n h|(m,k)::r,acc,n,c,h=>by
  unfold oE at h;ext J
  .rename_i hk;have hk:k=.free:=.h
   rcases GF h with h|⟨D,M⟩;.grind
   grind
  .rcases GF h with h|⟨D,M⟩;.grind
   grind
theorem LV:∀{v:.gb}{acc:.bY}{p:iA×U},p∈acc->p∈oE s v acc
 |[],_,_,h=>h|(m,k)::r,acc,p,h=>by
  unfold oE;split;.exact LV .q
  .exact LV h
theorem LU:∀{v:.gb}{acc:.bY}{n:iA},(n,.free)∈v->(n,(cells.lookup n).getD 0)∈oE cells v acc
 |(m,k)::r,acc,n,h=>by
  unfold oE;rcases kc.mp h with e|h;.grind[LV]
  .split;.exact LU h
   .exact LU h
theorem Ds:∀{v:.gb}{h:jo}{acc:.bY}{x:iA}{c:U},(x,c)∈.x2->(x,c)∈acc\/((x,.cell)∈v/\.eh<=c/\ZQ (pushCells h v) c e')
 |[],_,_,_,_,h=>.n h|(n,k)::r,h,acc,x,c,M=>by
  unfold cellsFrom at M;unfold pushCells;split at M
  .rename_i hk;rw[ip hk];have hk:k=.cell:=.h
   rw[<-.Dd]at M;rcases Ds M with M|⟨D,a,f⟩
   .rcases kc.mp M with e|M;.cases e;exact @n #[.h,.bV,_,KA r _ _ _ .cG,y]
    grind
   grind[uP]
  .rename_i hk;rw[il hk];rcases Ds M with M|⟨D,a,f⟩;.grind
   grind
theorem HA:∀{names:.gb}{n:Nat}{acc:.bY}{p:iA×U},p∈acc->p∈.c6 n names acc
 |[],_,_,_,h=>h|(m,k)::r,n,acc,p,h=>by
  unfold cellsFrom;split;.exact HA .q
  .exact HA h
theorem Nm:∀{v:.gb}{n:Nat}{acc:.bY}{x:iA},(x,.cell)∈v->∃c,(x,c)∈.c6 n v acc
 |(m,k)::r,n,acc,x,h=>by
  unfold cellsFrom;rcases kc.mp h with e|h;.grind[HA]
  .split;.exact Nm h
   .exact Nm h
theorem Nl:∀{v:.gb}{h:jo}{acc:.bY}{x C:iA}{c:U},(∀p∈acc,p.2<.eh)->(∀x C c,(x,c)∈acc->(C,c)∈acc->x=C)->(x,c)∈.x2->(C,c)∈.x2->x=C
 |[],_,_,_,_,_,_,t,D,M=>t _ _ _ D M|(n,k)::r,h,acc,x,C,c,L,t,D,M=>by
  unfold cellsFrom at D M;split at D
  .rename_i hk;rw[ip hk]at M;rw[<-.Dd]at D M;refine Nl (h:=h.push _) (λp Q=>?_) (λx C c a b=>?_) D M;.grind[uP]
   grind
  .rename_i hk;rw[il hk]at M;exact Nl L t D M
theorem adW{M:Model}{A:oR}{s:iV}{a:qM}{g:U}{C:.bY}{f:.E U}{code:iB}{D:oq}{B:U}{Q:oq->.dA}(h:Q (newEnv a @L g (.c6 .bW .kj C) qual f code (O D) B)
   {s with heap:=.fM .kj}):.dQ (newFunctionEnv a g C [] qual f code (O D) B) Q E s:=by simp only[newFunctionEnv,abG,if_true];refine iH (wpAny_alloc ?_);refine iH (wpAny_layCells _ (λn k c=>y) .kj C _ _ ?_);rw[show({s with heap:=.iq}:iV).heap.objs.size=@L+1 from uP ..];rw[List.forIn_nil];exact iH (i6 (i6 h))
theorem LH{f:qM}:∀{v:.gb}{x:iA}{k:uc},(v.map λ(n,k)=>if(k==acI&&f.kind==.function&&.bR n==.gM)then(n,acJ)else(n,k)).lookup x=O k->∃D,v.lookup x=O D/\(k=D\/(D=.free/\k=.cell))
 |[],_,_,h=>.mi|(n,a)::r,x,k,h=>by have I:=@LH f r x k;grind
structure ED(N:List iA)(sc scope:qM)(own:List (iA×Nat)):Prop where
 kind:scope.kind=.function
 uniq:∀y∈scope.names,scope.names.lookup y.1=O y.2
 ix:∀p∈own,N[p.2]? =O p.1
 free:∀y∈scope.names,y.2=.free->sc.names.lookup y.1=O .cell\/sc.names.lookup y.1=O .free
 own:∀y∈scope.names,y.2=.local\/y.2=.cell->y.1∈own.map (·.1)\/y.1∉N
def wipe(σ:St):@n->St
 |[]=>σ|v::g=>(.aW g).set v e'
theorem Ly(σ:St):∀g:@n,(.aW g).length=σ.length
 |[]=>y|v::g=>by unfold wipe;rw[List.length_set,Ly σ g]
theorem MB:∀{g:@n},(.aW g)[i]? =.jI x->σ[i]? =.jI x/\i∉g
 |[],h=>#[h,@E]|v::g,h=>by
  unfold wipe at h;by_cases t:v=i;.grind
  .rw[RC t]at h;obtain⟨D,M⟩:=MB h;grind
abbrev Cx.pz(X:Cx)(s:iV)(H:Hp)(a:qM)(v:oq)(t:@D):Cx:={X with mM:=s,vG:=H,env:=v,outer:=X.stack,ex:=t,fn:=λx=>.eV x==.gM,pn:=[],xe:=.pE}
theorem ad8(I:.D)(ok:.kT f)(hN:.gO)(g:∀b∈fp,.dv H b/\b<@L):Inv (.gw f .De fp) [] (.aW .km) H {s with heap:=.fM .ij}:=by
 have ac:∀C∈f.names,C.2=.free->∃c,.cq C.1=O c:=λC Y e=>by
  rcases ok.free C Y e with k|k;.exact I.ok.has _ (.n k)
  .exact I.ok.has _ (@n k)
 generalize x:.De=v;have Q:∀b o,.cE->(.fM .ij).get? b=O o:=λb o e=>KA _ _ _ _ (kZ _ e);have hL:v.locals=@L:=.kv x
 have u:v.cells=.c6 .bW .ij .th:=.kv x
 have t:v.scope=alw f .j7:=.kv x
 rw[<-uP .O .mt]at u;have cm:∀{C c},(C,c)∈.th->.cq C=O c/\c<@L:=λ{C c}M=>by
  rcases GF M with M|⟨D,rfl⟩;.cases M
  .obtain⟨c,hc⟩:=ac _ D y;rw[hc];obtain⟨w,z⟩:=I.cell _ _ hc;exact#[y,z.lt]
 have B:∀{C c},.gX->(.cq C=O c/\c<@L)\/(@L+1<=c/\ZQ (.fM .ij) c e'):=λ{C c}e=>by
  rw[u]at e;rcases Ds (qZ e)with M|⟨_,L,h3⟩;.grind
  ext t
 have ae:∀{C},.bR C=O .free->∃c,.gX/\.cq C=O c:=λ{C}hl=>by
  have Y:(C,acI)∈.ij:=qZ hl;obtain⟨c',T⟩:=mem_lookup (HA (names:=f.names) (n:=(.iq).objs.size) (LU (cells:=X.env.cells) (acc:=[]) Y));rw[<-u]at T;refine#[c',T,?_];rw[u]at T;rcases Ds (qZ T)with M|⟨D,_,_⟩;.grind
  .have:=ok.uniq _ D;grind
 have af:(.gw f v fp).Ok:=by
  refine#[I.ok.mod,by show v.scope.kind=_;rw[t];exact ok.kind,by show v.globals=_;rw[<-x];exact I.ok.glob,by show v.builtins=_;rw[<-x];exact I.ok.blt,.h,λC z c U A=>?_,λC Y=>?_,λC c z e=>?_,I.ok.hd,I.ok.frames,.n y,λb l=>#[?_,λC c e z=>?_],I.bs,.eK I.sz,λb o e l=>?_,λb l z=>?_,I.stack,I.Oy];.have U:.gX:=U;have A:v.cells.lookup z=O c:=A;rw[u]at U A;refine Nl .fy (λC z c a b=>I.ok.inj C z c (cm a).1 (cm b).1) (qZ U) (qZ A);grind[uP]
  .show∃c,.gX;have ag:∀k,v.kindOf C=O k->(k=.cell\/k=.free)->∃c,.gX:=λk hk aa=>by
    unfold Env.kindOf at hk;rw[t]at hk;obtain⟨J,e,r⟩:=LH hk;have:J=.cell\/J=.free:=.h
    rcases this with rfl|rfl;.obtain⟨c,M⟩:=Nm (n:=(.iq).objs.size) (acc:=.th) (qZ e);grind[mem_lookup]
    grind
   grind
  .have z:(.bR C==O acJ)=f':=z;have z:.bR C=.gM:=.h
   have e:.gX:=e;rw[u]at e;rcases Ds (qZ e)with M|⟨_,L,_⟩
   .rcases GF M with M|⟨D,_⟩;.cases M
    .have q:=ok.uniq _ D;grind
   grind[uP]
  .grind
  .have e:.gX:=e;rcases B e with⟨D,_⟩|⟨D,_⟩;.exact(g b l).1.2.2.2.2.1 C c D z
   grind
  .rcases(g b l).1.2.2.2.1 with z|z;.exact I.ok.ET b o e z
   .exact .ni .h8 (.eK z)
  .rcases kc.mp (I.PH b z)with z|z;.exact(g b l).1.2.1 z
   .exact(g b l).1.2.2.1 z
 refine#[af,y,.c9,Un.kept Q,#[λ_=>e',?_,λi C av U A e3=>?_],λC c e=>?_,?_,λC c e=>?_,.fy,I.je.kept Q,by rw[Ly];exact I.len];.grind[Heap.Ns.keeps,Heap.Ns.new,KA]
 .obtain⟨A,ai⟩:=MB A;have h:.Df:=by
   have ag:∀k,v.scope.names.lookup C=O k->k=.local\/k=.cell\/k=.free->.Df:=λk hk aa=>by
    have ab:=hk;rw[t]at hk;obtain⟨J,e,r⟩:=LH hk;have no:¬(J=.local\/J=.cell):=λhh=>by
     rcases ok.own _ (qZ e) hh with T|T;.obtain⟨p,hp,aj⟩:=@Q T;have e3:=ok.ix p hp;grind[NQ]
     grind
    rcases r with rfl|⟨rfl,rfl⟩
    .rcases aa with rfl|rfl|rfl;.grind
     .grind
     .exact#[e,@n ab]
    .exact#[e,.n ab]
   grind[BW]
  obtain⟨m,hn,hl⟩:=I.loc;have ah:BW .j7 C:=(ok.free _ (qZ h.1) y).elim (λk=>.j2 k) (λk=>@n (@n k));obtain⟨w,r,q⟩:=hl i C av U A ah;refine#[w,r,@n #[h.2,?_]];obtain⟨c,D,L⟩:=ae h.1;rcases q with⟨k,_⟩|⟨_,c',T,z⟩;.have k:.ku C=.gL:=k;rcases ok.free _ (qZ h.1) y with J|J<;>rw[show .ku C=_ from J]at k<;>cases k
  .rw[L]at T;cases T;exact#[c,D,z.keeps Q]
 .have e:.gX:=e;rcases B e with⟨D,_⟩|⟨_,z⟩;.obtain⟨w,z⟩:=I.cell C c D;exact#[w,z.keeps Q]
  grind
 .show H v.locals=e';rw[hL];exact .e2
 .have e:.gX:=e;rcases B e with⟨D,_⟩|⟨D,_⟩;.exact I.qz C c D
  .exact .ef (Nat.le_of_succ_le D)
 grind
theorem akK(I:.D)(f:H D=.eZ)(c:.ag<@Q)(r:.am C v)(h:∀p,.Y (.bu D (xs++[C])) p->Q .none p):.Q (call (.aj "list.append") [@h D,v]) Q E s:=by obtain⟨B,M,n,a,e⟩:=I.je D _ f;have L:=a.length;refine append_at (hsz:=.h) e λg sb k=>?_;refine h {s with heap:=g} (I.write (t':=s.toks) (by rw[f];trivial) .cS (λb u l q=>.pD b l q) #[_,k] #[.h,M++[v],n+1,a.append (.J r .nil),?_]);grind
def E8(X:Cx)(k:.eX)(t:TT):.n:=∀(pins:.aL)(s:iV)(σ:St)(H:Hp)(Q:.j6),.D->.ab Q->.Q (forIn k f' λc r=>if r=f' then do let ok<-isTrue c X.env (eval c X.env);pure (KJ ok)else pure (KJ r)) .sU .ao s
def QS:TT:=λ_ H Q=>Q f' H
theorem mh:E8 X [] QS:=λ_ _ _ H _ I h=>wpAny_tests_nil #[H,I,h]
theorem rX(h:PT X c t):E8 X [c] t:=λpins s σ H Q I p=>wpAny_tests_one .xG
theorem BN(h:.dQ t Q .pE s)(u:∀a s,Q a s->k a s):.dQ t k E s:=rQ h u @I
theorem adi(I:Nat->.dA)(L:∀n s,I n s->.ai (pyNext C) (λr a=>match r with
   |e'=>R (.ok .next) a|O v=>.ai (letOwnedTupleGo f C v) (λ_ g=>.ai (assign f env v) (λ_ k=>.ai (forIn l f' λc r=>if r=f' then do let ok<-isTrue c env (eval c env);pure (KJ ok)else pure (KJ r)) (λok q=>if ok=f' then .ai (.av u env) (λx t=>.ai (call (.aj "list.append") [acc,x]) (λ_ M=>∃m,m<n/\I m M) .mu t) .mu q else∃m,m<n/\I m q) .mu k) .mu g) .mu a) .mu s)(n:Nat)(h:I n s):.eS A (.compLoop .Dg 0 C acc env) R s:=by
 refine codeAny_loop y I (λn s J=>?_) n h;show wpAny _ A ((compTurn .Dg 0 C acc env).onRaise (λx=>do noteFrame x env;theTreesLotGoes x)) _ _ s;refine wpAny_noted ?_;rw[compTurn_list];refine iH (Sn (iH (rQ (L n s J) (λr a B=>?_) .mv)));cases r with
 |none=>exact i6 B|some v=>
  refine iH (rQ B (λ_ g U=>?_) .mv);refine iH (rQ U (λ_ k Y=>iH (rQ Y (λok q Q=>?_) .mv)) .mv);cases ok with
  |false=>exact i6 #[y,Q]|true=>exact iH (iH (rQ Q (λx t h₄=>iH (rQ h₄ (λ_ M h₅=>i6 (i6 #[y,h₅])) .mv)) .mv))
def JQ(p:TI)(g:TG)(w:TT)(f:TE)(a:@n):TE:=λσ H Q=>.b9 λJ B=>∀D,.gc->∃W:.gY,.gZ/\∀i m H,.ko->(.s5/\Q .mw H)\/(.l3/\∃c:.aq,.ti/\∀x L,.l4->g x (.aW a) L λl I=>.mx l a/\w l I λb h=>if b=f' then f l h λy T=>.rm T D c (acc++[y])else c h)
theorem YW{s:iV}{σ:St}{H:Hp}{Q:VK}{ac tg iter:.aB}{ae:.eX}{a:qM}{own:.g0}{af am:Pos}{wi:TI}{g:TG}{tt:TT}{te:TE}{ab:.E (iB->Sem Unit)}{Qf:.cX}(hc:.en)(hN:.gO)(I:.D)(hi:PI X tg iter wi)(ok:.kT a)(hg:∀(s:iV)(H:Hp)(C:U)(cl:.bY)(t:@D),PG .x3 tg g)(ht:∀(s:iV)(H:Hp)(C:U)(cl:.bY)(t:@D),E8 .x3 ae tt)(he:∀(s:iV)(H:Hp)(C:U)(cl:.bY)(t:@D),PE .x3 ac te)(hs:.s6)(h:JQ wi g tt te .km σ H Q)(an:∀D C p m L,.lR->Q .mw L->p.heap.Ns C m->.dv L C->.gx C (.ok .next) p):.Q (comprehension .x4 a .M am (newList []) ij (.av iter .M) ab) Qf .ao s:=by
 have ao:∀aa∈a.names,aa.2=.free->∃c,.cq aa.1=O c:=λaa hy e=>by
  rcases ok.free aa hy e with k|k;.exact I.ok.has _ (.n k)
  .exact I.ok.has _ (@n k)
 refine wpAny_comprehension_free (use:=ab) y hs (ae' ao) ok.kind (λaa hy e=>by rw[ok.uniq aa hy,e]) (iW (hi @t s σ H _ I h) λxv s1 hx=>iW hx λaF s2 h2=>?_);obtain⟨it,t,tn,J,w,e,I2,T,ai,f2,q⟩:=h2;subst e;refine vK (adW ?_) (.jA 0);generalize hD:s2.heap.objs.size=D;have ap:w D=e':=I2.je.fresh (SF hD);obtain⟨W,⟨m0,w0⟩,aq⟩:=q D ap;generalize ar:({s2 with heap:=s2.heap.push .x5}:iV)=Y;have I3:.Y .kq Y:=by rw[<-ar];refine I2.laid (t':=s2.toks) .bU (SF hD) #[.au,[],0,.nil,?_];rw[<-hD];exact .cG
 have h3:Y.heap=s2.heap.push .x5:=.h
 have sz:∀b∈t,b<s2.heap.objs.size:=λb l=>by obtain⟨o,e,_⟩:=.eR ai b l;ext af
 have B:∀b∈t,.dv .kq b/\b<.fG:=λb l=>by have au:=sz b l;refine#[#[?_,(f2 b l).2],by grind[uP]];rw[iC (by rw[<-hD];exact mT au)];exact(f2 b l).1
 have av:tn 0 Y.heap:=.fE ai .bU;have I4:=ad8 I3 ok hN B;have pg:=hg Y .kq .fG .pF t;have pt:=ht Y .kq .fG .pF t;have pe:=he Y .kq .fG .pF t;show codeAny _ _ (.compStart .x4 0 (@h it) .mw (.fN a .pF .fG .M)) (.gx .fG) .Dh;have aw:∀b∈t,(.kq) b=e':=λb l=>(B b l).1.1;generalize ax:.fN a .pF .fG .M=f at I4 pg pt pe⊢;have cL:f.locals=.fG:=by subst ax;rfl
 generalize aG:.kq=A at I3 I4 pg pt pe w0 aw B;generalize aH:(.Dh:iV)=s4 at I4⊢;have ay:tn 0 s4.heap:=.fE av (by grind[KA,kZ]);have ag:∀{σ':St}{L:Hp}{p:iV},Inv .mx [] σ' L p->.ph->∀b∈t,uF .mx [] L b:=λ{σ' L p}I' hn b l=>#[hn b l,(I'.ok.JV b l).1,I'.ok.EW b l,.n l,λx c e=>(I'.ok.JV b l).2 x c e,@E];have aj:codeAny (model .bI X.w) X.A (.compLoop .x4 0 (@h it) .mw f) (.gx .fG) s4:=by
  refine adi (λn p=>.ss L p tn i n) ?_ m0 .q;rintro n s5⟨i,M,I5,ak,n5,w5⟩;rcases aq i n M w5 with⟨stop,qq⟩|⟨go,Nx,az,step⟩
  .have td:=T.done .mx y y y hc i [] s5 _ M .pE I5 (ag I5 n5) ak stop;refine BN td λr s6#[hr,I6]=>?_;subst hr;have I7:.Y M s6:=I3.Z1 (ch:=t) I6.os I6.base I6.je I6.bare λb l=>#[(B b l).1.2.2.2.1,(B b l).1.2.1,(B b l).1.2.2.2.2.1,(B b l).1.2.2.2.2.2];have nC:M .fG=e':=by have z:M f.locals=e':=I6.free;grind
   obtain⟨m,hn,_⟩:=I6.loc;have hn:s6.heap.Ns f.locals m:=hn;rw[cL]at hn;exact an D .fG s6 m M I7 qq hn (I3.EV .ba nC)
  .have ti:=T.item .mx y y y hc i [] s5 _ M .pE I5 (ag I5 n5) ak go;refine BN ti λr s6#[u,hr,h6]=>?_;subst hr;refine BN h6 λ_ s7#[x,H7,I7,r7,y7,ah,n7]=>?_;have aA:=I7.pinned (ag I7 n7) (.eR ah);refine BN (pg _ s7 _ H7 x u _ aA r7 (step x H7 y7)) λ_ s8#[σ8,H8,I8,al,q8]=>?_;refine BN (pt _ s8 σ8 H8 _ I8 q8) λb s9#[H9,I9,q9]=>?_;have fin:∀{p:iV}{L:Hp},Inv .mx ([]++Ec t s7.heap) σ8 L p->Nx L->∃m,m<n/\.ss L p tn i m:=λ{p L}I' nx=>by
    obtain⟨m',hm,w'⟩:=az L nx;have aI:∀b∈t,∀o,s7.heap.get? b=O o->p.heap.get? b=O o/\L b=e':=λb l o e=>
     let z:=I'.pin (b,o) (by grind[Mb])
     #[z.1,z.2.1];have hl:(.aW .km).length=σ8.length:=by rw[<-al,Ly]
    refine#[m',hm,i+1,L,(I'.HE (pins:=[])).weak hl (λj v e=>?_),.fE ah .q,.h9,w'];.rw[<-al]at e;exact(MB e).1
    .obtain⟨o,e,_⟩:=.eR ah b l;grind
   cases b with
   |false=>grind|true=>simp only[if_true]at q9⊢;refine BN (pe _ s9 σ8 H9 _ I9 q9) λz aJ#[yv,aK,aB,aC,acc,aD,aE,nx]=>?_;exact akK (X:=X.pz Y A a f t) aB aD aE aC .q
 exact codeAny_compStart_list aj (T.self X.A 0 _ _ _ ay aj)
theorem lX(B:.en)(k:.gO)(p:PI X l iter r)(ok:.kT a)(u:∀(s:iV)(H:Hp)(C:U)(c:.bY)(t:@D),PG .x6 l g)(v:∀(s:iV)(H:Hp)(C:U)(c:.bY)(t:@D),E8 .x6 w tt)(A:∀(s:iV)(H:Hp)(C:U)(c:.bY)(t:@D),PE .x6 L te)(M:.s6:=by intro _;rfl):.H (.ListComp L [#[l,iter,w,0]] a aa) (JQ r g tt te .km):=by ext q;rw[eval_ListComp];refine YW B k I p ok u v A M h λD C J m Y T q hn f=>#[m,hn,λab sb=>?_];obtain⟨f0,f1,f2,f3,f4,f5⟩:=f;exact#[@h D,Y,T.turned (t':=J.toks) (λb o hb e=>.pD b hb e) f0 f1 f3 f4 f5,y,q]
theorem ue(B:.en)(v:.gO)(M:X.N[i]? =O k)(w:.ku k=.gL)(aa:swapsWith .Di (O (.Name k r)) ab.line .M=pure f')(hi:PI X l iter A)(ok:.kT c)(hg:∀(s:iV)(H:Hp)(C:U)(Q:.bY)(t:@D),PG .x7 l g)(ht:∀(s:iV)(H:Hp)(C:U)(Q:.bY)(t:@D),E8 .x7 p tt)(he:∀(s:iV)(H:Hp)(C:U)(Q:.bY)(t:@D),PE .x7 u te)(hs:.s6:=by intro _;rfl):PS X (.Assign [.Name k r] .Di ab) (zS (JQ A g tt te .km) (qR i)):=by
 ext Z;rw[exec_Assign_Name_used _ _ _ _ aa];refine iH (Sn (iH ?_));show wpAny _ X.A (do let _<-comprehension (.ListComp u [#[l,iter,p,0]] c T) c X.env (firstIterPos [#[l,iter,p,0]] T) (newList []) ij (eval iter X.env) (O (assign (.Name k r) X.env))) _ _ s;have h:JQ A g tt te .km σ H (λx J=>qR i x σ J D.nx):=h;refine iH (iW (YW (Qf:=λ_ s'=>SP X @t D .next s') B v I hi ok hg ht he hs h λL C s' m Y I' q hn f=>?_) (by grind[i6]));show .aw (assign (.Name k r) .M (@h L)) _ _ _;refine abO (Vg (v:=.ap L) I' v M (.n w) y (λs2 I2#[a,sb,ha]=>?_) (@n w));obtain⟨f0,f1,f2,f3,f4,f5⟩:=f;have ac:C≠a:=.h
 refine#[m,hn.sameBut sb ac,λh3 ae=>?_];exact#[_,Y,I2.turned (t':=s2.toks) (λb o hb e=>(ae.2 b hb).trans e) f0 f1 f3 f4 f5,q]
theorem ah3{lo:Int}{g:TG}{w:TT}{f:TE}{k:@n}{σ:St}{B:Hp}{D:U}{t:.aq}(Pv:Nat->.aq)(a:.x9)(r:∀i H,i<n->Pv i H->g .sX (.aW k) H λl I=>.mx l k/\.ya)(q:∀H,Pv n H->t H):∃W:.gY,.gZ/\∀i m H,.ko->((.j9).stop i H/\t H)\/((.j9).go i H/\∃c:.aq,.ti/\∀x L,(.j9).pq i H x L->.sg g x k L l):=by
 refine .Dk;rintro i m H⟨rfl,J,p⟩;by_cases s:i<n;.refine @n #[s,Pv .ah,λL v=>.s8,.s7];ext aS
 .have e:i=n:=.t
  subst e;exact .n #[.bV,q H p]
theorem OX{a:U}{g:TG}{w:TT}{f:TE}{k:@n}{σ:St}{B:Hp}{D:U}{t:.aq}(Pv:Nat->.aq)(Q:.x9)(r:∀i H,i<=.ag->Pv i H->.fA)(A:∀i x H,.fv->Pv i H->g x (.aW k) H λl I=>.mx l k/\.ya)(M:∀H,Pv .ag H->t H):∃W:.gY,.gZ/\∀i m H,.ko->(.xM/\t H)\/((ql K a).go i H/\∃c:.aq,.ti/\∀x L,.xN->.sg g x k L l):=by
 refine#[λi m H=>m=.ag-i/\i<=.ag/\Pv i H,.h,?_];rintro i m H⟨rfl,J,p⟩;have q:=r i H J p;by_cases s:i<.ag;.refine @n #[.CI,Pv .ah,λL v=>#[.ag-.ah,.t,y,s,v],.s7];ext aS
 .have e:i=.ag:=.t
  subst e;exact .n #[#[xs,q,.bV],M H p]
def aaq(N:.bX)(f a:qM)(own:.g0):.ab:=(match a.kind with|.function=>f'|_=>ij)&&(a.names.all λy=>.q (.eV y.1=O y.2))&&(own.all λp=>.q (N[p.2]? =O p.1))&&(a.names.all λy=>match y.2 with
   |.free=>(match .bR y.1 with|O .cell=>f'|O .free=>f'|_=>ij)|.local=>.Dl|.cell=>.Dl|_=>f')
theorem kr(h:aaq N f a own=f'):ED N f a own:=by
 unfold aaq at h;simp only[qr,xp,decide_eq_true_eq]at h;obtain⟨⟨⟨D,M⟩,r⟩,B⟩:=h;refine#[?_,M,r,λy m e=>?_,λy m e=>?_];.grind
 .grind
 grind
section
variable{κ:Type}[DecidableEq κ]
def jN(kvs:.eV)(k:κ):.aV:=(kvs.find? .tj).map .bC
def putK(kvs:.eV)(k:κ)(v:V):.eV:=
 if .tk=f' then .cu (.pW k v m)else kvs++[(k,v)]
theorem amr:jN ([]:.eV) k=e':=rfl
theorem qJ{p:κ×V}{r:.eV}(e:p.1=k):jN (p::r) k=O p.2:=by grind[jN]
theorem rW{p:κ×V}{r:.eV}(e:¬p.1=k):jN (p::r) k=jN r k:=by grind[jN]
theorem Nq(k:κ):∀kvs:.eV,.tk=(.ir).isSome
 |[]=>y|p::r=>by
  rw[yT];by_cases e:p.1=k;.grind[qJ]
  .rw[rW e,ir e,acN];exact Nq k r
theorem Tq(kvs:.eV)(k:κ)(v:V):(.kr).length<=.aN+1:=by grind[putK]
theorem A4{kvs:.eV}(v:V)(h:.ir=e'):.kr=kvs++[(k,v)]:=by grind[putK,Nq]
theorem pj.AY(r:pj o u):o.isSome=u.isSome:=by
 cases o with
 |none=>cases u with
  |none=>rfl
  |some _=>exact .kh r
 |some _=>cases u with
  |none=>exact .kh r
  |some _=>rfl
theorem pj.getD(r:pj o u)(c:.am d t):.am (o.getD d) (u.getD t):=by
 cases o with
 |none=>cases u with
  |none=>exact c
  |some _=>exact .kh r
 |some _=>cases u with
  |none=>exact .kh r
  |some _=>exact r
theorem KV.val{kvs:.eV}{g:@q (κ×iB)}(r:.dB)(k:κ):pj .ir (valueAt g k):=by
 unfold KV at r;induction r with
 |nil=>exact xG|@cons p q ps qs h t I=>
  obtain⟨D,M⟩:=h;by_cases e:p.1=k
  .have T:q.1=k:=D.symm.trans e;have b:valueAt (q::qs) k=O q.2:=by grind[valueAt]
   rw[qJ e,b];exact M
  grind[valueAt,rW]
theorem KV.any(r:.dB)(k:κ):.tk=g.any .tj:=by
 unfold KV at r;induction r with
 |nil=>rfl|cons h t I=>grind
theorem KV.QU(r:.dB)(k:κ)(B:.dV):KV (.cu (.pW k C m)) (g.map (.pW k u m)):=by
 unfold KV at r⊢;induction r with
 |nil=>ext ae|@cons p q ps qs h t I=>rw[j6,j6];refine .J ?_ I;grind
theorem KV.put(r:.dB)(k:κ)(B:.dV):KV (putK kvs k C) (stored g k u):=by
 unfold putK stored;rw[r.any k];by_cases e:(g.any .tj)=f';.rw[ip e,ip e];exact r.QU k B
 .rw[il e,il e];exact Paired.snoc r #[y,B]
theorem KV.length(r:.dB):.kf:=.cI r
end
theorem tL(r:.am (kV k) u):(.it).is k u=f':=by
 cases k with
 |inl i=>obtain⟨t,e⟩:=.CO;grind[adY]|inr x=>obtain⟨t,e⟩:=.CP;grind[adX]
theorem VW:∀{I:.ks}{us:.Y},.ac (I.map kV) us->ItemsAre .it I us
 |[],_,r=>by rw[Ld]at r;cases r;ext ae|k::I,_,r=>by
  rw[j6]at r;cases r with
  |cons h t=>exact .J (tL h) (VW t)
abbrev KT(H:Hp):.my->.j4->.n:=.cH λp q=>.B8
theorem KT.val{kvs:.my}{xs:.j4}(r:.pG)(k:.ks):pj .ir ((.tm).map .bC):=by
 induction r with
 |nil=>exact xG|@cons p q ps qs h t I=>
  obtain⟨D,_,M⟩:=h;by_cases e:p.1=k
  .have T:q.1=k:=D.symm.trans e;have b:atKey (q::qs) k=O q.2:=by grind[atKey]
   rw[qJ e,b];exact M
  grind[atKey,rW]
theorem KT.QU{xs:.j4}(r:.pG)(k:.ks)(B:.dV):KT H (.cu (.pW k C m)) (.a4 (putAt k u)):=by
 induction r with
 |nil=>ext ae|@cons p q ps qs h t I=>rw[j6,j6];refine .J ?_ I;grind[putAt]
theorem KT.put{xs:.j4}(r:.pG)(k:.ks)(l:H b=.pI)(B:.dV):KT H (putK kvs k C) (storedH xs k b u):=by
 have e:.tk=(.tm).isSome:=by rw[Nq,(r.val k).AY,Ao]
 unfold putK storedH;rw[e];by_cases q:(.tm).isSome=f';.rw[ip q,ip q];exact r.QU k B
 grind[Paired.snoc]
theorem KT.keeps{xs:.j4}(r:.pG)(v:∀b ys,H b=.jV ys->L b=.jV ys):KT L kvs xs:=by grind[Paired.EU]
theorem ZZ(ok:.cD)(e:Rd H a u):.b7 u:=e.ok ok
theorem vw(ok:.cD)(e:.mz):.xu:=
 show .b7 .c0 from ZZ ok e
theorem BH(ok:.cD)(e:.kt):.xu:=vw ok (.n e)
theorem zI(ok:.cD)(e:H a=.jV (I.map kV)):(.sQ).is h I a:=by obtain⟨_,M,r,o,D,c,n,f⟩:=(show .b7 (@L (I.map kV))from ok a _ e);exact#[o,.c8,n,D,c,f,by simpa using VW r]
theorem yi(ok:.cD)(e:Rd H a .io):.Dm:=by
 obtain⟨z,y,xs,r,o,f,ep,D,M,c,B,T⟩:=(show .b7 .io from ZZ ok e);refine#[z,y,xs,r,o,f,ep,D,M,c,B,.pJ,T];have u:∀{l:.my}{m:.j4},KT H l m->∀x∈m,(.sQ).is h x.1 x.2.1:=by
  intro l m q;induction q with
  |nil=>simp|@cons p q ps qs g t I=>grind[zI]
 grind
theorem alf(ok:.cD)(e:H a=O .io):.Dm:=yi ok (.n e)
def lZ(H:Hp)(a:U)(C:V)(r:.aV):.n:=(∃kvs k,.mz/\C=kV k/\r=.ir)\/∃kvs k b,Rd H a .io/\C=.b3/\H b=.pI/\r=.ir
def uG(H:Hp)(a:U)(C v:V)(L:Hp):.n:=(∃kvs k,.kt/\C=kV k/\.aN<@Q/\L=@z a (.dK .kr))\/∃kvs k b,H a=O .io/\C=.b3/\H b=.pI/\.aN<@Q/\L=@z a (.dT .kr)
theorem lZ.k{H:Hp}{a:U}{kvs:.aI}{k:Key}(e:.kt):lZ H a (kV k) .ir:=.n #[kvs,k,.n e,y,y]
theorem uG.k{H:Hp}{a:U}{kvs:.aI}{k:Key}{v:V}(e:.kt)(L:.aN<@Q):uG H a (kV k) v (@z a (.dK .kr)):=.n #[kvs,k,e,y,L,y]
theorem Inv.big(I:.D):sysModules<@L:=by have h:.g1<@L:=(I.mod.glob.keeps I.bk).lt;exact Lc .E h
theorem agM(M:.ku)(I:.D)(g:lZ H a C (O v))(B:.dV)(h:∀D q,.Y H q->.am v D->Q D q):.bT A (getItem .dC u) Q E s:=by
 ext aF;.subst f;obtain⟨z,r,t,m,x⟩:=.kv;obtain⟨D,c,T⟩:=.fG (o:=valueAt t k) (by rw[l];exact .g2);exact wpAny_getItem_of (tL B) x.mapOf c (h D _ .bH T)
 .subst f;cases(show u=jj b from B);obtain⟨z,r,xs,m,x⟩:=yi .bB e;obtain⟨D,c,T⟩:=.fG (o:=(.tm).map .bC) (by rw[l];exact .g2);obtain⟨p,y,J⟩:=.M c;refine wpAny_getItem_heap (Co M) (zI .bB w) x y ?_;rw[J];exact h D _ .bH T
theorem alO(M:.ku)(I:.D)(g:.pM)(B:.dV)(h:∀p,.mc->Q (.bool o.isSome) p):.bT A (.bn .In u .dC) Q E s:=by
 ext aF;.ext bp;refine wpAny_in_of (tL B) T x.mapOf ?_;rw[<-(.g2).AY,<-l];exact h _ .bH
 .ext aW;refine wpAny_in_heap (Co M) (zI .bB w) T x ?_;ext b1
theorem ajG(M:.ku)(I:.D)(g:.pM)(B:.dV)(h:∀p,.mc->Q (.bool (!o.isSome)) p):.bT A (.bn .NotIn u .dC) Q E s:=by
 ext aF;.ext bp;refine wpAny_notIn_of (tL B) T x.mapOf ?_;rw[<-(.g2).AY,<-l];exact h _ .bH
 .ext aW;refine wpAny_notIn_heap (Co M) (zI .bB w) T x ?_;ext b1
theorem IE(I:.D)(g:xf (H a))(w:vT a .O D)(c:∃q,.b6 a=O q)(C:.cK (@z a t) D a t):.Y (@z a t) .sT:=I.write (x:=a) (e:=a) g .cS (λb q l z=>(w.2 b l).trans z) c C
theorem Jm(z:.aN<=@Q)(T:.jN a)(m:.dB)(x:D.DictOf .it a g):lQ P w L D a .c0:=#[z,T,g,m,x]
theorem agL(M:.ku)(I:.D)(g:uG H a aa v H')(B:.am aa u)(t:.am v r)(h:∀p,.Y H' p->Q () p):.bT A (setItem .dC u r) Q E s:=by
 rcases g with⟨kvs,k,e,f,l,U⟩|⟨kvs,k,b,e,f,C,l,U⟩
 .subst f U;obtain⟨z,T,vs,m,x⟩:=BH .bB e;have Y:vs.length<=@Q:=.my m.length z
  have L:(.kr).length<=@Q:=by grind[Tq]
  refine wpAny_setItem_pairs (hsz:=Y) (tL B) x λD y w=>h _ ?_;have he:∃q,.b6 a=O q:=let#[q,_,_,J,_]:=y;#[q,J];exact IE I .pu w he (Jm L T (m.put k t) y)
 .subst f U;cases(show u=jj b from B);obtain⟨z,T,xs,m,x⟩:=alf .bB e;have Y:.fw:=by grind[Paired.length]
  have L:(.kr).length<=@Q:=by grind[Tq]
  refine wpAny_setItem_heap (hsz:=Y) (Co M) (zI .bB C) x λD y w=>h _ ?_;obtain⟨q,es,ep,J,h2,h3,h4,_,h5⟩:=y;refine IE I .pu w #[q,J] #[L,T,_,(m.put k C t).keeps λc ys ec=>?_,q,es,ep,J,h2,h3,h4,h5];ext M
theorem alg(I:.D)(e:.mz)(h:∀t p,.mc->Q (.h .aN t) p):.bT A (call (.aj "len") .dX) Q E s:=by obtain⟨z,T,g,m,x⟩:=.kv;refine call_len_dict T x (by rw[<-m.length];grind[FY]) ?_;rw[<-m.length];exact h _ _ .bH
def Q8(i:.aB):.n:=∀L l,.qm i L l
theorem Yg{H:kS}{w:jR}{A:oR}{s:iV}{env:oq}{l g:.aB}{a:Pos}{T id:.ep}{Q:.cX}(L:.C2)(f:Q8 g)(h:.ai (.av l env) (λo c=>.ai (.av g env) (λi k=>k.TypeIs o T/\.ai (getItem o i) Q E k) E c) E s):.ai (.av (.Subscript l g a) env) Q E s:=by
 refine T1 (rQ h (λo c B=>rQ B (λi k t=>?_) .sV) .sV);obtain⟨m,t⟩:=t;unfold subscriptTail;ext ah;rw[getitemInPython_of_ne m.not_modules];refine iH (R8 m L ?_);have fin:.ai (subscripted g ij o i) (λr q=>.ai (letTemporaryGo l o r>>=λ_=>pure r) Q E q) E k:=by rw[f o i];exact wpAny_operating (rQ t (by grind[iH,wpAny_letTemporaryGo,i6]) .sV)
 grind[i6,iH]
theorem ad5(I:.D)(g:.pM):.dz .dC "dict":=by
 rcases g with⟨kvs,k,e,_,_⟩|⟨kvs,k,b,e,_,_,_⟩;.obtain⟨_,_,c,_,x⟩:=.kv;exact x.typeIs
 .obtain⟨_,_,xs,_,x⟩:=yi .bB e;exact x.typeIs
def BB(p ty:TE):TE:=λσ H Q=>.b9 λx B=>ty σ B λy I=>∃a v,.cv/\lZ I a y (O v)/\Q v I
def EH(ty p:TE):TE:=λσ H Q=>ty σ H λy B=>p σ B λx I=>∃a o,.cv/\lZ I a y o/\Q (.bl o.isSome) I
def DP(ty p:TE):TE:=λσ H Q=>ty σ H λy B=>p σ B λx I=>∃a o,.cv/\lZ I a y o/\.pc Q (!o.isSome) I
def ak3(p ty M:TE):TS:=λD σ H=>M σ H λv B=>p σ B λx I=>ty σ I λy h=>∃a T,.cv/\uG h a y v T/\D.nx σ T
theorem qx(M:.j8 1)(k:.aR p)(t:.mA)(w:Q8 i):.H (.dS l) (BB p ty):=by ext q;refine Yg aaU.lookup w (.du λu m#[x,B,D,f,L]=>iW (t @t m σ B _ D L) λA C#[aa,J,c,U,a,v,r,g,q]=>?_);ext aX;exact#[ad5 c g,agM M c g U λw' s3 Y T=>#[v,J,Y,T,q]]
theorem Jf(M:.j8 1)(t:.mA)(k:.aR p):PC X .In i o (EH ty p):=by ext q;refine .Dn;ext aX;exact alO M c g v λY T=>#[.bl J.isSome,w,T,y,q]
theorem AV(M:.j8 1)(t:.mA)(k:.aR p):PC X .NotIn i o (DP ty p):=by ext q;refine .Dn;ext aX;exact ajG M c g v λY T=>#[.bl (!J.isSome),w,T,y,q]
theorem zx(M:.j8 1)(k:.aR p)(t:.mA)(L:.H l c)(w:.p5 l (.dS Q) T.line):PS X (.Assign [.dS Q] l T) (ak3 p ty c):=by ext Z;refine wpAny_Assign_Subscript (.fD λr m#[v,B,J,U,Y]=>iW (k @t m σ B _ J Y) λu f#[x,q,A,C,q2]=>iW (t @t f σ q _ A q2) λiv s3#[aa,H3,I3,ry,a,H4,ex,g,q3]=>?_) w;subst ex;obtain rfl:.h4:=C;exact agL M I3 g ry U λs4 I4=>#[σ,H4,I4,q3]
theorem XS(h:jo)(l:sysModules<.eh):lQ P w H (h.push .mt) .eh .d1:=#[.au,.h,[],.nil,acg h]
def ajT:TE:=λ_ H Q=>∀p,.dZ->.bU (.bt .d1)
theorem DE:.H (.Dict [] [] T) ajT:=λpins s σ H Q I h=>wpAny_Dict_empty #[.fF,_,.fI (o:=.dK []) (t':=s.toks) .bU .ba (XS .O I.big),y,h _ .e2]
def PF:@q (TE×TE)->St->Hp->(@q (V×V)->.aq)->.n
 |[],_,H,Q=>Q [] H|(a,M)::r,σ,H,Q=>a σ H λx B=>M σ B λy I=>PF r σ I λps h=>Q ((x,y)::ps) h
abbrev VV:@q (V×V)->@q (iB×iB)->.n:=.cH λp q=>.am p.1 q.1/\.am p.2 q.2
def JZ(X:Cx)(T:Pos)(k:@q (.E .aB))(v:.eX)(t:@q (TE×TE)):.n:=∀(pins:.aL)(s:iV)(σ:St)(H:Hp)(Q:@q (V×V)->.aq),.D->PF t σ H Q->.Q (evalPairs (pairTrees k v .M T)) (λg p=>∃ps L,.lR/\VV ps g/\Q ps L) .ao s
theorem Iv:JZ X T [] [] []:=λpins s σ H Q I h=>pairTrees_nil_walk #[[],H,I,.nil,h]
theorem DD(hk:.H k a)(L:.H v M)(c:JZ X T l g t):JZ X T (O k::l) (v::g) ((a,M)::t):=λpins s σ H Q I h=>pairTrees_cons_walk (iW (hk @t s σ H _ I h) λu m#[x,B,D,f,p]=>iW (L @t m σ B _ D p) λw2 r#[y,J,U,Y,q]=>iW (c @t r σ J _ U q) λws s3#[ps,w,A,C,q3]=>#[(x,y)::ps,w,A,.J #[f,Y] C,q3])
def oG(kvs more:.aI):.aI:=more.foldl (λacc m=>putK acc m.1 m.2) kvs
theorem KV.merge:∀{more:.aI}{rs:.kw}{kvs:.aI}{g:.kw},KV more rs->.dB->KV .tn (merged g rs):=by
 intro more rs kvs g r;unfold KV at r;induction r generalizing kvs g with
 |nil=>intro q;exact q|@cons p q ps qs h t I=>
  intro C;have e:KV (putK kvs p.1 p.2) (stored g q.1 q.2):=by have:=C.put p.1 h.2;grind
  exact I e
theorem FO:∀(more kvs:.aI),(.tn).length<=.yc
 |[],kvs=>by show .aN<=.aN+0;omega|p::r,kvs=>by have D:=FO r (putK kvs p.1 p.2);grind[oG,putK]
theorem U0{P:kS}{w:jR}:∀{kvs:.aI}{f:@q (iB×iB)},VV (.cu λm=>(kV m.1,m.2)) f->∃rs,Carries .it f rs/\KV kvs rs
 |[],_,r=>by rw[Ld]at r;cases r;exact#[[],xG,.nil]|p::kvs,_,r=>by
  rw[j6]at r;cases r with
  |@cons a b as k h t=>obtain⟨rs,c,q⟩:=U0 (P:=P) (w:=w) t;obtain⟨l,g⟩:=b;exact#[(p.1,g)::rs,#[tL h.1,y,c],.J #[y,h.2] q]
def akX(t:@q (TE×TE)):TE:=λσ H Q=>∀p,.dZ->PF t σ (.bt .d1) λps I=>I p=O .d1/\∃kvs:.aI,ps=.cu (λm=>(kV m.1,m.2))/\.aN<=15/\.bU (.pm I p (oG [] kvs))
theorem Iy(h:JZ X T k v t)(C:k.all (·.isSome)=f')(L:.dd=.d2)(a:k≠[])(B:.dd<=15):.H (.Dict k v T) (akX t):=by
 intro pins s σ H Q I q;have f:=.ef (jw @L);have D:=.fI (o:=.dK []) (h':=.iq) (t':=s.toks) .bU .ba (XS .O I.big);refine wpAny_Dict_walk (knd:=.kx) C L a B (iW (h @t _ σ _ _ D (q _ f)) λws s2#[ps,H2,r,m,e,kvs,ep,lk,u]=>?_);subst ep;obtain⟨rs,c,M⟩:=U0 (P:=X.prog) (w:=X.w) m;obtain⟨z,J,aa,U,x⟩:=BH r.je e;cases U;refine#[rs,c,x,λY l w=>#[.fF,_,?_,y,u]];have g:.Do:=by grind[FO,FY]
 have p:∃q,Y.get? @L=O q:=let#[q,_,_,A,_]:=l;#[q,A];exact IE r .pu w p (Jm g J (M.merge .nil) l)
structure M1(X:Cx)(o:Expr)(m:iA)(apos:Pos)(e:Expr)(wR:Pos):Prop where
 base:attributeBase o m X.env (eval o X.env)=eval o X.env
 uI:((backTo wR (starEach [e] X.env)).all (λx=>!x.1)&&(backToKw wR (keywordEach [] X.env)).all (λx=>x.1.isSome)&&decide (([e]:List Expr).length+([]:List DN).length+(if([]:List DN).isEmpty then 0 else 1)<30))=f'
 line:(apos.endLine==wR.line)=f'
 trees:backTo wR (starEach [e] X.env)=[(ij,eval e X.env)]
structure M2(X:Cx)(o:Expr)(m:iA)(apos:Pos)(e f:Expr)(wR:Pos):Prop where
 base:attributeBase o m X.env (eval o X.env)=eval o X.env
 uI:((backTo wR (starEach [e,f] X.env)).all (λx=>!x.1)&&(backToKw wR (keywordEach [] X.env)).all (λx=>x.1.isSome)&&decide (([e,f]:List Expr).length+([]:List DN).length+(if([]:List DN).isEmpty then 0 else 1)<30))=f'
 line:(apos.endLine==wR.line)=f'
 trees:backTo wR (starEach [e,f] X.env)=[(ij,eval e X.env),(ij,eval f X.env)]
def Rn(H:Hp)(a:U):.n:=(∃kvs,.mz)\/∃kvs,Rd H a .io
theorem ZI(I:.D)(d:Rn H a):.dz .dC "dict"/\(∀b,jj a=.b3->∃t,.ah b=O t/\t.dict=e')/\.jN a:=by
 rcases d with⟨kvs,e⟩|⟨kvs,e⟩;.obtain⟨_,T,g,_,x⟩:=.kv;ext b2
 .obtain⟨_,T,xs,_,x⟩:=yi .bB e;ext b2
theorem akJ(M:.ku)(I:.D)(g:.pM)(B:.dV)(h:∀D p,.mc->.am (o.getD .iM) D->Q D p):.bT A (call (.aj "dict.get") [.aX,u]) Q E s:=by
 ext aF;.ext bp;refine .fO (meets_dict_get .et a (tL B) T) .Dp;rw[l];exact(.g2).getD y
 .ext aW;refine .fO (meetsH_dict_get (tupleKind .et) a b T) .Dq;rw[l];exact(.g2).getD y
theorem akI(M:.ku)(I:.D)(g:.pM)(B:.dV)(c:.am d r)(h:∀D p,.mc->.am (o.getD d) D->Q D p):.bT A (call (.aj "dict.get") [.aX,u,r]) Q E s:=by
 ext aF;.subst f;obtain⟨z,T,q,m,x⟩:=.kv;refine .fO (meets_dict_get_default .et a (tL B) T r) .Dp;rw[l];exact(.g2).getD c
 .ext aW;refine .fO (meetsH_dict_get_default (tupleKind .et) a b T r) .Dq;rw[l];exact(.g2).getD c
def Zo(p ty:TE):TE:=λσ H Q=>.b9 λx B=>∃a,.cv/\Rn B a/\ty σ B λy I=>∃o,lZ I a y o/\Q (o.getD .iM) I
def Zn(p ty c:TE):TE:=λσ H Q=>.b9 λx B=>∃a,.cv/\Rn B a/\ty σ B λy I=>c σ I λz h=>∃o,lZ h a y o/\Q (o.getD z) h
theorem Xf(M:.j8 1)(k:.aR p)(w:.ao ty)(m:M1 X o "get" t e C):.H (.gy [e] [] C) (Zo p ty):=by ext q;refine .gz (.du λu J#[x,B,D,f,a,r,d,L]=>?_);ext aX;obtain⟨c,v,_⟩:=ZI D d;refine#[c,v,?_];rw[m.trees];refine Cb y (Fl (uL (iW (w @t J σ B _ D L) λiv s2#[aa,U,Y,l,ov,g,q]=>vM ?_)));exact akJ M Y g l λw' s3 A T=>#[_,U,A,T,q]
theorem Xe(M:.j8 1)(k:.aR p)(c:.ao ty)(l:.H f B)(m:M2 X o "get" t e f C):.H (.gy [e,f] [] C) (Zn p ty B):=by
 ext q;refine .gz (.du λu J#[x,U,D,Y,a,r,d,L]=>?_);subst r;obtain rfl:.h4:=Y;obtain⟨q,v,_⟩:=ZI D d;refine#[q,v,?_];rw[m.trees];refine Cb y (Fl (uL (iW (c @t J σ U _ D L) λiv w#[ab,A,T,ry,q2]=>uL (iW (l @t w σ A _ T q2) λfv s3#[z,H3,I3,rz,ov,g,q3]=>vM ?_))));exact akI M I3 g ry rz λw' s4 I4 aa=>#[_,H3,I4,aa,q3]
theorem aiq(I:.D)(e:.mz)(h:∀p c,.dZ->.Y (.bt .c0) c->.bU c):.bT A (call .ky .dX) Q E s:=by obtain⟨z,T,f,m,x⟩:=.kv;refine kt_call_dict T x (.my m.length z) λD l w=>?_;refine h _ _ .e2 (.fI (o:=.dK kvs) (t':=s.toks) (λb q g=>?_) .ba (Jm z (.fy (my (mT I.big))) m l));exact(w.2 b (mT (jZ g))).trans (kZ _ g)
theorem acz:typeLookup .dU "keys"=pure e':=.Q
theorem Wm:.fP "dict.update.loop"=O Builtin.«dict.update.loop»:=.Dr
theorem Dx:plainId "dict.update.loop"=f':=.iu
theorem ago{xs:.gT}(v:.ah a=O o)(B:o.cls=.dU)(C:.e0=.seq xs k)(T:o.dict=e')(q:.dY)(h:∀D x,(∀b t,.ah b=O t->.h6=O t)->Q e' .ka):.ai (getAttr? .dC "keys") Q E s:=by
 obtain⟨c,Y,p,M⟩:=o;simp only at B C T;subst B C T;obtain⟨J,g,d,x,os⟩:=s;have m:∀u,(#[J,g,d,u,os]:iV).TypeIs .dC "list":=λ_=>#[_,v,y];have f:=acz;have l:(["__module__","__name__","__qualname__","__doc__","__annotations__"]:.bX).contains "keys"=ij:=.Q
 have U:("keys":iA).length+100<=@Q:=by first|size_fits|decide+kernel
 have r:=sub_AttributeError;have L:=Ro.lookup;have f4:=Ro.bind .dC;have f5:=am_list_getattr_none;unfold getAttr? getAttrBy? getAttrBy;repeat(any_goals(first|assumption|exact m _|((with_reducible show .aw (call (Value.builtin "list.__getattribute__") _ _) _ _ _);refine GG Ro (m _) am_entry_list_getattribute .z (meets_getattribute_miss_list a xs k M "keys" _ f l U) #[v,q,λD u e I=>?_])|wp_step))
 obtain⟨t',u',he⟩:=I.there;show .aw (getattributeRaised _ _ _ _ _ _ _) _ _ _;unfold getattributeRaised;ext aY
 all_goals first|exact h _ _ I.keeps|(ext h;repeat(any_goals(first|assumption|exact h _ _ I.keeps|wp_step)))
theorem Wl(f:.dY)(H:l≠I)(h:S≠I)(r:S≠l):∀(C:.kw)(i:Nat)(acc:.kw)(a:Int)(t:Tok)(s:iV),items.size=i+.pm->.kz+.pm<=@Q->(∀(j:Nat)(q:.pO),C[j]? =O q->∃(b:U)(u:iB),items[i+j]? =.ja b/\b≠S/\b≠I/\.yd)->s.heap.IsListIter I l i->.gs items->s.heap.DictOf (kg prog w) S acc->(∀D x,D.DictOf (kg prog w) S (merged acc C)->(∀b o,b≠S->b≠I->.pa)->R (.ok (.ret res)) .ka)->codeAny (model prog w) A (.aj "dict.update.loop" #[[@h S,@h I,.h a t,res],[]]) R s
 |[],i,acc,a,t,s,B,T,v,g,L,M,Q=>by refine yJ Wm ?_;rw[Am Dx _];show .np I s;refine iH (abd (A:=A.in1) f g L .q λD he=>?_);show .dA (Builtin.Dict.addKeywords S []>>=_) _ _ _;refine iH (i6 .cH);exact Q D .dW (M.extBut he h) λb o _ hb e=>he b o hb e|q::C,i,acc,a,t,s,B,T,v,g,L,M,Q=>by
  obtain⟨b,u,hb,an,ac,ae,hk⟩:=v 0 q y;rw[lH]at B T;refine yJ Wm ?_;rw[Am Dx _];show .np I s;refine iH (aa6 (x:=.b3) g L @h λY af p=>?_);have ag:zP Y b (.a6 [u,q.2]):=ae.extBut p.extBut ac;have ah:Y.IsList l items:=L.extBut p.extBut H;have ai:Y.DictOf (kg prog w) S acc:=M.extBut p.extBut h;obtain⟨o,ho,hc,n,hd⟩:=id ag;show .dA (holding [jj b] _>>=_) _ _ _;refine iH (sT ?_);refine iH (wpAny_tryCatch ?_);unfold Builtin.Dict.pairItems;refine iH (K6 (T:="tuple") #[o,ho,hc] ?_);rw[.Ds];refine iH (Sg ho hd .cH);show .dA (holding [u,q.2] (dictSet S u q.2)) _ _ _;refine sT (wpAny_dictSet_pairs (knd:=kg prog w) (k:=q.1) hk ai (λh2 aj J=>?_) @h);refine i6 #[CJ Dx _,Wl (items:=items) f H h r C .ah (stored acc q.1 q.2) (a+1) 0 _ (show items.size=i+1+.pm by omega) ?_ (λj q' e=>?_) ?_ ?_ aj λD x ak k=>?_];.grind[stored_length_le]
  .obtain⟨b',u',ao,aa,ab,al,am⟩:=v .bK q' (.j0 e);refine#[b',u',?_,aa,ab,(al.extBut p.extBut ab).extBut J.extBut aa,am];grind
  .exact af.at λo' e=>J.extBut I o' (my h) e
  .exact ah.extBut J.extBut (my r)
  .exact Q D x ak λc m h3 h4 e=>k c m h3 h4 (J.extBut c m h3 (p.extBut c m h4 e))
theorem ack(p:.dY)(L:.ah l=O t)(B:t.cls=.dU)(hd:t.dict=e')(C:t.data=.seq f n)(ae:.a5=E3.length)(af:E3.length<=@Q)(ht:∀(j:Nat)(q:.pO),E3[j]? =O q->∃(b:U)(u:iB),f[j]? =.ja b/\.yd)(h:∀a x,a.DictOf (kg H w) @L (merged [] E3)->(∀b o,.cE->a.get? b=O o)->Q .db (.ph s a x)):.ai (call .ky [.cw]) Q E s:=by
 refine callType_codes (Q₁:=λJ c=>J=.fF/\c={s with heap:=.iq}) PySem.F.kt_called_dict .z PySem.F.entry_dict_init (kt_code_dict_new _ #[y,y]) ?_;rintro J c⟨rfl,rfl⟩;have m:(.iq).DictOf (kg H w) @L []:=acg .O;have M:∀b o,.cE->(.iq).get? b=O o:=.to
 refine#[m.typeIs,.Q,?_];unfold Builtin.«dict.__init__»;ext ah;unfold Builtin.Dict.selfAndRest;refine iH (abe m.typeIs ?_);show .aw (pure (s.heap.objs.size,[jj l])) _ _ _;refine .cH;show .aw (aa5 "dict.__init__" @L .d0 [] .none) _ _ _;unfold aa5;refine iH (K6 (T:="list") #[t,M _ _ L,B] ?_);rw[.Ds];refine iH (ago (M _ _ L) B C hd p λD aa T=>?_);rw[ip (show(e':.E iB).isNone=f' from y)];refine iH (wpAny_rule ?_);have Y:D.IsList l f:=#[t,.pd T M L,B,n,C];have g:@L<.mB:=by have e:(.iq).get? @L=O .mt:=.cG;exact jZ (T _ _ e)
 refine iH (Kp Y ?_);have v:∀b o,.h7->(D.push .x1).get? b=O o:=.to
 have ab:l<@L:=jZ L;have I:=Wl (prog:=H) (w:=w) (A:=A.in1) (R:=wants (λr s₂=>r=.none/\Q .db s₂) E) (S:=s.heap.objs.size) (I:=D.objs.size) (l:=l) (items:=f) (res:=pX) p .q (mT g) (yV ab) E3 0 [] 0 0
  {s with heap:=D.push .x1,toks:=aa} @h .q (λj q e=>by obtain⟨b,u,e1,e2,e3⟩:=ht j q e;have hb:b<@L:=e2.lt;exact#[b,u,.h,mT hb,.h,e2.keeps .q,e3]) .es (Y.at λo e=>v _ _ e) ((m.at λo e=>T _ _ e).at λo e=>v _ _ e) (λa x ac k=>#[y,h a x ac λb o e=>k b o (mT .h8) (mT (Lc .h8 g)) .q]);first
  |exact i6 #[CJ Dx _,I]|exact iH (i6 (i6 #[CJ Dx _,I]))
theorem Xg(I:.D):∀{ps:@D}{kvs:.aI},.Dt->∃w:.kw,KV kvs w/\.bJ=.bh/\∀(j:Nat)(q:.pO),w[j]? =O q->∃(b:U)(u:iB),.mF j b/\.yd
 |_,_,.nil=>#[[],.nil,y,@E]|_,_,.cons (a:=p) (b:=m) h t=>by
  obtain⟨w,r,L,Q⟩:=Xg I t;obtain⟨M,a,v,_⟩:=.bS h;obtain⟨u,C,l,k,B⟩:=vals2 a;subst l;refine#[(m.1,C)::w,.J #[y,B] r,.h,λj q e=>?_];cases j with
  |zero=>have T:(m.1,C)=q:=pD e;subst T;exact#[p,u,y,v,tL (P:=X.prog) (w:=X.w) k]|succ j=>grind
theorem Yz:.Du
 |[],us,r=>by rw[Ld]at r;ext ad|p::ps,us,r=>by
  rw[j6]at r;cases r with
  |cons h t=>cases h;rw[j6,<-Yz t]
theorem My(h:.en):sx X .ky (λxs H Q=>∃(a:U)(ps:@D)(kvs:.aI),xs=.dX/\.dR a .eu/\.Dt/\∀p,.dZ->.bU (.bt .ye)):=by
 intro pins s σ H xs us Q I r q;obtain⟨a,ps,kvs,J,g,Y,q⟩:=q;subst J;obtain⟨u,f,l⟩:=.mr;subst f;cases l;obtain⟨ac,t,x,c⟩:=.aQ g;have A:=Yz t;subst A;rw[i0]at c;obtain⟨w,v,L,ae⟩:=Xg I Y;obtain⟨o,n,B,C,T,D⟩:=x;refine ack (E3:=w) (I.ok.hd h) B C T D (by simp[L]) @h (λj q' e=>?_) λh' M aa k=>?_;.grind
 .have hm:(@L==sysModules)=ij:=.fy (yV I.big);have ab:.Do:=by refine ja (FO kvs []) ?_;rw[yM,AB,v.length,L];exact c
  exact#[.fF,.dU .ye,I.laid (t':=M) k .ba (show .cK _ _ _ .ye from#[ab,hm,merged [] w,KV.merge v .nil,aa]),y,q _ .e2]
theorem acB:.b8 "reversed"=O (.af "reversed"):=.Q
theorem Inv.U8{ch:@D}(I:.D)(k:∀b o,b∉ch->.pa)(Q:∀b∈ch,.dv H b)(g:@L<=T)(C:.cK (@z T t) D T t):.Y (@z T t) .sT:=by
 have f:H T=e':=.ef g;have a:∀b u,H b=O u->b∉ch:=λb u e z=>by have q:=(Q b z).1;grind
 refine .gh (ch:=ch) (λb l=>#[(Q b l).2.2.2.1,(Q b l).2.1,(Q b l).2.2.2.2.1,(Q b l).2.2.2.2.2]) .q (λb o _ _ B e _=>#[o.slots,k b o B e]) (λb o _ e n=>?_) .q (λb xs e=>?_) (λb o u e=>?_) (λb ps e=>#[.cU,?_]) (λm M=>?_) (λb u e=>?_) .c9;.rw[iC (mT (oN .h8 g))];exact n
 .ext M
 .ext M
 .ext M
 .obtain⟨o,h,ep,p,r⟩:=M;exact#[o,h,ep,k _ o (λz=>(Q _ z).2.1 y) p,r]
 .by_cases l:b=T;ext ac
  .rw[iC l]at e;refine .hk (λc q=>.m4 q f) λc xs q=>.m4 q f
   rcases B with z|z;.rw[z];exact a b u e
   .exact a c _ z
theorem Inv.lock(I:.D)(h:H d=O u)(g:.o7):∃od,.Y (@z d (.iT od u)) s:=by
 have x:=I.je d u h;have r:∃od,.ah d=O od:=by
  cases u with
  |lst xs=>obtain⟨_,_,_,_,e⟩:=x;grind|dK kvs=>ext aM;grind|dT kvs=>ext aM;grind|set S n=>obtain⟨o,_,_,_,e,_⟩:=x;grind|ins C l w=>obtain⟨_,_,_,e,_⟩:=x;grind|ext φ=>obtain⟨_,⟨_,e⟩,_⟩:=x;grind|_=>exact sU g
 obtain⟨od,e⟩:=r;have a:.cK (@z d (.iT od u)) .O d (.iT od u):=by
  refine#[e,x.vz (λb v _ q=>q) (λb q=>?_) λb xs q=>?_];.rw[.Dv];exact q
  .rw[.Dv];exact q
 exact#[od,I.write (x:=d) (e:=d) (t':=s.toks) (h':=s.heap) .q .cS (λb v _ q=>q) #[od,e] a]
theorem Inv.Ex(I:.D)(h:H d=O u)(g:.o7):.Dw:=λa T e=>by have q:=I.base.vD d a T e;rw[h]at q;cases q;exact g
theorem Inv.unlock(I:.D)(h:H d=O (.iT t u))(f:.Dw):.Y (@z d u) s:=by
 have g:∀b o,.cn->(∀a T,o≠.iT a T)->b≠d:=.h
 have neN:∀b,.be->b≠d:=.h
 refine#[I.ok,I.os,.c9,#[I.base.keep,I.base.slot,λb o e n k=>?_,I.base.there,λb xs e=>?_,λb o x e=>?_,λb ps e=>?_],I.loc,I.cell,?_,λx c e=>?_,λp Q=>?_,.cx,I.len];.rw[iC (neN b (.dO e n k))];exact .dO e n k
 .have q:=I.base.yo b xs e;ext M
 .have q:=I.base.vD b o x e;ext M
 .obtain⟨m,q⟩:=I.base.yp b ps e;ext M
 .rw[iC (neN _ .ej)];exact I.free
 .rw[iC (neN c .o9)];exact .o9
 .obtain⟨e,n,r⟩:=.cr Q;ext M
 .by_cases l:b=d;.rw[l,iG]at e;cases e;rw[l];obtain⟨_,x⟩:=I.je d _ h;exact x.vz (λc v _ q=>q) .Z .Z
  .rw[iC l]at e;exact(I.je b o e).vz (λc v _ q=>q) .Z .Z
def akW(t:TS):TS:=λD σ H=>∃d u,H d=O u/\.o7/\∀l,t #[λr L=>.pP/\D.nx r .mD,λv L=>.pP/\D.rt v .mD,λr L=>.pP/\D.bk r .mD,λr L=>.pP/\D.ct r .mD] σ (@z d (.iT l u))
def ajS(t:TE):TE:=λσ H Q=>∃d u,H d=O u/\.o7/\∀l,t σ (@z d (.iT l u)) λv L=>.pP/\Q v .mD
theorem xU(h:PS X st t):PS X st (akW t):=by
 intro pins s σ H D I p;obtain⟨d,u,T,g,p⟩:=p;obtain⟨l,k⟩:=I.lock T g;refine iW (.fQ _ _ k (p l)) λf m q=>?_;cases f with
 |next=>ext bq|brk=>ext bq|cont=>ext bq|ret v=>obtain⟨x,a,L,c,r,e,q⟩:=q;exact#[x,a,_,c.unlock e (I.Ex T g),r,q]
theorem DV(h:.ao t):.ao (ajS t):=by ext aN;obtain⟨d,u,T,g,p⟩:=p;obtain⟨l,D⟩:=I.lock T g;refine iW (.fQ _ _ D (p l)) λv m#[x,B,c,r,A,q]=>?_;exact#[x,_,c.unlock A (I.Ex T g),r,q]
theorem zF(I:.D)(o:jA)(T:Turn .bI X.w X.K l k [@L] @L a)(st:a 0 (.a8 o))(q:R k H):.eP l R .db {s with heap:=.a8 o,toks:=tk}:=by
 refine#[@L,[@L],a,k,H,y,I.kept .bU,T,st,λb c=>?_,q];have e:b=@L:=.h
 subst e;exact I.EV .ba .e2
def J5(K:jd)(a:U)(n:Nat):It:=#[λi H=>i<n/\∃(xs:.L)(x:V),.fA/\xs[n-1-i]? =O x,λi H x L=>L=H/\∀xs,.fA->xs[n-1-i]? =O x,λi _=>n<=i]
theorem agY(a C:U)(n:Nat):.c5 tg (J5 K a n) [C] C (λi h=>i<=n/\h.IsRevIter C a (.aY-1-.ii))where
 mem:=@E
 obj:=λi h st b l=>by
  ext ao
  subst e;obtain⟨_,o,e,c,d⟩:=st;grind
 keep:=λi h D st k=>#[st.1,st.2.at .q]
 item:=by
  ext aQ;obtain⟨A,xs,x,hq,hx⟩:=q;obtain⟨aa,rv,p,hz⟩:=.aQ hq;obtain⟨u,hu,ru⟩:=rv.get hx;ext aR;obtain⟨_,g⟩:=st;have t:.aY-1-(.ii:Int)=((n-1-i:Nat):Int):=.t
  rw[t]at g;refine wpAny_pyNext_rev_item g p.isList (x:=u) .q λD v sb=>?_;have e2:((n-1-i:Nat):Int)-1=.aY-1-((i+1:Nat):Int):=.t
  rw[e2]at v;have I1:.gU:=.CD;obtain⟨o,e,c,d⟩:=id v;exact .sd u e c d #[x,H,I1,ru,#[y,λys hy=>by rw[I.Xp hy hq];exact hx],#[A,v],.l0]
 done:=by
  ext aQ;ext aR;obtain⟨A,g⟩:=st;have ab:n<=i:=q;have t:.aY-1-(.ii:Int)=-1:=.t
  rw[t]at g;exact wpAny_pyNext_rev_end .eo g .CE
 self:=by grind[abj]
def alL(K:jd)(t:TA):TI:=λσ H R=>.ab λg B=>∃(a:U)(xs:.L),g=.dX/\.s2/\R (J5 K a .ag) B
theorem Td(f:Gl X "reversed")(k:X.mg "reversed"=e')(u:PA X [e] t)(w:.kA=[.fE]:=by rfl):PI X l (.an (.Name "reversed" p) [e] [] T) (alL X.K t):=by
 ext an;refine Call_ (uj I f k acB (Ai (iW (u T @t s σ H _ I h) λus m#[Q,B,D,r1,L]=>?_) w y));obtain⟨a,xs,e,g,q⟩:=L;subst e;cases r1 with
 |cons r v=>
  cases v;cases r;obtain⟨M,x,J,c⟩:=D.list g;have U:=x.length;have C:.Dx=(xs.length:Int)-1-.pf:=.h
  refine call_reversed_list J.isList (abj (l:=a) (i:=.Dx) .es ?_);refine .dV D _ (agY a _ .ag) #[.au,?_] q;rw[<-C];exact .es
def Rm(x:iA):It:=#[λi _=>i<x.cps.size,λi H v L=>L=H/\∃c,x.cps[i]? =O c/\v=.im,λi _=>x.cps.size<=i]
theorem Wo(C:U)(x:iA)(t:Tok)(ty:.ep)(g:ty="str_ascii_iterator"\/ty="str_iterator"):
  .c5 tg (Rm x) [C] C .Dy where
 mem:=@E
 obj:=λi h st b l=>by
  ext ao
  subst e;obtain⟨o,e,c,d⟩:=st;grind
 keep:=λi h D st k=>let#[o,ho,r]:=st;#[o,k C @I o ho,r]
 item:=by
  ext b3;have W:Walks .bI X.w X.A C [C] [C] x.cps.size (SignAt x) .Dy:=by
   rcases g with e|e;.rw[e];exact Walks.strAscii .eo C x t
   .rw[e];exact Walks.strWide .eo C x t
  have ab:.hn ty=ij:=.h
  refine W.item i s _ _ q st λv D A hv aa kk=>?_;obtain⟨c,u,ac,rfl⟩:=hv;have I1:.Y H (.ph s D A):=I.turned .q m J L T M;obtain⟨oi,e,cc,dd⟩:=id aa;exact#[_,y,zQ (s:=.ph s D A) e cc dd ab #[.im,H,I1,#[u,y],#[y,c,ac,y],aa,.l0]]
 done:=by
  ext b3;have hx:x.cps[i]? =e':=Ru q;rcases g with e|e;.rw[e]at st;exact wpAny_pyNext_ascii_end .eo st hx .Dz
  .rw[e]at st;exact wpAny_pyNext_wide_end .eo st hx .Dz
 self:=by grind[wpAny_pyIter_striter_ascii,wpAny_pyIter_striter_wide]
def alK(f:TE):TI:=λσ H R=>.c3 λv B=>∃x,v=@I x/\R (Rm x) B
theorem aj8(a:.ao f):PI X l e (alK f):=by
 ext an;refine .c4 λv m#[C,B,D,r1,x,r,q]=>?_;subst r;ext aP;cases p:x.cps.all (·<128);.exact wpAny_pyIter_wide p (.dV D _ (Wo _ x t "str_iterator" (@n y)) .es q)
 .exact wpAny_pyIter_ascii p (.dV D _ (Wo _ x t "str_ascii_iterator" .cS) .es q)
theorem Dq(T:.jN d)(k:.gd)(B:.lN)(C:.mF)(u:Q .db {s with heap:=.mG}):.DA:=by have m:.dz .aD "dict":=#[o,k,B.1];refine Ko m ab' (uN ab' m F.entry_dict_iter ?_ (F.args_dict_iter_1 _));unfold Builtin.«dict.__iter__»;ext ah;unfold Builtin.Dict.dictSlotNone;refine iH (abe m ?_);show .aw (pure (jj d)) _ _ s;refine .cH;show .aw (abi d>>=_) _ _ s;unfold abi;rw[il (by rw[T];exact nE)];ext aq;refine iH (Fo k C ?_);refine iH (FC k C ?_);refine iH (vK (i6 #[_,y,"dict_keyiterator",_,#[_,.cG,y],vH.lookup,?_]));grind[rawInt]
theorem acR(g:.tp)(r:.ah d=O l)(L:.pQ)(a:.a5=n)(v:f[i]? =O I)(u:∀D,.DB->vT C .O D->Q (O I.key) .em):.DC:=by
 ext b4
 ext a2
 ext a3;ext a4;obtain⟨p,m⟩:=BY.mp v;ext b5;ext ar
 ext b6;refine .mL k T;ext b7
theorem SU(p:.dY)(g:.tp)(r:.ah d=O l)(L:.pQ)(a:.a5=n)(v:n<=i)(u:∀D,SY C .O D->Q e' .em):.DC:=by
 ext b4
 ext a2
 ext a3;ext a4;have h:.a5<=i:=.t
 ext b8;ext ar
 show .DD;refine .mL k T;ext br;refine .DE;exact i6 (u _ .yf)
theorem Ei{κ:Type}{kvs:.eV}{g:@q (κ×iB)}(h:.dB):∀{i:Nat}{k:κ}{v:V},.iv->∃u,g[i]? =O (k,u)/\.cR:=by
 unfold KV at h;induction h with
 |nil=>simp|@cons a b L c r t I=>grind
theorem aey{α β:Type}{G:.g3}{L:.aA}{c:.ei}(h:.cH G L c):∀{i:Nat}{a:α},L[i]? =O a->∃b,c[i]? =O b/\G a b:=by
 induction h with
 |nil=>simp|@cons a b L c r t I=>grind
theorem HQ(h:qQ k u=f'):.am (kV k) u:=by
 rcases uS h with⟨i,t,rfl,rfl⟩|⟨x,t,rfl,rfl⟩;.exact#[t,y]
 .exact#[t,y]
theorem Inv.tW(I:.D)(h:.pS):.jN d/\.gd/\.lN/\∃(f:.g4)(ep:Nat)(g:.kw),.mF/\.a5=.aN/\.dB/\.DF:=by obtain⟨T,z,w,g,m,a,f,ep,k,v,c,r⟩:=I.je d _ h;rw[T]at k;cases k;refine#[w,T,v,f,ep,g,c,?_,m,o,f,T,v,c,r];have l:=r.2.1.length;have A:.kf:=.cI m;grind
theorem Inv.QY{kvs:.my}(I:.D)(h:H d=.tq):.jN d/\.gd/\.lN/\∃(f:.g4)(ep:Nat),.mF/\.a5=.aN/\∀(i:Nat)(k:.ks)(v:V),.iv->∃(g:sW)(q:U),f[i]? =O g/\g.key=@h q/\H q=.pI:=by
 obtain⟨T,z,w,xs,m,t,f,ep,p,r,c,a,_⟩:=I.je d _ h;rw[T]at p;cases p;refine#[w,T,r,f,ep,c,?_,λi k v e=>?_];.have u:.a5=.ag:=size_of_entries a;grind[Paired.length]
 .obtain⟨b,l,C,A,_⟩:=aey m e;have q:=entry_at a i;rw[l]at q;exact#[_,b.2.1,q,y,A]
def yz(d:U)(o:jA)(kvs:.aI):It:=#[.tt,λi H x L=>L=H/\∃k v,.iv/\x=kV k,.tv]
def aau(d:U)(o:jA)(kvs:.my):It:=#[λi H=>H d=.tq/\i<.aN,λi H x L=>L=H/\∃(k:.ks)(v:V)(q:U),.iv/\x=@h q/\H q=.pI,λi H=>H d=.tq/\.aN<=i]
def Fe(d:U)(o:jA)(kvs:.aI):It:=#[.tt,λi H x L=>L=H/\∃k,kvs[i]? =O (k,x),.tv]
def Fc(d:U)(o:jA)(kvs:.aI):It:=#[.tt,λi H x L=>∃T k v,.iv/\x=@h T/\H T=e'/\L=@z T .pT,.tv]
theorem uh{o:jA}{f x:.g4}{g:Nat}(h:.mF)(D:.nh x g):x=f/\g=ep:=.h
theorem afp{w:jR}{tg:.aB}{d:U}{o:jA}{es:.g4}{kvs:.aI}(C:U)(x:.pU):.c5 tg .pV [C] C (λi h=>.eW .aN ep)where
 mem:=@E
 obj:=λi h st b l=>by
  ext ao
  subst e;obtain⟨oi,e,c,A⟩:=st;grind
 keep:=.sY
 item:=by
  ext b9;obtain⟨m,r,f2,L,g,M⟩:=.iw;ext ca;obtain⟨⟨k,v⟩,ac⟩:.pW:=.aW
  obtain⟨u,hu,ru⟩:=Ei t ac;have hl:.aN=vs.length:=.cI t;rw[hl]at st;refine wpAny_pyNext_dict_item st hm hu λae D ah ai sb=>?_;have I1:.gU:=.gA m r L g M;obtain⟨oi,e,c,A⟩:=id ai;refine .sd ae e c A #[kV k,H,I1,HQ (show qQ k ae=f' from ah),#[y,k,v,ac,y],?_,.l0];grind
 done:=by ext b9;obtain⟨m,r,f2,L,g,M⟩:=.iw;ext ca;exact SU .eo st aa J ab hi λD eb=>#[y,.cM .yg m r L g M]
 self:=by grind[wpAny_pyIter_keyiter]
theorem aec{w:jR}{tg:.aB}{d:U}{o:jA}{es:.g4}{kvs:.my}(C:U)(aa:.pU):.c5 tg (aau d o kvs) [C] C (λi h=>.eW .aN ep)where
 mem:=@E
 obj:=λi h st b l=>by
  ext ao
  subst e;obtain⟨oi,e,c,dd⟩:=st;grind
 keep:=.sY
 item:=by
  ext cb;obtain⟨m,r,f2,L,t,M⟩:=Y C @I;ext cc;obtain⟨⟨k,v⟩,ac⟩:.pW:=.aW
  obtain⟨en,q,ah,ai,hq⟩:=ab i k v ac;refine acR st x J B ah λD ae sb=>?_;have I1:.gU:=.gA m r L t M;obtain⟨oi,e,c,dd⟩:=id ae;exact .sd en.key e c dd #[@h q,H,I1,ai,#[y,k,v,q,ac,y,hq],ae,λb l=>(Y b l).1]
 done:=by ext cb;obtain⟨m,r,f2,L,t,M⟩:=Y C @I;ext cc;exact SU (I.ok.hd hc) st x J B hi λD eb=>#[y,.cM .yg m r L t M]
 self:=λA i s Q E st h=>by refine Ko st.typeIs aaN (uN aaN st.typeIs F.entry_dict_keyiterator_iter ?_ .z);show .aw (ret .gV) _ _ s;exact i6 #[_,y,"dict_keyiterator",_,st.typeIs,vH.lookup,h]
theorem afn{w:jR}{tg:.aB}{d:U}{o:jA}{es:.g4}{kvs:.aI}(C:U)(aa:.pU):.c5 tg .pX [C] C (λi h=>h.IsValIter C d i .aN ep)where
 mem:=@E
 obj:=λi h st b l=>by
  ext ao
  subst e;obtain⟨oi,e,c,dd⟩:=st;grind
 keep:=.sY
 item:=by
  ext cd;ext ce;obtain⟨⟨k,v⟩,ab⟩:.pW:=.aW
  obtain⟨u,hu,ru⟩:=Ei m ab;have B:.aN=.aS:=.cI m;rw[B]at st;refine wpAny_pyNext_values_item st A hu λD ah sb=>?_;have I1:.gU:=.gA a r L g M;obtain⟨oi,e,c,dd⟩:=id ah;refine .sd u e c dd #[v,H,I1,ru,#[y,k,ab],?_,.l0];grind
 done:=by ext cd;ext ce;have B:.aN=.aS:=.cI m;rw[B]at st;exact wpAny_pyNext_values_end (I.ok.hd hc) st A .q λD eb=>#[y,.cM .yg a r L g M]
 self:=by grind[wpAny_pyIter_valiter]
theorem aed{w:jR}{d:U}{o:jA}{es:.g4}{kvs:.aI}{elts:.eX}{kk:Nat}{ab:Pos}(C:U)(t:.pU):
  .c5 (.eX kk ab) .pY [C] C (λi h=>∃ok L,IsItemIter h C d i .aN ep ok L)where
 mem:=@E
 obj:=.h
 keep:=.h
 item:=by
  intro X J Y f x i pins s σ H E I Q st q;ext bt;ext cg;obtain⟨⟨k,v⟩,D⟩:.pW:=.aW
  obtain⟨u,hu,ru⟩:=Ei m D;ext ch;have aa:C<@L:=jZ a;refine wpAny_pyNext_items_item a M hu λB h' ah ho hT hz hk=>?_;refine#[_,y,wpAny_letOwnedTupleGo_items (s:={s with heap:=h'}) ho λA ak sb=>?_];have ai:A.get? @L=O {cls:=.kk,data:=.seq (.a6 [B,u])}:=(sb.2 _ (yV aa)).trans hT;have aj:.cK (.dU .pT) A @L .pT:=
   #[@Z,[B,u],.J (HQ (show qQ k B=f' from ah)) (.J ru .nil),#[_,ai,y,_,y]];have I1:.Y (.dU .pT) {s with heap:=A}:=
   I.U8 (t':=s.toks) (ch:=[C]) (λb ob r e=>.gB .q) Q .ba aj;refine#[.fF,_,I1,y,#[_,k,v,D,y,.e2,y],#[B,u,?_],λb r=>?_];.grind
  .ext ao
   rw[e,iC (mT aa)];exact(.iw).1
 done:=by intro X J Y f x i pins s σ H E I Q st q;ext bt;obtain⟨f0,f1,f2,f3,f4,f5⟩:=.iw;ext cg;ext ch;exact wpAny_pyNext_items_end (I.ok.hd x) a M .q λh' eb=>#[y,.cM (λb ob r e=>eb b ob r e) f0 f1 f3 f4 f5]
 self:=by grind[PySem.W.kcp_self]
def alc(p:TE):TI:=λσ H R=>.b9 λx B=>∃d o,x=.aD/\((∃kvs,.tw/\R .pV B)\/∃kvs,B d=.tq/\R (aau d o kvs) B)
def ak9(p:TE):TI:=λσ H R=>.b9 λx B=>∃d o kvs,x=.aD/\.tw/\R .pX B
def akx(p:TE):TI:=λσ H R=>.b9 λx B=>∃d o kvs,x=.aD/\.tw/\R .pY B
theorem zy(a:.ao p):PI X l e (alc p):=by
 ext an;refine .c4 λu m#[x,B,D,f,d,o,r,q]=>?_;ext bu;rcases q with⟨kvs,T,q⟩|⟨kvs,T,q⟩;.obtain⟨w,Q,v,k,ep,g,c,t,J,M⟩:=D.tW T;refine Dq w Q v c (.dV D _ (afp _ c) .yi q);grind
 .obtain⟨w,Q,v,k,ep,c,t,C⟩:=D.QY T;refine Dq w Q v c (.dV D _ (aec _ c) .yi q);grind
theorem VH(a:.ao p)(k:.DG:=by rfl)(l:.xZ:=by rfl):PI X c (.an (.dw e "values" t) [] [] C) (ak9 p):=by
 ext an;refine .hp k y l RV Km abJ .DH;ext bu;obtain⟨w,Q,v,A,ep,g,J,L,U,M⟩:=D.tW T;have hl:.kf:=.cI U;refine .DI;have Y:.Y B .yj:=.eQ .bU;have fin:.Q (pyIter (@h .bT)) (.eP c R) .ao .yj:=by refine abt (d:=d) (knd:=.kx) .es (M.push _) (.dV Y _ (afn _ J) .yi q);grind
 show .DK;exact Sh Km abB y (Kk #[y,M.dictOf.typeIs,abn _,_,abQ .et d w,#[g,M.dictOf],fin])
theorem NM(a:.ao p)(k:.ek e "items" .M .gR=.gR:=by rfl)(l:.xZ:=by rfl):PI X (.eX c Q) (.an (.dw e "items" t) [] [] C) (akx p):=by
 ext an;refine Cw (T:="dict") (id:="dict.items") k y l RV ab1 F.type_dict_items .DH;ext bu;obtain⟨w,v,A,es,ep,g,J,aa,U,M⟩:=D.tW T;have L:.kf:=.cI U;refine .DI;have Y:.Y B .DL:=.eQ .bU;have fin:.Q (pyIter (@h .bT)) (.eP (.eX c Q) R) .ao .DL:=by refine wpAny_pyIter_items (d:=d) (knd:=.kx) .es (M.push _) (.dV Y _ (aed _ J) #[.none,.none,?_] q);rw[L];exact .cG
 show .aw (callWith C (.aj "dict.items") [.aD] [] []) _ .ao m;exact Sh ab1 F.entry_dict_items y (Kk #[y,M.dictOf.typeIs,F.args_dict_items_1 _,_,meets_dict_items .et d w,#[g,M.dictOf],fin])
end L2
namespace alU
open PySem PyProof.Rows
end alU
namespace TL
open PySem PySem.Builtin PySem.Builtin.Str PySem.StrLaws
abbrev tl(x:iA):@n:=x.cps.toList
theorem By(h:tl x=tl C):x=C:=Str.ext' (Array.toList_inj.mp h)
theorem MI(x C:iA):tl (x++C)=tl x++tl C:=by grind[Str.cps_append]
def yh(S:@n):.aJ->@n
 |[]=>[]|[p]=>p|p::q::r=>p++(S++yh S (q::r))
theorem Ov(C:iA):∀p:.bX,tl (Wg C p)=yh (tl C) (p.map tl)
 |[]=>y|[_]=>y|x::z::r=>by show tl (x++C++Wg C (z::r))=tl x++(tl C++yh (tl C) ((z::r).map tl));rw[MI,MI,Ov C (z::r),rP]
theorem join_eq(C:iA)(p:.bX):Dv C p=Wg C p:=glued_eq_join C p
end TL
namespace L2
open PySem PySem.Spec PyProof.Rows
theorem Li:∀{ys:.bX}{us:.Y},.ac (ys.map V.str) us->StrsAre us ys
 |[],_,.nil=>.nil|C::ys,_,.cons r t=>by obtain⟨k,rfl⟩:=r;exact .J C k (Li t)
theorem aju:BX X "str.join" .DM:=by
 ext bv;obtain⟨a,p,ys,rfl,rfl,g,c,h⟩:=h;ext I;cases rs with
 |cons r1 rs=>
  cases rs;cases r1;rcases g with g|g;.obtain⟨M,r,⟨o,n,l,B,_,T⟩,_⟩:=.aQ g;exact PyProof.Rows.join_list (items:=M.toArray) #[o,l,B,n,T] (by grind[Li]) c .DN
  .obtain⟨M,r,m,_⟩:=.bS g;exact PyProof.Rows.join_tuple (items:=M.toArray) m (by grind[Li]) c .DN
theorem adl:sx X (.af "int") (λxs H Q=>∃a n,xs=[@I a]/\PySem.intText? a=O n/\.c1<=640/\Q .cd H):=by
 intro pins s σ H xs us Q I rs h;obtain⟨a,n,rfl,f,L,h⟩:=h;cases rs with
 |cons r1 rs=>cases rs;ext aP;exact PySem.W.KIN.call_text f L #[.cd,H,.bH,.br,h]
def tM1(r:.e4)(u f:TE):TE:=λσ H Q=>u σ H λx B=>(∃a,x=@I a)/\f σ B λy I=>r x [y] I Q
theorem ak7{o e:.aB}{p f:TE}{id:.ep}{c:iA}{M T:Pos}{r:.e4}(slot:Slot "str" c id)(ty:.xX)(rule:BX X id r)(k:.aR p)(g:.ao f)(w:.kA=[.fE]:=by rfl)(l:.xY:=by rfl)(m:(M.endLine==T.line)=f':=by rfl):.H (.an (.aS c M) [e] [] T) (tM1 r p f):=by ext q;refine PySem.Call_method1 l w m (.du λv J#[x,B,D,r1,L]=>?_);obtain⟨⟨a,rfl⟩,L⟩:=L;obtain⟨t,rfl⟩:=_root_.id r1;refine#["str",_,F.plainAttrs_str,slot,ty,TY _ _ _,(λ_ e=>nomatch e),Cb y (Fl (uL ?_))];exact iW (g @t J σ B _ D L) λu U#[C,Y,q,r2,A]=>vM (rule @t U σ Y _ [C] _ [u] Q q r1 (.J r2 .nil) A)
theorem YH(k:.aR u)(c:.ao f)(w:.kA=[.fE]:=by rfl)(g:.ek o "join" .M (.av o .M)=.av o .M:=by rfl)(l:(t.endLine==T.line)=f':=by rfl):.H (.an (.aS "join" t) [e] [] T) (tM1 .DM u f):=by grind[ak7,F.slot_str_join,F.type_str_join,aju]
end L2
namespace L2
open PySem PySem.Spec PyProof.Rows
theorem aez:mO X (.bn .In) (λx C H Q=>∃(c:Nat)(z:iA),x=.im/\C=@I z/\Q (.j6 (c∈z.cps.toList)) H):=by ext ag;obtain⟨c,z,rfl,rfl,q⟩:=h;ext I;ext H;exact PyProof.Rows.in_str (lA I q (PySem.StrLaws.found_one z c).symm)
end L2
namespace Att
open PySem PySem.W PySem.Calls PyProof.Rows
end Att
namespace L2
open PySem PySem.Spec PyProof.Rows
end L2
namespace L2
open PySem PySem.Spec PyProof.Rows
def inClass(s:i5)(j:Nat):i5:=match s with
 |.ClassDef _ _ _ h _ _ _ _ _ _ _=>h.getD j .yk|_=>.yk
def zC(s:i5):Arguments:=match s with
 |.FunctionDef _ a _ _ _ _ _ _ _ _=>a|_=>{posonlyargs:=[],args:=[],vararg:=e',kwonlyargs:=[],kw_defaults:=[],kwarg:=e',defaults:=[]}
def wo(s:i5):@q i5:=match s with
 |.FunctionDef _ _ b _ _ _ _ _ _ _=>b|_=>[]
def i4(s:i5):qM:=match s with
 |.FunctionDef _ _ _ _ _ _ f _ _ _=>f|_=>{kind:=.function,names:=[],isGenerator:=ij,isCoroutine:=ij}
structure kh(K:jd)(x qual:iA)(st:i5)(f:U)(fd:iZ):Prop where
 ex:∃(oc:iB)(od:Option U)(kV doc pm:iB)(an:Option U)(cdv ct:iB)(osl:Array (Option iB)),fd=xC x qual (zC st) (wo st) (i4 st) .none kV doc pm an cdv ct/\K.lookup f=O #[oc,od,.func fd,osl]/\KQ K cdv qual=f'
 kp:Aw K (.ref f)=f'
theorem kh.binds(F:.fR a)(h:∀(kV p B:iB)(q:.E U)(D T:iB)(us:.Y),.cQ=.bh->bindArgs .yl .kg=pure .mf):.aT a ps []:=by obtain⟨m,l,kV,p,B,q,D,T,A,rfl,lk,c⟩:=F.ex;exact .all (h kV p B q D T)
theorem P9{x:iA}{f:U}{m:iB}{a q:.E U}{A:.py}{kV p B D T:iB}(l:.jz f=O #[m,a,.func .yl,A])(c:KQ K D qual=f')(k:Aw K .f6=f'):.fR .yl:=#[.h,k]
theorem og(c:jy k A):.ku:=qp @h c.units
theorem J(i:Nat)(g:.j5:=by rfl)(L:BW .j7 x:=by first|exact iJ y|exact tD @q|exact tD .fH)(T:.da:=by decide)(h:.Cl:=by decide):.nj a i:=aj9 g L T h
theorem uY:sx X (.aj "len") (λxs H Q=>∃a kvs,xs=.ms/\.kt/\Q (.h .aN) H):=by ext ap;obtain⟨a,kvs,rfl,p,q⟩:=h;obtain⟨u,rfl,k⟩:=.mr;cases k;exact alg I (.n p) λt f c=>#[.h .aN,H,c,#[t,y],q]
theorem iU{A B:.n}(h:B):if ij=f' then A else B:=.h
theorem iQ{A B:.n}(h:A):if f'=f' then A else B:=.h
theorem lR{c A B:.n}[Decidable c](D:c->A)(M:¬c->B):.pB c A B:=.h
def iu(H L:Hp):.n:=∀b o,.cn->.e6
theorem iu.refl(H:Hp):.I H:=λ_ _ h=>h
theorem iu.trans(a:.I B)(b:iu B I):.I I:=λc o h=>b c o (a c o h)
theorem iu.free(e:.I)(h:L l=adw):H l=adw:=by
 cases q:H l with
 |none=>rfl|some o=>rw[e l o q]at h;cases h
theorem iu.seq(e:.I)(h:.fA):iD K L a xs:=by
 rcases h with(h|⟨o,h⟩)|h;.exact .n (.mN e h)
 .exact .kj #[o,e _ _ h]
 .exact @n h
section
variable{κ:Type}[DecidableEq κ]
end
theorem at_of{z:Int}{j:Nat}(e:z=.mn)(h:.mA j v):ox xs z=O v:=.tx
end L2
section
set_option maxHeartbeats 2000000
namespace L2
open PySem PySem.Spec PyProof.Rows
open PySem.W(WData Codec OpenSpec Well WellAll ReadsW ReadsAllW)
mutual
inductive Dw(K:jd)(H:Hp):V->WData->Prop
 |iM:Dw K H .iM .none
 |bl(b:Bool):Dw K H (.bl b) (.bool b)
 |int(i:Int):Dw K H (.int i) (.int i)
 |str(x:iA):Dw K H (.str x) (.str x)
 |px(b:Array UInt8):Dw K H (.px b) (.bytes b.toList)
 |lst{a:U}{xs:List V}{ds:List WData}:iD K H a xs->tP K H xs ds->Dw K H (.ref a) (.list ds)
 |tup{a:U}{xs:List V}{ds:List WData}:jz K H a xs->tP K H xs ds->Dw K H (.ref a) (.tuple ds)
inductive tP(K:jd)(H:Hp):List V->List WData->Prop
 |nil:tP K H [] []
 |cons{v:V}{vs:List V}{d:WData}{ds:List WData}:Dw K H v d->tP K H vs ds->tP K H (v::vs) (d::ds)
end
theorem Y8{K:jd}{H:Hp}:∀w:.af,tP K H (.aE .a6) (.aE WData.int)
 |[]=>.nil|n::r=>.J .cd (Y8 r)
theorem Y0{K:jd}{H:Hp}:∀(w:.af)(xs:.L),tP K H xs (.aE WData.int)->xs=.aE .a6
 |[],xs,h=>.ge|n::r,xs,h=>by
  cases h with
  |cons D M=>cases D;rw[Y0 r _ M]<;>rfl
section
variable{P:kS}{w:jR}{K:jd}{H:Hp}{h:jo}{R:ab4}{cl:iA->Option U}
theorem ajY{a:U}{xs:.L}(c:.cD)(I:.fI)(q:.fA):∃(M:.Y)(o:jA)(n:Nat),.b5 M/\.jH a/\o.cls=.dU/\.e0=.seq .c8 n:=by
 rcases q with q|⟨o,M,n,e,B,_,T,_,L⟩;.obtain⟨_,M,n,L,e⟩:=(show .b7 .pe from q.ok c);exact#[M,_,n,L,e,y,y]
 .exact .DO
theorem ajX{a:U}{xs:.L}(c:.cD)(I:.fI)(q:.lY):∃(M:.Y)(o:jA)(n:Nat),.b5 M/\.jH a/\.lX/\.e0=.seq .c8 n:=by
 rcases q with q|⟨o,M,n,e,B,T,_,L⟩;.obtain⟨_,M,L,o,e,B,n,T⟩:=(show .b7 (@L xs)from q.ok c);exact#[M,o,n,L,e,B,T]
 .exact .DO
mutual
theorem Dw.reads(a:.cD)(I:.fI):∀(d:WData)(v:V)(u:iB),Dw K H v d->.cR->∃as,ReadsW R cl h u d as
 |.none,_,_,x,r=>by cases x;cases r;exact#[_,ReadsW.none]
 |.bool b,_,_,x,r=>by cases x;cases r;exact#[_,ReadsW.bool b]
 |.int i,_,_,x,r=>by cases x;ext E;exact#[_,ReadsW.int i t]
 |.str s,_,_,x,r=>by cases x;ext E;exact#[_,ReadsW.str s t]
 |.bytes b,_,_,x,r=>by cases x;ext E;exact#[_,ReadsW.bytes _ t]
 |.list Q,_,_,x,r=>by
  cases x with
  |lst f p=>cases r;obtain⟨M,o,n,g,k,B,T⟩:=ajY a I f;obtain⟨as,c⟩:=.gC M p g;exact#[_,ReadsW.list k B T c]
 |.tuple Q,_,_,x,r=>by
  cases x with
  |tup f p=>cases r;obtain⟨M,o,n,g,k,B,T⟩:=ajX a I f;obtain⟨as,c⟩:=.gC M p g;exact#[_,ReadsW.tuple k B T c]
 |.float _,_,_,x,_=>.jr x
 |.dict _,_,_,x,_=>.jr x
 |.bytearray _,_,_,x,_=>.jr x
 |.set _,_,_,x,_=>.jr x
 |.frozenset _,_,_,x,_=>.jr x
 |.obj _ _,_,_,x,_=>.jr x
theorem Dw.readsAll(a:.cD)(I:.fI):∀(Q:.fJ)(g:.L)(us:.Y),tP K H g Q->.lT->∃as,ReadsAllW R cl h us Q as
 |[],_,_,x,r=>by cases x;cases r;exact#[_,ReadsAllW.nil]
 |d::Q,_,_,x,r=>by
  cases x with
  |cons D M=>
   cases r with
   |cons r1 r2=>obtain⟨as,L⟩:=Dw.reads a I d _ _ D r1;obtain⟨f,q⟩:=.gC _ M r2;exact#[_,ReadsAllW.cons L q]
end
end
mutual
def rL:WData->Bool
 |.none=>f'|.bool _=>f'|.int _=>f'|.str _=>f'|.bytes _=>f'|.list xs=>tT xs|.tuple xs=>tT xs|_=>ij
def tT:.fJ->Bool
 |[]=>f'|x::r=>rL x&&tT r
end
theorem Xc{α:Type}{f:α->WData}(h:∀a,rL (f a)=f'):∀l:.aA,tT (@M f)=f'
 |[]=>y|x::r=>by show(rL (f x)&&tT (r.map f))=f';rw[h x,Xc h r]<;>rfl
theorem x6:∀(c:Codec)(a:c.denote),rL (c.enc a)=f'
 |.unit,_=>y|.bool,_=>y|.int _ _,_=>y|.nat _ _,_=>y|.u8,_=>y|.bytes _ _,_=>y|.text _ _ _ _,_=>y|.list _ _ c,a=>Xc (λx=>x6 c x) a|.pair c d,a=>by show(.ym&&(rL (d.enc a.2)&&f'))=f';rw[x6 c a.1,x6 d a.2]<;>rfl|.triple c d e,a=>by show(.ym&&(rL (d.enc a.2.1)&&(rL (e.enc a.2.2)&&f')))=f';rw[x6 c a.1,x6 d a.2.1,x6 e a.2.2]<;>rfl|.option c,e'=>y|.option c,O x=>x6 c x
theorem VG:∀(v:@q Codec)(a:.gD v),tT (.eY v a)=f'
 |[],_=>y|c::v,a=>by show(.ym&&tT (.eY v a.2))=f';rw[x6 c a.1,VG v a.2]<;>rfl
theorem LY:∀{xs:.fJ}{d:WData},d∈xs->d.weight<=WData.weightAll xs
 |[],d,h=>.Z h @I|x::r,d,h=>by
  show d.weight<=x.weight+1+WData.weightAll r;rcases kc.mp h with e|m;.rw[e];omega
  .have z:=LY m;omega
def toV:iB->V
 |.none=>.iM|.bool b=>.bl b|.int i _=>.cm|.str x _=>@I x|.bytes b _=>.px b|.ref a=>.aX|_=>.iM
def sG(A:@D):iB->.n
 |.none=>True|.bool _=>True|.int _ _=>True|.str _ _=>True|.bytes _ _=>True|.ref a=>a∈A|_=>False
theorem sG.mono{A B:@D}(h:∀a∈A,a∈B):∀{u:iB},sG A u->sG B u:=λ{u}x=>by
 cases u with
 |ref a=>exact h a x|none=>trivial|bool b=>trivial|int i t=>trivial|str s t=>trivial|bytes b t=>trivial|_=>exact sU x
theorem ahn{A:@D}{u:iB}(x:sG A u):.am (toV u) u:=by
 cases u with
 |ref a=>rfl|none=>rfl|bool b=>rfl|int i t=>exact#[t,y]|str s t=>exact#[t,y]|bytes b t=>exact#[t,y]|_=>exact sU x
theorem A2{A:@D}:∀{g:.Y},.kB->.ac .iy g
 |[],_=>.nil|u::r,h=>.J (ahn (h u (jO ..))) (A2 .pZ)
def tQ(h:jo)(A:@D)(a:U):.n:=∃g:.Y,.cZ<=@Q/\.kB/\(.dy=O .g5\/.dy=O .g6)
theorem tQ.mono{h:jo}{A B:@D}{a:U}(k:∀a∈A,a∈B)(x:tQ h A a):tQ h B a:=by obtain⟨g,D,M,r⟩:=x;exact#[g,D,λu c=>(M u c).mono k,r]
theorem F6{P:xX}{h:jo}:∀{g:.Y}{Q:.fJ},.p3->.cZ=Q.length
 |_,_,.nil=>y|_,_,.cons _ b=>by show _+1=_+1;rw[F6 b]
theorem U6{P:xX}{h:jo}{v:iB}{Q:.fJ}(x:Well P h v (.list Q)):∃(a:U)(g:.Y),v=.aX/\.dy=O .g5/\.p3:=by
 cases x with
 |list k C=>exact#[_,_,y,k,C]
theorem T5{P:xX}{h:jo}{v:iB}{Q:.fJ}(x:Well P h v (.tuple Q)):∃(a:U)(g:.Y),v=.aX/\.dy=O .g6/\.p3:=by
 cases x with
 |tuple k C=>exact#[_,_,y,k,C]
theorem U7{P:xX}{h:jo}{us:.Y}{d:WData}{Q:.fJ}(x:WellAll P h us (d::Q)):∃(v:iB)(g:.Y),us=v::g/\Well P h v d/\.p3:=by
 cases x with
 |cons a b=>exact#[_,_,y,a,b]
theorem YU{n:Nat}(h:n<=1048576):n<=@Q:=.ju h
section
variable{P:xX}{h:jo}
mutual
theorem aiB:∀(d:WData)(v:iB),Well P h v d->rL d=f'->d.weight<=1048576->∃A:@D,sG A v/\.g7
 |.none,_,x,_,_=>.p4|.bool b,_,x,_,_=>.p4|.int i,_,x,_,_=>.p4|.str s,_,x,_,_=>.p4|.bytes b,_,x,_,_=>.p4|.list Q,_,x,p,z=>by
  obtain⟨a,g,rfl,f,C⟩:=U6 x;ext cj;.rw[e];exact#[g,.DP,λu q=>(D u q).mono k,.n f]
  .exact(M b m).mono k|.tuple Q,_,x,p,z=>by
  obtain⟨a,g,rfl,f,C⟩:=T5 x;ext cj;.rw[e];exact#[g,.DP,λu q=>(D u q).mono k,@n f]
  .exact(M b m).mono k|.float _,_,_,p,_=>.e7|.dict _,_,_,p,_=>.e7|.bytearray _,_,_,p,_=>.e7|.set _,_,_,p,_=>.e7|.frozenset _,_,_,p,_=>.e7|.obj _ _,_,_,p,_=>.e7
theorem Ic:∀(Q:.fJ)(g:.Y),.p3->tT Q=f'->.yn->∃A:@D,.kB/\.g7
 |[],_,x,_,_=>by cases x;exact#[[],λu m=>.Z m @I,λa m=>.Z m @I]|d::Q,_,x,p,z=>by
  ext ck;obtain⟨A,s,H⟩:=aiB d v L q.1 (z d (jO ..));obtain⟨B,t,c⟩:=Ic Q g r q.2 λe w=>z e (nD _ w);have k:∀b∈A,b∈A++B:=λb l=>k8.mpr (.n l);have f:∀b∈B,b∈A++B:=λb l=>k8.mpr (@n l);refine#[A++B,λu M=>?_,.h9]
  .rcases kc.mp M with e|m;.rw[e];exact s.mono k
   .exact(t u m).mono f
  .rcases k8.mp l with m|m;.exact(H b m).mono k
   .exact(c b m).mono f
end
end
def JI(o:jA):.E HO:=match o.data with
 |.seq g _=>if(o.cls==.p5)=f' then O (.cJ (@E (g.toList.map toV)))else O (.cJ (@L (g.toList.map toV)))|_=>e'
def pf(K:jd)(h:jo)(A:@D):Hp:=λb=>if b∈A then(if(.jz b).isNone=f' then(.aP b).bind JI else e')else e'
def yl(H:Hp):.n:=∀b,.be\/∃o u,H b=O (.cJ u)
theorem XA(g:.Y):JI .g5=O (.iT .g5 (@E .iy)):=by show(if(.p5==.p5)=f' then O (HO.iT .g5 (@E .tz))else O (HO.iT .g5 (@L .tz)))=_;rw[ip (beq_self_eq_true _)]
theorem Xz(g:.Y):JI .g6=O (.iT .g6 (@L .iy)):=by show(if(vV "tuple"==.p5)=f' then O (HO.iT .g6 (@E .tz))else O (HO.iT .g6 (@L .tz)))=_;rw[.d3]
section
variable{P:kS}{w:jR}{K:jd}{h:jo}{A:List U}
theorem IJ{b:U}{o:jA}(l:b∈A)(hk:.jz b=e')(e:.jH b):.tA=JI o:=by unfold pf;rw[ip l,hk,ip (show(e':.E jA).isNone=f' from y),e]<;>rfl
theorem ajq{b:U}{u:HO}(q:.tA=O u):b∈A/\.jz b=e':=by
 unfold pf at q;by_cases l:b∈A;.rw[ip l]at q;cases hk:.jz b with
  |none=>exact#[l,y]|some o=>rw[hk,il @I]at q;cases q
 .rw[il l]at q;cases q
theorem II(T:.g7){b:U}{u:HO}(q:.tA=O u):.jz b=e'/\∃g:.Y,.cZ<=@Q/\.kB/\((.aP b=O .g5/\u=.iT .g5 (@E .iy))\/(.aP b=O .g6/\u=.iT .g6 (@L .iy))):=by
 obtain⟨l,hk⟩:=ajq q;obtain⟨g,D,M,r⟩:=T b l;refine#[hk,g,D,M,?_];rcases r with e|e;.rw[IJ l hk e,XA]at q;exact .n #[e,(pD q).symm]
 .rw[IJ l hk e,Xz]at q;exact @n #[e,(pD q).symm]
theorem agT(T:.g7):yl .mH:=λb=>by
 cases q:.tA with
 |none=>exact .n y|some u=>
  obtain⟨_,g,_,_,⟨_,e⟩|⟨_,e⟩⟩:=II T q;.exact @n #[_,_,.j3 e]
  .exact @n #[_,_,.j3 e]
theorem ajM(T:.g7):kq P w .mH h:=λb u q=>by
 obtain⟨_,g,D,M,⟨e,rfl⟩|⟨e,rfl⟩⟩:=II T q;.exact#[e,.kk D,g,_,A2 M,e]
 .exact#[e,.kk D,g,A2 M,_,e,y,_,y]
theorem Ir{c t:iB}{g us:.Y}(e:(O {cls:=c,data:=.seq .ik}:.E jA)=O {cls:=t,data:=.seq .tB}):c=t/\g=us:=by have C:=pD e;have a:c=t:=.aA Obj.cls C;have f:Np .ik=Np .tB:=.aA Obj.data C;injection f with D;refine .jO a;have L:=.aA Array.toList D;simpa using L
theorem alR(I:.fI)(T:.g7){a:U}{g:.Y}(p:a∈A)(e:.dy=O .g5):.kB/\iD K .mH a .iy:=by
 obtain⟨us,D,M,r⟩:=T a p;have f:us=g:=by
  rcases r with q|q;.rw[e]at q;exact(Ir q).2.symm
  .rw[e]at q;exact .DQ
 subst f;refine .jO M;cases hk:.jz a with
 |none=>exact .kj #[_,by rw[IJ p hk e,XA]]|some o=>have c:=I a o hk;rw[e]at c;obtain rfl:=pD c;exact @n #[_,.tB,_,hk,y,y,y,by rw[Ft];exact D,by simpa using A2 M]
theorem alQ(I:.fI)(T:.g7){a:U}{g:.Y}(p:a∈A)(e:.dy=O .g6):.kB/\jz K .mH a .iy:=by
 obtain⟨us,D,M,r⟩:=T a p;have f:us=g:=by
  rcases r with q|q;.rw[e]at q;exact .DQ
  .rw[e]at q;exact(Ir q).2.symm
 subst f;refine .jO M;cases hk:.jz a with
 |none=>exact .kj #[_,by rw[IJ p hk e,Xz]]|some o=>have c:=I a o hk;rw[e]at c;obtain rfl:=pD c;exact @n #[_,.tB,_,hk,y,y,by rw[Ft];exact D,by simpa using A2 M]
mutual
theorem akE{c:xX}(I:.fI)(T:.g7):∀(d:WData)(v:iB),Well c h v d->rL d=f'->sG A v->Dw K .mH (toV v) d
 |.none,_,x,_,_=>by cases x;exact .iM|.bool b,_,x,_,_=>by cases x;exact .bl b|.int i,_,x,_,_=>by cases x;exact .cm|.str s,_,x,_,_=>by cases x;exact @I s|.bytes b,_,x,_,_=>by cases x;have z:=Dw.px (K:=K) (H:=pf K h A) b.toArray;exact z|.list Q,_,x,p,M=>by obtain⟨a,g,rfl,k,C⟩:=U6 x;obtain⟨f,l⟩:=alR I T M k;exact @E l (Jl I T Q _ C p f)|.tuple Q,_,x,p,M=>by obtain⟨a,g,rfl,k,C⟩:=T5 x;obtain⟨f,l⟩:=alQ I T M k;exact @L l (Jl I T Q _ C p f)|.float _,_,_,p,_=>.e7|.dict _,_,_,p,_=>.e7|.bytearray _,_,_,p,_=>.e7|.set _,_,_,p,_=>.e7|.frozenset _,_,_,p,_=>.e7|.obj _ _,_,_,p,_=>.e7
theorem Jl{c:xX}(I:.fI)(T:.g7):∀(Q:.fJ)(g:.Y),WellAll c h g Q->tT Q=f'->.kB->tP K .mH .iy Q
 |[],_,x,_,_=>by cases x;ext ae|d::Q,_,x,p,M=>by ext ck;exact .J (akE I T d v L q.1 (M _ (jO ..))) (Jl I T Q g r q.2 λu m=>M u (nD _ m))
end
end
theorem afz{P:kS}{w:jR}{K:jd}{mg a:.cV}{L:xg}{k:Nat}{M:U}{fd:iZ}{ps:.bX}{sp:Sp}{c:iV}{D:.Y}{Q:.fJ}{R:ab4}{cl:iA->.E U}{d0:WData}(I:K.In .mI)(aa:c.heap.Ns .g1 mg)(l:c.heap.Ns builtinsNs a)(ai:∀x:iA,.sW->a x=.b8 x)(aj:c.heap.NoLimit)(hg:c.gens=.cU)(g:WellAll w.params .mI D Q)(ab:tT Q=f')(ak:.yn)(hr:jy k .mJ)(F:∀h:jo,.fI->.p6->@H h L k M fd ps sp)(al:.nY s fd)(am:Q.length=.bh)(an:∀(H:Hp)(xs:.L),yl H->tP K H xs Q->sp xs H (λv H'=>Dw K H' v d0) .tC)(ao:∀H e p,L [] H c .g8 e p->False):codeAny (model P w) .mJ (.call (@h M) #[D,[]]) (λr p=>∃u as,r=.ok (.ret u)/\ReadsW R cl .f8 u d0 as/\OldK .mI .f8/\p.os=c.os/\zp p.gens) c:=by
 obtain⟨A,ho,T⟩:=Ic Q D g ab ak;have Y:yl (.eo A):=agT T;have t:kq P w (.eo A) .mI:=ajM T;have hS:=Jl I T Q D g ab ho;have hV:=A2 ho;have hK:∀b u,.eo A b=O u->.jz b=e':=λb u q=>(II T q).1;have ac:∀{b:U}{o:jA}{f:.g4}{ep:Nat},.yq->.mF->.eo A b=e':=λ{b o f ep}e d=>by
  cases q:.eo A b with
  |none=>rfl|some u=>
   obtain⟨_,vs,_,_,⟨J,_⟩|⟨J,_⟩⟩:=II T q;ext cm
   ext cm
 generalize .eo A=H at Y t hS hK ac;have ae:∀{b:U}{o:jA},.yq->.be->(.p7).get? b=O o:=λe n=>aia e n;have C:∀{b:U}{m:.cV},c.heap.Ns b m->(.p7).Ns b m:=λ{b m}#[o,f,ep,e,d,r]=>#[o,f,ep,ae e (ac e d),d,r];have nK:∀b o,.jz b=O o->.be:=λb o e=>by
  cases q:H b with
  |none=>rfl|some u=>rw[hK b u q]at e;cases e
 have af:K.In .p7:=λb o e=>ae (I b o e) (nK b o e);have hM:Mod K mg .p7:=#[af,C aa,#[a,C l,ai],let#[mc,h1,h2]:=aj;#[mc,C h1,h2]];have e0:.fJ .p7 .mJ [] c H:=#[y,hM,λb o e=>ajp e,SF (agD _ _),.dE,λb l=>.nX b l,t,.of_eq hg];have hl:D.length=.bh:=by rw[F6 g];exact am
 refine CP ((F _ af (C aa)).run .mJ [] c H #[D,[]] D (D.map toV) _ _ hr e0 (al c D hl) hV (an H _ Y hS)) λr p x=>?_;cases r with
 |error e=>exact(ao H e p x).elim|ok fl=>
  cases fl with
  |next=>exact sU x|brk=>exact sU x|cont=>exact sU x|ret u=>
   obtain⟨v,H',os,ap,un,ag,r',q⟩:=x;have ah:∀b o,.yq->p.heap.get? b=O o:=λb o e=>by
    cases q2:H b with
    |none=>exact un.keep b o e q2 (by intro z;exact .nX b z) @I|some u2=>
     rcases Y b with z|⟨ob,u3,z⟩;.rw[q2]at z;cases z
     .have z2:=un.vD b ob _ z;obtain⟨e1,_⟩:=t b _ z;obtain⟨J,_⟩:=ag b _ z2;rw[e]at e1;cases e1;exact J
   have aq:K.In .f8:=λb o e=>ah b o (I b o e);obtain⟨as,au⟩:=Dw.reads (R:=R) (cl:=cl) ag aq d0 v u q r';exact#[u,as,y,au,OldK.of_keep ah,os,ap]
theorem acA{Q:.fJ}(h:WData.layableAll Q=f'):.yn:=λd T=>(PySem.W.layableW_iff.mp (xp.mp h d T)).2.2
theorem US:∀(v:@q Codec)(a:.gD v),(.eY v a).length=.d2
 |[],_=>y|c::v,a=>by show(.eY v a.2).length+1=.d2+1;rw[US v a.2]
theorem afl{r:OpenSpec}{k:Nat}{q:kS}{m:.bX}{l:.cV->.ih}{Q:jR->.ih}{d:DefRec}{K:xX->jd}{CX:jR->xg}{ps:.bX}{sp:jR->Sp}(T:r.wellSaid=f')(ah:d.params.defaults=[])(x:r.args.length=.bh)(A:jy k .mJ)(B:.DR)(F:∀(w:jR)(mg:.cV)(t:U)(h:jo),Q w h->(.e8).In h->.p6->mg d.name=.ja t->∃c:iZ,(.nY s c)/\∀g:jo,(.e8).In g->g.Ns .g1 mg->iN r.prog w .e8 mg g (CX w) k t c ps (sp w))(C:∀(w:jR)(H:Hp)(xs:.L)(a:.gD .fK),yl H->Codec.withinAll .fK a=f'->Codec.app .fK r.asked a=f'->tP .e8 H xs (.eY .fK a)->sp w xs H (λv D=>Dw .e8 D v .DS) .tC)(M:∀(w:jR)(H:Hp)(s:iV)(e:iB)(p:iV),CX w [] H s .g8 e p->False):acu q m l Q r d [] (λf vs=>PySem.call f vs):=by
 intro w J s₁ mg mb G Y t o pm cd ai dV kV ho hd aj hD aa hg ab ak as ac ae al af am;obtain⟨a,e1,e2⟩:=PySem.W.os_pre_some ac;obtain⟨e3,L⟩:=Codec.encAll_of_decAll .fK ab a e1;subst e3;have I:=B w _ Y;obtain⟨c,hb,hF⟩:=F w mg t _ Y I G.T.g aa;refine PySem.W.enter_call (CP (afz (R:=[]) (cl:=classAt J.heap) (d0:=.DS) I G.T.g G.T.b G.T.builtins G.T.nolimit hg af (VG _ _) (acA ae) A hF hb (by rw[US];exact x) (λH xs hO hS=>C w H xs a hO L e2 hS) λH e p=>M w H s₁ e p) λr' p hq=>?_);obtain⟨u,ag,rfl,h1,h2,h3,h4⟩:=hq;exact#[.n #[u,_,ag,y,.cY,h1,(OpenSpec.post_iff T L _ _).mpr y,λz=>sS (show ij=f' from z)],h2,h3,h4]
end L2
end
namespace L2
open PySem PySem.Spec PyProof.Rows
theorem lQ.there(x:.b7 o):∃t,.dy=O t:=by
 cases o with
 |lst xs=>let#[_,_,_,_,e]:=x;grind|tup xs=>let#[_,_,_,t,e,_]:=x;grind|dK kvs=>let#[_,_,_,_,o,_,_,e,_]:=x;grind|dT kvs=>let#[_,_,_,_,o,_,_,e,_]:=x;grind|set S n=>let#[o,_,_,_,e,_]:=x;grind|ins C l c=>let#[_,_,_,e,_]:=x;grind|own y=>exact x|xd c=>let#[_,#[_,_,_,e,_],_]:=x;grind|JR lo g=>let#[_,_,_,e]:=x;grind|iT t u=>let#[e,_]:=x;grind|yw ps=>exact#[_,.sR]|met f y=>exact#[_,.sR]|ext φ=>let#[_,e,_]:=x;exact e
theorem kq.no(x:.cD)(e:.dy=e'):.cT:=by
 cases q:H a with
 |none=>rfl|some u=>let#[t,l]:=(x a u q).there;grind
def Ff(C:U)(N:U->.n)(H:Hp)(h:jo)(e:U):.n:=N e/\H e=e'/\∃T x,N T/\H T=e'/\T≠e/\∃p g t ts,.aP e=O p/\.ys/\.tD/\g[1]? =.ja T/\.aP T=O t/\t.data=.a5 ts/\ts[3]? =O .none
def QP(C:U)(N:U->.n)(H:Hp)(h:jo)(e:U):.n:=N e/\H e=e'/\∃p g x,.aP e=O p/\p.cls=@h C/\.tD/\g[0]? =O x/\g[1]? =O .none
def nU(X:Cx)(pins:.aL)(b:U):.n:=.lQ=e'/\.k6 b
structure Qt(X:Cx)(C:U)(pins:List (U×jA))(H:Hp)(s:iV)(e:U):Prop where
 inv:∃σ,Inv X pins σ H s
 fly:Ff C (nU X pins) H s.heap e\/QP C (nU X pins) H s.heap e
def tY(X:Cx)(C:U)(E:XK):.n:=∀pins H s e,Qt X C @t H s e->.a9 H->X.xe (@h e) s
def iP(P:kS)(w:jR)(C:U):xg:=λI H s E e p=>∃a L,e=.aX/\p.os=s.os/\zp p.gens/\.CU/\kq P w L .f8/\Ff C (λb=>.ah b=e') L .f8 a/\.a9 L
theorem AH{h u B:jo}:∀{l:.gK},h.FunFrames u l->(∀b∈kF l,B.get? b=e')->h.FunFrames B l
 |[],_,_=>trivial|env::r,a,f=>by
  let#[hk,#[L,t,Q,_,k,T],c]:=a;have e:kF (env::r)=L::kF r:=by grind[kF]
  rw[e]at f;exact#[hk,.h,AH c .q]
structure ux(X:Cx):Prop where
 oJ:X.stack=X.env::X.outer
 fr:X.env.frame=O X.env.locals
 ex:X.ex=[]
theorem Inv.ajr(I:.D)(g:.fL)(h:.ah b=e'):.lQ=e':=by
 cases q:.lQ with
 |none=>rfl|some o=>let#[a,e]:=.eL q .q;grind
theorem Inv.jt(I:.D)(g:.fL)(h:.ah b=e'):.iz:=#[I.ajr g h,λp Q z=>by have:=(.cr Q).1;grind]
theorem Dd(I:.D)(T:ux X)(w:∀b,b∈t↔b∈.eW\/(.iz/\.be/\b∈t))(A:(xq .O t).StaysIn D)(h:D.FunFrames (xq .O t) .gN)(B:D.TracedAtW (xq .O t) e .gV x fl)(k4:.DT):.yt/\.ds H D/\.yu/\.yv/\∃T x,nU X @t T/\H T=e'/\T≠e/\∃p g a ts,.b6 e=O p/\.ys/\.tD/\g[1]? =.ja T/\.b6 T=O a/\a.data=.a5 ts/\ts[3]? =O fl:=by
 have Q:.yu:=λb o q n=>A b o (RG _ q n);have Y:.yv:=λb o q n=>by let#[_,U,h1,h2]:=I.stack.mem n;grind
 have aa:.eW=.cF::X.fs:=by rw[T.oJ];unfold kF Cx.fs kF;rw[xj,T.fr]
 have BR:∀b u,H b=O u->b∉t:=λb u q m=>by
  rcases(w b).mp m with m|⟨_,m,_⟩;.rw[I.Oy b m]at q;cases q
  grind
 have ab:∀b o,.lQ=O o->b∉X.fs->b∉t:=λb o q n m=>by
  rcases(w b).mp m with m|⟨m,_⟩
  .rw[aa]at m;rcases kc.mp m with z|z;.subst z;exact .Z (jZ q) (Nat.not_lt_of_le .o8)
   grind
  .rw[m.1]at q;cases q
 have f:=I.base;rw[T.ex]at f;refine#[#[λb o q n l J=>Q b o (f.keep b o q n l J) (ab b o q l),λb o q n l J=>?_,f.free,λb o q J=>?_,f.yo,f.vD,f.yp],λc u q=>?_,Q,Y,?_];.let#[M,L]:=f.slot b o q n l J;grind
 .let#[U,L]:=f.there b o q J;grind
 .refine(I.je c u q).vz (λb v l r=>Q b v r ?_) (λ_ r=>r) λ_ _ r=>r;rcases l with rfl|l;.exact BR b u q
  .exact BR b _ l
 .let#[p,g,k,a,ts,h1,h2,h3,h4,h5,h6,h7,h8,h9]:=B;have hT:nU X @t k/\H k=e':=by
   by_cases m:k∈t
   .rcases(w k).mp m with m|⟨m1,m2,_⟩;.let#[_,U,L,q2]:=h.mem m;grind
    grind
   .have q:.ah k=e':=by
     cases z:.ah k with
     |none=>rfl|some U=>grind[RG]
    exact#[I.jt T.ex q,I.je.no q]
  grind
theorem Qt.ako{C:U}{H:Hp}{s:iV}{e:U}(t:Qt X C @t H s e)(T:ux X){M:Model}{Q:Unit->.dA}(k:∀D,.yt->.ds H D->Ff C .iA H D e->Q () .em):wpAny M X.A (leaving .M (@h e)) Q E s:=by
 let#[#[σ,I],m]:=t;have f:.DU:=.DV
 rcases m with⟨a,w,g,x,ac,ae,r,p,l,u,ts,J,B,Y,c,hT,aa,h3⟩|⟨a,w,p,l,x,J,B,Y,ab,c⟩;.refine wpAny_leaving_nextW (base:=xq .O (e::g::.eW)) (a0:=x) f (AH (.my T.oJ I.stack) λb q=>sN _ (nD _ (nD _ (.mj T.oJ q)))) T.fr #[p,l,g,u,ts,J,B,Y,c,sN _ (nD _ jO),r,hT,aa,h3] .p8 .yx λD L=>?_;let#[A,y,h,v]:=L;rw[<-T.oJ]at y;ext cn
 .refine wpAny_leaving_firstW (base:=xq .O (e::.eW)) (a0:=x) f (AH (.my T.oJ I.stack) λb q=>sN _ (nD _ (.mj T.oJ q))) T.fr J .p8 .yx Y c ab λD L=>?_;let#[A,y,h,v]:=L;rw[<-T.oJ]at y;rw[B]at h;ext cn
theorem Hi{E:XK}:ux (wQ B P w K mg u N qual a f l A I s H E):=#[y,y,y]
theorem iI{E:XK}:tY (wQ .de P w K mg u N qual a f l A g s H E) C E:=by intro pins L p e t v;let#[σ,I]:=t.inv;refine t.ako Hi λD r1 r2 r3=>#[e,L,y,I.os,.c9,r1,r2,?_,v];let#[r,B,T,x,g1,c]:=r3;exact#[r.1,B,T,x,g1.1,c]
theorem vr{E:XK}(ok:.g9)(g:.fL):Passes (iP .bI X.w C) X E:=by intro pins σ H s e p I h;obtain⟨a,L,rfl,os,l,c,f,u,q⟩:=h;let#[r,B,T,x,g1,w,k]:=u;exact ok @t L p a #[#[σ,I.Z1 os c f l (ch:=[]) @I],.n #[I.jt g r,B,T,x,I.jt g g1,w,k]] q
theorem afN{E:XK}(Q:OwnCls x C a l X.mg .dQ)(FB:ExcBaseFacts B l ac a)(c:.en)(f:.dS)(g:.fL)(ok:.g9)(k:.da:=by decide):.qn (.bq np) ae af:=by
 ext Z;let#[tl,N,p,q,J,U,Y,sub,r,L,u,M,A,v,w,k5,mN,hC,hN,aa,T]:=Q.obj;refine wpAny_Raise_call_subT (C:=C) (nm:=p) (q:=q) (N:=N) (bs:=J) (bm:=tl) (hdct:=U) (sn:=Y) (sub:=sub) (ab:=r) (col:=L) (dd:=u) (k0:=M) (k1:=A) (k2:=v) (k3:=w) (k5:=k5) FB (mN:=mN) (T.hasType FB.hasBase) (I.ok.hd c) y aa (zB I f Q.bound .iB k);refine evalArgs_empty #[y,.au,I.bk _ _ hC,hN.keeps I.bk,T.keeps I.bk,λh' e m=>?_];let#[t,ht,_,_]:=m.there;exact ok @t H _ e #[#[σ,I.kept (t':=s.toks) m.keeps],@n #[I.jt g m.new,I.je.no m.new,_,_,_,ht,y,y,y,y]] h
theorem kh.okU(F:.fR a)(S:jb N ps (i4 st))(M:.DW)(T:.DX):.aX .a4 f a ps r:=by obtain⟨m,l,kV,p,B,q,D,c,v,rfl,lk,h⟩:=F.ex;exact ald lk h S M .aW
theorem kh.jc(F:.fR a)(S:jb N ps (i4 st))(T:.DX)(M:.DW:=by intro g H Q E h;repeat(obtain⟨x,h⟩:=h;try subst x);first|rfl|grind|ext t):.aX .a4 f a ps r:=F.okU S M T
abbrev ji(K:jd)(x:iA):=kh K x x
abbrev Cx.sq(X:Cx)(pn:.aL)(W:.cX):Cx:={X with pn:=X.pn++pn,xe:=W}
abbrev Cx.hand(X:Cx)(e:U):Cx:={X with A:=X.A.mark (.ja e),calm:=ij,xe:=.pE}
theorem Cx.Ok.sq(ok:X.Ok)(g:.aL)(W:.cX):(.iC).Ok:=#[ok.mod,ok.kind,ok.glob,ok.blt,ok.above,ok.inj,ok.has,ok.E6,ok.hd,ok.frames,ok.oJ,ok.JV,ok.bs,ok.vF,ok.ET,ok.EW,ok.tV,ok.Ad]
theorem Cx.Ok.hand(ok:X.Ok)(e:U):(.mK).Ok:=#[ok.mod,ok.kind,ok.glob,ok.blt,ok.above,ok.inj,ok.has,ok.E6,(λq=>.jr q),ok.frames,ok.oJ,ok.JV,ok.bs,ok.vF,ok.ET,ok.EW,ok.tV,ok.Ad]
theorem Inv.sq(I:.D):Inv (X.sq @t W) [] σ H s:=#[I.ok.sq @t W,I.os,.c9,I.base,I.loc,I.cell,.ej,I.qz,.xL,.bB,I.len]
theorem Inv.rA(ok:X.Ok)(I:Inv .iC @t σ H s):Inv X g σ H s:=#[ok,I.os,.c9,I.base,I.loc,I.cell,.ej,I.qz,.xL,.bB,I.len]
theorem Inv.hand(I:.D)(e:U):Inv .mK @t σ H s:=#[I.ok.hand e,I.os,.c9,I.base,I.loc,I.cell,.ej,I.qz,I.pin,.bB,I.len]
theorem Inv.Bo(ok:X.Ok)(I:Inv .mK @t σ H s):.D:=#[ok,I.os,.c9,I.base,I.loc,I.cell,.ej,I.qz,I.pin,.bB,I.len]
theorem SP.rA(ok:X.Ok)(h:SP .iC [] D f s):SP X g D f s:=by
 cases f with
 |next=>ext bw|brk=>ext bw|cont=>ext bw|ret u=>let#[v,a,L,I,r,q]:=h;exact#[v,a,L,I.rA ok,r,q]
theorem SP.Bo(ok:X.Ok)(h:SP .mK @t D f s):SP X @t D f s:=by
 cases f with
 |next=>ext bx|brk=>ext bx|cont=>ext bx|ret u=>let#[v,a,L,I,r,q]:=h;exact#[v,a,L,I.Bo ok,r,q]
theorem Inv.QD{t:@D}(I:.D)(T:ux X)(un:.yt)(h:.ds H D)(Q:.yu)(aa:.yv)(ab:∀b∈t,b∉.eW->∀o,.cE->∃g,.e0=.a5 g)(ac:∀p∈X.pn++@t,p.1∉t):.gU:=by
 have C:.DT:=λb o q n=>by
  by_cases hb:b∈.eW;.grind
  .by_cases k:b∈t;.grind
   .exact#[o.slots,Q b o q k]
 have w:∀{b:U}{m:.cV},s.heap.Ns b m->D.Ns b m:=λ{b m}q=>aml (h:=s.heap) (h':=D) C q;have l:∀{c:U}{v:.E iB},.Cb:=λ{c v}q=>by
  let#[o,A,Y]:=q;let#[M,e]:=C c o A λg z=>by rw[Y]at z;cases z
  exact#[_,e,Y]
 refine#[I.ok,I.os,.c9,.mj T.ex un,?_,?_,.ej,I.qz,?_,h,I.len]
 .let#[m,L,hl]:=I.loc;refine#[m,w L,λi x v y J a=>?_];let#[u,r,lk]:=hl i x v y J a;refine#[u,r,?_];rcases lk with lk|⟨lk,c,B,f⟩;.exact .n lk
  .exact @n #[lk,c,B,l f]
 .intro x c y;let#[v,J]:=.ee y;grind
 .intro p hp;let#[y,J,a,B,f]:=.cr hp;grind
def QQ(C:U)(N:U->.n)(H:Hp)(h:jo)(e:U)(u:iB):.n:=N e/\H e=e'/\∃T x,N T/\H T=e'/\T≠e/\∃p g t ts,.aP e=O p/\.ys/\.tD/\g[1]? =.ja T/\.aP T=O t/\t.data=.a5 ts/\ts[3]? =O u
theorem ux.kF(T:ux X):.eW=.cF::X.fs:=by rw[T.oJ];unfold L2.kF Cx.fs L2.kF;rw[xj,T.fr]
theorem OK(I:.D)(T:ux X)(L:∀b∈l,.iz):∀p∈X.pn++@t,p.1∉l++.kC:=λp Q m=>by
 rcases k8.mp m with m|m;.exact(L _ m).2 p Q y
 .rw[T.kF]at m;let#[_,_,r,B,_]:=.cr Q;grind
theorem O4{H:Hp}(l:@D)(L:∀b∈l,.iz/\.be):∀b,b∈l++.kC↔b∈.kC\/(.iz/\.be/\b∈l++.kC):=.h
theorem SN{C:U}{σ:St}{H:Hp}{s:iV}{e:U}{u:iB}{M:Model}{m:oR}{Q:Unit->.dA}{a:.cX}(T:ux X)(I:.D)(f:QQ C .iA H .O e u)(k:∀D,.gU->QQ C .iA H D e .none->Q () .em):wpAny M m (setFlight (@h e) e') Q a s:=by
 let#[y,w,c,x,aa,ab,J,p,g,t,ts,Y,B,h,r,v,A,h3]:=f;have L:∀b∈[e,c],.iz/\.be:=.h
 refine wpAny_setFlight_noneW (base:=xq .O ([e,c]++.kC)) (l:=X.stack) (cls:=@h C) (a0:=x) (fl:=u) .p8 (AH I.stack .yx) #[p,g,c,t,ts,Y,B,h,r,sN _ @I,J,v,A,h3] λD k1 k2 k3 k4=>?_;let#[r1,r2,r3,r4,r5]:=Dd I T (O4 [e,c] L) k1 k2 k3.at λb o q n=>#[o.slots,k4 b o q n];refine .gE #[y,w,r5];grind
theorem ade{C:U}{σ:St}{H:Hp}{s:iV}{e:U}{M:Model}{Q:Unit->.dA}{t:.cX}(T:ux X)(I:.D)(f:Ff C .iA H .O e\/QP C .iA H .O e)(k:∀D,.gU->QQ C .iA H D e (rawInt .cF)->Q () .em):wpAny M X.A (noteFrame (@h e) .M) Q t s:=by
 have m:.DU:=.DV
 rcases f with⟨g,w,c,x,ac,ae,u,p,r,oT,ts,a,B,J,Y,hT,aa,h3⟩|⟨g,w,p,r,x,a,B,J,ab,Y⟩
 .have L:∀b∈[e,c],.iz/\.be:=.h
  refine wpAny_noteFrame_onW (base:=xq .O ([e,c]++.kC)) (a0:=x) m .DY T.fr #[p,r,c,oT,ts,a,B,J,Y,sN _ @I,u,hT,aa,h3] .p8 (sN _ @I) λD N=>?_;let#[A,y,h,v]:=N;rw[<-T.oJ]at y;let#[r1,r2,r3,r4,r5]:=Dd I T (O4 [e,c] L) A y h v;refine .gE #[g,w,r5];grind
 .have L:∀b∈[e],.iz/\.be:=.h
  unfold noteFrame;simp only[T.fr];refine iH (wpAny_field a J Y ?_);rw[.d3];refine wpAny_entryW (base:=xq .O ([e]++.kC)) (a0:=x) m .DY T.fr a .p8 (sN _ @I) J (BY.mp Y).1 ab λD N=>?_;let#[A,y,h,v]:=N;rw[<-T.oJ]at y;rw[B]at h;let#[r1,r2,r3,r4,r5]:=Dd I T (O4 [e] L) A y h v;refine .gE #[g,w,r5];grind
theorem nU.rA(q:nU .iC k b):nU X g b:=#[q.1,λp Q=>q.2 p .q]
theorem ai0{x:iA}{m:.Y}{M:XK->TS}(T:ux X)(Q:OwnClsQ x C m ab X.mg .dQ)(k:m.contains (.af "BaseException")=f')(l:.dS)(w:∀g W c,tY .iC C c->qW .iC A (M c))(hs:∀e,qW .mK (b0::aa) th)(hd:.da:=by decide):PS X (.Try A [.ExceptHandler (O (.bq np)) e' (b0::aa) ac] [] [] ae) (λD σ H=>M (λ_ _ L=>∀a,th D a L) D σ H):=by
 ext Z;refine wpAny_Try_except ?_;refine rQ (w @t _ _ ?_ [] s σ H D I.sq h) (λf s1 q=>?_) .lP
 .intro af L p e t U;let#[a,Y]:=t.inv;have fl:Ff C .iA L .f8 e\/QP C .iA L .f8 e:=by
   rcases t.fly with⟨r,B,T0,a0,J,f4⟩|⟨r,B⟩;.exact .n #[r.rA,B,T0,a0,J.rA,f4]
   .exact @n #[r.rA,B]
  refine ade T (Y.rA I.ok) fl λh1 J1 r=>SN T J1 r λh2 v B=>?_;refine handleBy_own k (zB (X:=X.hand e) (v.hand e) l Q.bound #[y,Q.keeps v.bk,?_,?_] hd);.let#[_,_,_,_,_,_,_,oe,_,_,_,he,hc,_]:=B;grind
  .refine SN T v B λh3 J3 J=>?_;exact rQ (hs e @t _ a L D (J3.hand e) (U a)) (λf s4 q=>q.Bo I.ok) λ_ _ q=>q.elim
 .cases f with
  |next=>exact FA (q.rA I.ok)|brk=>exact q.rA I.ok|cont=>exact q.rA I.ok|ret u=>exact q.rA I.ok
end L2
end
section
variable{b e row n d:Nat}{ts us:List jH}
namespace Mx
open Vaatta
def o:.ca A->.E A
 |.ok a=>O a|.error _=>e'
theorem oF(m:.ca A)(f:A->.ca B):o (m>>=f)=(o m).bind λa=>o (f a):=by cases m<;>rfl
theorem Eg(h:o m=O a):m=.ok a:=by
 cases m with
 |ok b=>cases h;rfl|error _=>cases h
theorem lI{A B:Type}{m:.ca A}{f:A->.ca B}{b:B}(h:(m>>=f)=.ok b):∃a,m=.ok a/\f a=.ok b:=by
 cases m with
 |ok a=>exact#[a,y,h]|error _=>cases h
theorem l5{A B:Type}{m u:.ca A}{f g:A->.ca B}(D:m=u)(M:∀a,u=.ok a->f a=g a):(m>>=f)=(u>>=g):=by
 subst D;cases m with
 |ok a=>exact M a y|error _=>rfl
theorem AJ(h:.tF=.ok us):.df:=by
 unfold eatSign at h;ext J;.cases h;rename_i h;cases ts with
  |nil=>simp[signNext]at h|cons t r=>simp
 .cases h
theorem AI(h:.cN w ts=.ok us):.df:=by
 unfold eatWord at h;ext J;.cases h;rename_i h;cases ts with
  |nil=>simp[wordNext]at h|cons t r=>simp
 .cases h
theorem Lg(h:.yy=f'):.kE:=by
 cases ts with
 |nil=>simp[wordNext]at h|cons t r=>simp
theorem qF(h:.mh b ts):.kE:=by
 cases ts with
 |nil=>simp[signNext]at h|cons t r=>simp
theorem UB(h:.mL=O m):.kE:=by
 cases ts with
 |nil=>simp[opNext,SIGNOPS,signNext]at h|cons t r=>simp
structure Len(e n:Nat):Prop where
 ex:∀d ts x us,expr e n d ts=.ok (x,us)->us.length<ts.length
 bi:∀row d ts x us,binary e n row d ts=.ok (x,us)->us.length<ts.length
 mo:∀row d y ts x us,more e n row d y ts=.ok (x,us)->us.length<=ts.length
 si:∀d ts x us,signed e n d ts=.ok (x,us)->us.length<ts.length
 at_:∀d ts x us,atom e n d ts=.ok (x,us)->us.length<ts.length
 el:∀d c ts x us,elements e n d c ts=.ok (x,us)->us.length<ts.length
 se:∀d c ts x us,someElements e n d c ts=.ok (x,us)->us.length<ts.length
theorem DY(e:Nat):∀n,Len e n
 |0=>by refine .tG<;>intros<;>rename_i h<;>simp[expr,binary,more,signed,atom,elements,someElements]at h|n+1=>by
  have L:=DY e n;refine .tG
  .intro d ts x us h;rw[expr]at h;ext J
   .rename_i p;ext aw
    .ext as;obtain⟨s,M,h⟩:=lI h;let#[#[t,k],g,h]:=lI h;let#[I,B,h]:=lI h;let#[#[f,U],T,h]:=lI h;cases h;have u:=Lg p;have H:=.kc D;have J:=AI M;have q:=.kc g;have v:=AI B;have a:=.kc T;omega
   .exact .eZ h
  .intro row d ts x us h;rw[binary]at h;ext J;.exact .ms L.si h
   .ext as;have u:=.eZ D;have H:=L.mo _ _ _ _ _ _ h;omega
  .intro row d y ts x us h;rw[more]at h;ext J;.grind
   .rename_i m Q;ext as;have l:=UB Q;have u:=.eZ D;dsimp only at h;ext J;.cases h;omega
    .have H:=L.mo _ _ _ _ _ _ h;omega
  .intro d ts x us h;rw[signed]at h;ext J
   .rename_i p;have l:.kE:=by grind[qF]
    ext aw
    .ext as;cases h;have u:=.ms L.si D;omega
   .exact .ms L.at_ h
  .intro d ts x us h;cases ts with
   |nil=>simp[atom]at h|cons t r=>
    rw[atom]at h;simp only[lH];ext J;.grind[lH]
    .ext J
     .ext J
      .rename_i w;have l:=qF w;ext aw
       .ext aw
        .ext as;have u:=L.el _ _ _ _ _ D;dsimp only at h;ext J;.cases h;omega
         .cases h
      grind
     .ext J;.grind
      .ext J
       .ext aw
        .ext as;obtain⟨s,M,h⟩:=lI h;cases h;have u:=.kc D;have H:=AJ M;omega
       .ext J
        .ext aw
         .ext as;cases h;have u:=L.el _ _ _ _ _ D;omega
        .cases h
  .intro d c ts x us h;rw[elements]at h;ext J;.grind[qF]
   .exact L.se _ _ _ _ _ h
  .intro d c ts x us h;rw[someElements]at h;let#[#[y,A],D,h]:=lI h;have u:=.kc D;dsimp only at h;ext J;.rename_i w;cases h;grind
   .let#[s,M,h]:=lI h;let#[#[ys,k],g,h]:=lI h;cases h;have H:=AJ M;have J:=L.se _ _ _ _ _ g;grind
structure akO(e n:Nat):Prop where
 ex:∀d ts,12*ts.length+9<=n->expr e (n+1) d ts=expr e n d ts
 bi:∀row d ts,12*ts.length+(9-row)<=n->1<=row->row<=6->binary e (n+1) row d ts=binary e n row d ts
 mo:∀row d y ts,12*ts.length+1<=n->1<=row->row<=5->more e (n+1) row d y ts=more e n row d y ts
 si:∀d ts,12*ts.length+2<=n->signed e (n+1) d ts=signed e n d ts
 at_:∀d ts,12*ts.length+1<=n->atom e (n+1) d ts=atom e n d ts
 el:∀d c ts,12*ts.length+11<=n->elements e (n+1) d c ts=elements e n d c ts
 se:∀d c ts,12*ts.length+10<=n->someElements e (n+1) d c ts=someElements e n d c ts
theorem xJ(e:Nat):∀n,akO e n
 |0=>by
  refine .tG<;>intros<;>omega
 |n+1=>by
  have F:=.iD
  have L:=DY e n
  refine .tG
  ·intro d ts f
   conv=>lhs;rw[expr]
   conv=>rhs;rw[expr]
   split
   ·rename_i p
    have u:=Lg p
    split
    ·rfl
    ·refine .e0 .mN
     have l:=.kc D
     refine .tH
     have g:=AI M
     refine .e0 λ#[t,q]h=>?_
     have v:=.kc h
     refine l5 y λI B=>?_
     have a:=AI B
     exact .e0 @I
   ·exact .yz
  ·intro row d ts f D H
   conv=>lhs;rw[binary]
   conv=>rhs;rw[binary]
   split
   ·exact F.si _ _ @h
   ·refine l5 .yz .mN
    have l:=.eZ D
    exact .DZ
  ·intro row d C ts f D T
   conv=>lhs;rw[more]
   conv=>rhs;rw[more]
   split
   ·rfl
   ·rename_i m k
    have x:=UB k
    refine l5 .yz .mN
    have l:=.eZ D
    ext h
    split
    ·rfl
    ·exact .DZ
  ·intro d ts f
   conv=>lhs;rw[signed]
   conv=>rhs;rw[signed]
   split
   ·rename_i p
    have x:.kE:=by
     grind[qF]
    split
    ·rfl
    ·exact l5 (F.si _ _ @h) @I
   ·exact F.at_ _ _ @h
  ·intro d ts f
   cases ts with
   |nil=>rfl
   |cons t r=>
    simp only[lH]at f
    conv=>lhs;rw[atom]
    conv=>rhs;rw[atom]
    have Q:∀b,.mh b r→.mf r.drop 1<.ek:=by grind[qF]
    split
    ·rfl
    ·split
     ·split
      ·rename_i w
       have x:=Q _ w
       split
       ·rfl
       ·split
        ·rfl
        ·exact .D0
      ·rfl
     ·split
      ·rfl
      ·split
       ·split
        ·rfl
        ·exact .e0 @I
       ·split
        ·split
         ·rfl
         ·exact .D0
        ·rfl
  ·intro d c ts f
   conv=>lhs;rw[elements]
   conv=>rhs;rw[elements]
   split
   ·rfl
   ·exact F.se _ _ _ @h
  ·intro d c ts f
   conv=>lhs;rw[someElements]
   conv=>rhs;rw[someElements]
   refine .e0 λ#[C,A]D=>?_
   have l:=.kc D
   ext h
   split
   ·rfl
   ·refine .tH
    have g:=AJ M
    exact l5 (F.se _ _ _ @h) @I
def ni(ts:.H):Nat:=.dF+12
def ki(e d:Nat)(ts:.H):Got:=expr e .kG d ts
def mj(e row d:Nat)(ts:.H):Got:=binary e .kG row d ts
def qP(e row d:Nat)(x:.aB)(ts:.H):Got:=more e .kG row d x ts
def oC(e d:Nat)(ts:.H):Got:=signed e .kG d ts
def BI(e d:Nat)(ts:.H):Got:=atom e .kG d ts
def sY(e d c:Nat)(ts:.H):=elements e .kG d c ts
def vR(e d c:Nat)(ts:.H):=someElements e .kG d c ts
theorem ZR{A:Type}{f:Nat->A}{k:Nat}(h:∀n,k<=n->f .b5=f n):∀n m,k<=n->n<=m->f m=f n:=by
 intro n m hk M;induction m with
 |zero=>grind|succ m I=>grind
theorem ui{A:Type}{f:Nat->A}{k:Nat}(h:∀n,k<=n->f .b5=f n){m:Nat}(a:k<=n)(M:k<=m):f n=f m:=by
 rcases Nat.le_total n m with q|q;.exact(ZR h n m a q).symm
 .exact ZR h m n M q
theorem BQ(h:.dF+9<=n):expr e n d ts=.mO:=ui (f:=λn=>expr e n d ts) (k:=.dF+9) (λn f=>(.iD).ex d ts f) h .kH
theorem Q2(h:.dF+(9-row)<=n)(D:1<=row)(L:row<=6):binary e n row d ts=.yA:=ui (f:=λn=>binary e n row d ts) (k:=.dF+(9-row)) (λn f=>(.iD).bi row d ts f D L) h .kH
theorem aai(h:.dF+1<=n)(D:1<=row)(T:row<=5):more e n row d x ts=.cv x ts:=ui (f:=λn=>more e n row d x ts) (k:=.dF+1) (λn f=>(.iD).mo row d x ts f D T) h .kH
theorem Z'(h:.dF+2<=n):signed e n d ts=.qa:=ui (f:=λn=>signed e n d ts) (k:=.dF+2) (λn f=>(.iD).si d ts f) h .kH
theorem alP(h:.dF+1<=n):atom e n d ts=BI e d ts:=ui (f:=λn=>atom e n d ts) (k:=.dF+1) (λn f=>(.iD).at_ d ts f) h .kH
theorem aan{c:Nat}(h:.dF+11<=n):elements e n d c ts=sY e d c ts:=ui (f:=λn=>elements e n d c ts) (k:=.dF+11) (λn f=>(.iD).el d c ts f) h .kH
theorem aaa{c:Nat}(h:.dF+10<=n):.D1=vR e d c ts:=ui (f:=λn=>.D1) (k:=.dF+10) (λn f=>(.iD).se d c ts f) h .kH
theorem Dr(h:.mO=.mP):.df:=(DY e _).ex _ _ _ _ h
theorem C6(h:.yA=.mP):.df:=(DY e _).bi _ _ _ _ _ h
theorem S4(h:.qa=.mP):.df:=(DY e _).si _ _ _ _ h
theorem aij(p:.tI=f'):.mO=if .qb then .dB .tJ else
  .D2:=by
 have g:=Lg p
 conv=>lhs;unfold ki ni;rw[expr]
 rw[ip p]
 split
 ·rfl
 ·refine .e1 .mN
  have l:=Dr D
  refine .tH
  have h:.bw<A.length:=AI M
  refine .e1 λ#[t,k]r=>?_
  have x:=Dr r
  refine l5 y λI B=>?_
  have a:.iE<.dd:=AI B
  exact .e1 λ#[t,m]T=>y
theorem ae7(p:.tI=ij):.mO=mj e 1 d ts:=by grind[ki,ni,expr,Q2]
theorem ad9:mj e 6 d ts=.qa:=by grind[mj,ni,binary,Z']
theorem U3(D:1≤row)(T:row≤5):.yA=.D3:=by
 conv=>lhs;unfold mj ni;rw[binary]
 rw[.ev]
 refine l5 (by grind[Q2]) .mN
 have l:=C6 D
 grind[aai]
theorem zl(D:1≤row)(T:row≤5):.cv x ts=match .mL with
  |e'=>.ok (x,ts)
  |O m=>.fS d .aK>>=λC=>if row=3 then .ok (.app m [x,C.1],C.2)else .cv (.app m [x,C.1]) C.2:=by
 conv=>lhs;unfold qP ni;rw[more]
 cases k:.mL with
 |none=>rfl
 |some m=>
  ext h
  refine l5 (by grind[Q2]) .mN
  have l:=C6 D
  ext h
  split
  ·rfl
  grind[aai]
theorem ac3(p:.tK=f'):.qa=if .qb then .dB .tJ else
  (oC e .cy .aK>>=λx=>.ok (.app .D4 [x.1],x.2)):=by
 have a:.kE:=by
  grind[qF]
 conv=>lhs;unfold oC ni;rw[signed]
 rw[ip p]
 split
 ·rfl
 ·exact l5 (Z' @h) .tL
theorem ac4(p:.tK=ij):.qa=BI e d ts:=by grind[oC,ni,signed,alP]
theorem adg:sY e d c ts=if .ad c ts then .ok ([],.kI)else vR e d c ts:=by grind[sY,ni,elements,aaa]
theorem R7:vR e d c ts=(.mO>>=λx=>if .ad c x.2 then .ok ([x.1],x.2.drop 1)else
  (.cb e 44 x.2>>=λu=>vR e d c u>>=λC=>.ok (x.1::C.1,C.2))):=by
 conv=>lhs;unfold vR ni;rw[someElements]
 refine .e1 λ#[C,A]D=>?_
 have l:=Dr D
 ext h
 split
 ·rfl
 ·refine .tH
  have a:.bw<A.length:=AJ M
  exact l5 (aaa @h) λ#[C,k]r=>y
theorem amq:BI e d []=.mr 4 e:=.Q
theorem afe:BI e d .aC=
  if .e9 then
   if .ad 46 r then(match .fM with
    |[]=>.mr 4 e
    |a::s=>if a.small then .ok (.occ .iF a.text,s)else .mr 4 a.pos)
   else .ok (.num .iF,r)
  else if t.small then
   if .ad 40 r then(match .tM with
    |e'=>.mr 6 t.pos
    |O (m,k)=>
     if .qb then .dB (here 5 e r)
     else .qd>>=λx=>if x.1.length=k then .ok (.app m x.1,x.2)else .mr 6 t.pos)
   else .ok (.occ 0 .ax,r)
  else if .bW 35 then .ok (.own,r)
  else if .bW 40 then
   if .qb then .mr 5 t.pos
   else .cc r>>=λx=>.cb e 41 x.2>>=λs=>.ok (x.1,s)
  else if .bW 91 then
   if .qb then .mr 5 t.pos
   else .yB>>=λx=>.ok (.app .list x.1,x.2)
  else .mr 4 t.pos:=by
 conv=>lhs;unfold BI ni;rw[atom]
 simp only[lH]
 split
 ·rfl
 ·split
  ·split
   ·rename_i w
    have f:=qF w
    cases B:.tM with
    |none=>rfl
    |some p=>
     let#[m,k]:=p
     ext h
     split
     ·rfl
     ·exact l5 (aan @h) .tL
   ·rfl
  ·split
   ·rfl
   ·split
    ·split
     ·rfl
     ·exact .e1 .tL
    ·split
     ·split
      ·rfl
      ·exact l5 (aan @h) .tL
     ·rfl
structure Acc where
 parts:Nat
 occs:List (Nat×Bytes)
 own:Bool
def Acc.add(a:Acc)(x:.aB):Acc:=#[.iG,a.occs++x.occs,a.own||x.usesOwn]
def Acc.sh(a:Acc)(xs:.eX):Acc:=#[.ce+.cd xs,a.occs++occsAll xs,a.own||ownAny xs]
def Acc.one(a:Acc):.E Acc:=if 60<.ce+1 then e' else O .yC
abbrev R:=Acc×.H
abbrev Rd:=Acc->.H->.E R
def acc(p:.H->Got):Rd:=λa ts=>match p ts with
 |.ok (x,us)=>.ha|.error _=>e'
theorem akL{b:Acc}(h:acc p a ts=.kJ):b.parts<=60:=by
 unfold acc at h;ext J
 .ext J;.cases h;assumption
  .cases h
 .cases h
theorem PD(Q:.D5){b:Acc}(h:acc p a ts=.kJ):.df:=by grind[acc]
def jE(ts:.H):Nat:=
 if .ad 124 ts then 1 else if .ad 38 ts then 2 else if .ad 61 ts||.ad 60 ts then 3 else if .ad 43 ts||.qf then 4
 else if .ad 42 ts||(.ad 47 ts||.ad 37 ts)then 5 else 0
theorem sign_one(h:.mh a ts)(f:a≠b):.mt b ts:=by
 cases ts with
 |nil=>rfl|cons t r=>have h:(.b6==2&&.ax==[a])=f':=h;show(.b6==2&&.ax==[b])=ij;grind
theorem AQ(ts:.H)(row:Nat)(k:1<=row)(T:row<=5):(.mL=e'↔.b7≠row):=by
 have c:row=1\/row=2\/row=3\/row=4\/row=5:=.t
 unfold jE;by_cases C:.mh 124 ts;.rcases c with rfl|rfl|rfl|rfl|rfl<;>simp[opNext,SIGNOPS,C,sign_one C (b:=38) (by decide),sign_one C (b:=61) (by decide),sign_one C (b:=60) (by decide),sign_one C (b:=43) (by decide),sign_one C (b:=45) (by decide),sign_one C (b:=42) (by decide),sign_one C (b:=47) (by decide),sign_one C (b:=37) (by decide)]
 .have C:.mt 124 ts:=.h
  by_cases A:.mh 38 ts;.rcases c with rfl|rfl|rfl|rfl|rfl<;>simp[opNext,SIGNOPS,C,A,sign_one A (b:=61) (by decide),sign_one A (b:=60) (by decide),sign_one A (b:=43) (by decide),sign_one A (b:=45) (by decide),sign_one A (b:=42) (by decide),sign_one A (b:=47) (by decide),sign_one A (b:=37) (by decide)]
  .have A:.mt 38 ts:=.h
   by_cases g:.mh 61 ts;.rcases c with rfl|rfl|rfl|rfl|rfl<;>simp[opNext,SIGNOPS,C,A,g,sign_one g (b:=60) (by decide),sign_one g (b:=43) (by decide),sign_one g (b:=45) (by decide),sign_one g (b:=42) (by decide),sign_one g (b:=47) (by decide),sign_one g (b:=37) (by decide)]
   .have g:.mt 61 ts:=.h
    by_cases D:.mh 60 ts;.rcases c with rfl|rfl|rfl|rfl|rfl<;>simp[opNext,SIGNOPS,C,A,g,D,sign_one D (b:=43) (by decide),sign_one D (b:=45) (by decide),sign_one D (b:=42) (by decide),sign_one D (b:=47) (by decide),sign_one D (b:=37) (by decide)]
    .have D:.mt 60 ts:=.h
     by_cases L:.mh 43 ts;.rcases c with rfl|rfl|rfl|rfl|rfl<;>simp[opNext,SIGNOPS,C,A,g,D,L,sign_one L (b:=45) (by decide),sign_one L (b:=42) (by decide),sign_one L (b:=47) (by decide),sign_one L (b:=37) (by decide)]
     .have L:.mt 43 ts:=.h
      by_cases f:.mh 45 ts;.rcases c with rfl|rfl|rfl|rfl|rfl<;>simp[opNext,SIGNOPS,C,A,g,D,L,f,sign_one f (b:=42) (by decide),sign_one f (b:=47) (by decide),sign_one f (b:=37) (by decide)]
      .have f:.qf=ij:=.h
       by_cases a:.mh 42 ts;.rcases c with rfl|rfl|rfl|rfl|rfl<;>simp[opNext,SIGNOPS,C,A,g,D,L,f,a,sign_one a (b:=47) (by decide),sign_one a (b:=37) (by decide)]
       .have a:.mt 42 ts:=.h
        by_cases t:.mh 47 ts;.rcases c with rfl|rfl|rfl|rfl|rfl<;>simp[opNext,SIGNOPS,C,A,g,D,L,f,a,t,sign_one t (b:=37) (by decide)]
        .have t:.mt 47 ts:=.h
         cases h:.ad 37 ts<;>rcases c with rfl|rfl|rfl|rfl|rfl<;>simp[opNext,SIGNOPS,C,A,g,D,L,f,a,t,h]
theorem AW(h:.b7≠0):.kE:=by
 cases ts with
 |nil=>exact .Z y h|cons t r=>simp
def vd(t:Rd)(row:Nat):Nat->Rd
 |0,_,_=>e'|f+1,b,ts=>if .b7=row then .e2 λb=>(t b .aK).bind λq=>vd t row f q.1 q.2 else .qg
def lV(t:Rd)(row:Nat):Rd:=λb ts=>vd t row (.av+1) b ts
def mE(p:Rd):.n:=∀a ts b us,p a ts=.kJ->.df
theorem aet(c:row≠0)(a:mE t):∀(f:Nat)(b:Acc)(ts:.H),.av<f→vd t row (f+1) b ts=.yE:=by
 intro f
 induction f with
 |zero=>omega
 |succ f I=>
  intro b ts h
  conv=>lhs;rw[vd]
  conv=>rhs;rw[vd]
  split
  ·rename_i k
   have x:=.tO
   cases b.one with
   |none=>rfl
   |some l=>
    dsimp only[F4]
    cases e:t l .aK with
    |none=>rfl
    |some q=>exact I _ _ (by have:=.ms a e;omega)
  ·rfl
theorem adH(c:row≠0)(a:mE t){b:Acc}(h:.av<f):.yE=.tP:=ui (f:=λf=>.yE) (k:=.av+1) (by grind[aet]) h .ba
theorem Be(c:row≠0)(f:mE t){b:Acc}(h:.b7=row):
  .tP=.e2 λb=>(t b .aK).bind λq=>lV t row q.1 q.2:=by
 conv=>lhs;unfold lV;rw[vd]
 rw[ip h]
 have x:=.tO
 cases b.one with
 |none=>rfl
 |some l=>
  dsimp only[F4]
  cases e:t l .aK with
  |none=>rfl
  |some q=>exact adH c f (by have:=.ms f e;omega)
theorem rB{b:Acc}(h:¬.b7=row):.tP=.qg:=by grind[lV,vd]
theorem ahl(a:row≠0)(f:mE t):∀(n:Nat)(ts:.H)(b c:Acc)(us:.H),.av<=n->.tP=.qh->.cQ<=.av:=by
 intro n;induction n with
 |zero=>
  intro ts b c us h e;have:ts=[]:=.h
  ext Y;rw[rB (by intro q;exact a q.symm)]at e;grind|succ n I=>
  intro ts b c us h e;by_cases k:.b7=row;.rw[Be a f k]at e;have x:=.tO;cases D:b.one with
   |none=>grind|some l=>
    rw[D]at e;dsimp only[F4]at e;cases M:t l .aK with
    |none=>grind|some q=>rw[M]at e;have u:=.ms f M;grind
  grind[rB]
def andThen(p q:Rd):Rd:=λa ts=>(p a ts).bind λr=>q r.1 r.2
theorem Mj(c:row≠0)(Q:mE p)(f:mE t):mE (.bB p (lV t row)):=by
 intro a ts b us h;unfold andThen at h;cases D:p a ts with
 |none=>grind|some r=>rw[D]at h;have u:=.ms Q D;have H:=ahl c f _ _ _ _ _ .ba h;omega
theorem XY(a:Acc)(m:Op)(x C:.aB):a.add .yF=({.dg with parts:=.qi+1}:Acc).add C:=by grind[Acc.add,Expr.parts,partsAll,Expr.occs,occsAll,Expr.usesOwn,ownAny]
theorem AO(m:Op)(x C:.aB):(.kK).parts=.hb+1+C.parts:=by grind[Expr.parts,partsAll]
theorem L'(e d:Nat)(D:1<=row)(T:row<=5)(r:row≠3):∀(n:Nat)(ts:.H)(x:.aB)(q:.aB×.H),.av<=n->.cv x ts=.ok q->.hb<=q.1.parts:=by
 intro n;induction n with
 |zero=>
  intro ts x q h M;have:ts=[]:=.h
  ext Y;rw[zl D T,.D6]at M;grind|succ n I=>
  intro ts x q h M;rw[zl D T]at M;cases p:.mL with
  |none=>grind|some m=>rw[p]at M;dsimp only at M;let#[#[y,us],l,M]:=lI M;rw[il r]at M;have u:=C6 l;grind[AO]
section
variable(e d:Nat)
theorem ahW(D:1<=row)(T:row<=5)(r:row≠3):∀(n:Nat)(ts:.H)(x:.aB)(a:Acc),.av<=n->.iH->acc (.cv x) a ts=lV .tQ row .dg ts:=by
 have Q:mE .tQ:=λa ts b us h=>PD (λts x us h=>C6 h) h;intro n;induction n with
 |zero=>
  intro ts x a h s;have:ts=[]:=.h
  ext Y;rw[rB .D7];unfold acc;rw[zl D T,.D6];grind|succ n I=>
  intro ts x a h s;by_cases k:.b7=row;.have t:=.tO;rw[Be @h Q k];cases p:.mL with
   |none=>grind[AQ]|some m=>
    unfold acc;rw[zl D T,p];ext h;cases l:.fS d .aK with
    |error f=>show e'=_;simp|ok q=>
     let#[C,us]:=q;have u:=C6 l;show(match(if row=3 then _ else .cv .kK us)with|.ok (x,us)=>_|.error _=>_)=_;rw[il r];show acc (.cv .yF) a us=_;unfold Acc.one;by_cases g:60<.qi+1;.rw[ip g];show _=e';unfold acc;cases M:.cv .kK us with
      |error f=>rfl|ok q=>
       ext cp
       rw[AO]at v;have B:60<.iG+1:=g;omega
     .rw[il g];dsimp only[F4];have B:¬60<.iG+1:=g;by_cases c:.iG+1+C.parts<=60;.rw[I us .yF a @h (by rw[AO];omega),XY];show .D8;rw[ip c];rfl
      .show .D8;rw[il c];show _=e';unfold acc;cases M:.cv .kK us with
       |error f=>rfl|ok q=>
        ext cp
        grind[AO]
  grind[rB,acc,zl,AQ]
theorem aeX(Q:.iH):acc (qP e 3 d x) a ts=if .d4 then(.dg).one.bind λb=>acc (mj e 4 d) b .aK else O (.dg,ts):=by
 unfold acc;rw[zl @h @h];by_cases k:.d4;.rw[ip k];cases p:opNext 3 ts with
  |none=>grind[AQ]|some m=>
   ext h;cases l:mj e 4 d .aK with
   |error f=>show e'=_;simp|ok q=>let#[C,us]:=q;show(if .ce+(.kK).parts<=60 then O (a.add .kK,us)else e')=_;rw[AO,XY];unfold Acc.one;have T:.qi=.iG:=y;grind
 grind[AQ]
theorem XZ{p:.H->Got}{q:Expr->.H->Got}(a:Acc)(ts:.H)(M:∀x us,p ts=.mP->.iH->acc (q x) a us=m .dg us)(h:∀x us C,q x us=.ok C->.hb<=C.1.parts):acc (λts=>.yG) a ts=.bB (acc p) m a ts:=by
 have c:acc (λts=>.yG) a ts=(match .yG with|.ok (x,us)=>.ha|.error _=>e'):=y;have A:.bB (acc p) m a ts=((match p ts with|.ok (x,us)=>.ha|.error _=>e':.E R)).bind λr=>m r.1 r.2:=y;rw[c,A];cases Q:p ts with
 |error f=>rfl|ok r=>
  let#[x,us]:=r;show acc (q x) a us=_;ext h;by_cases v:.iH;.grind
  .rw[il v];show _=e';unfold acc;cases g:q x us with
   |error f=>rfl|ok C=>ext h;rw[il];grind
theorem YO(D:1<=row)(T:row<=5)(x:.aB)(us:.H)(C:.aB×.H)(h:.cv x us=.ok C):.hb<=C.1.parts:=by
 by_cases r:row=3;.subst r;rw[zl D T]at h;cases p:opNext 3 us with
  |none=>grind|some m=>rw[p]at h;dsimp only at h;let#[#[z,g],l,h]:=lI h;grind[AO]
 .exact L' e d D T r _ _ _ _ .ba h
variable(sg:Rd)
def r5:Rd:=.bB sg (lV sg 5)
def r4:Rd:=.bB (r5 sg) (lV (r5 sg) 4)
def m3:Rd:=λb ts=>if .d4 then .e2 λb=>r4 sg b .aK else .qg
def r3:Rd:=.bB (r4 sg) (m3 sg)
def r2:Rd:=.bB (r3 sg) (lV (r3 sg) 2)
def r1:Rd:=.bB (r2 sg) (lV (r2 sg) 1)
end
theorem Wf(Q:.D5):mE (acc p):=λ_ _ _ _ h=>PD Q h
theorem Jb(e d:Nat)(D:1<=row)(T:row<=5)(r:row≠3):acc (mj e row d)=.bB .tQ (lV .tQ row):=by
 funext a ts;have:acc (mj e row d) a ts=acc (λts=>.D3) a ts:=by grind[acc,U3]
 rw[this];exact XZ a ts (λx us _ Q=>ahW e d D T r _ us x a .ba Q) λx us y h=>YO e d D T x us y h
theorem aiX(e d:Nat):acc (mj e 1 d)=r1 .hc:=by
 have f:acc (mj e 6 d)=.hc:=by grind[acc,ad9]
 have L:acc (mj e 5 d)=r5 .hc:=by rw[.tS,f];rfl
 have D:acc (mj e 4 d)=r4 .hc:=by rw[.tS,L];rfl
 have g:acc (mj e 3 d)=r3 .hc:=by
  funext a ts;have:acc (mj e 3 d) a ts=acc (λts=>mj e 4 d ts>>=λx=>qP e 3 d x.1 x.2) a ts:=by grind[acc,U3]
  rw[this];unfold r3;rw[<-D];refine XZ a ts (λx us _ Q=>?_) λx us C h=>YO e d @h @h x us C h;rw[aeX e d Q];unfold m3;rw[<-D]
 have A:acc (mj e 2 d)=r2 .hc:=by rw[.tS,g];rfl
 rw[.tS,A];rfl
def vk(v:Rd):Nat->Bool->Rd
 |0,_,_,_=>e'|f+1,c,a,ts=>if .b7=0 then O (a,ts)else if .d4/\c=f' then e' else .ce λa=>(v a .aK).bind λq=>vk v f (if .b7<=2 then ij else if .d4 then f' else c) q.1 q.2
def qg(r:R):.ab:=!(jE r.2==3)
def zD(v:Rd):Rd:=λa ts=>(v a ts).bind λq=>vk v (.c2+1) ij q.1 q.2
def r9(v:Rd)(c:.ab):Rd:=λb ts=>(lV v 5 b ts).bind λq=>(lV (r5 v) 4 q.1 q.2).bind λq=>(if c then O q else m3 v q.1 q.2).bind λq=>(lV (r3 v) 2 q.1 q.2).bind λq=>lV (r2 v) 1 q.1 q.2
theorem filter_bind(h:∀a,m=O a->f a=g a):m.bind f=m.bind g:=by
 cases m with
 |none=>rfl|some a=>grind
theorem P'(h:mE v):mE (r5 v):=Mj @h h h
theorem ZJ(h:mE v):mE (r4 v):=Mj @h (P' h) (P' h)
theorem Qa(h:mE v):mE (r3 v):=by
 intro a ts b us q;unfold r3 andThen at q;cases D:r4 v a ts with
 |none=>grind|some r=>
  rw[D]at q;have u:=ZJ h _ _ _ _ D;have q:m3 v r.1 r.2=.kJ:=q;unfold m3 at q;split at q;.cases M:r.1.one with
   |none=>grind|some l=>rw[M]at q;have H:=ZJ h _ _ _ _ (show r4 v l (r.2.drop 1)=.kJ from q);grind
  grind
theorem akB(h:mE v):mE (r2 v):=Mj @h (Qa h) (Qa h)
theorem sb:(O a).bind f=f a:=rfl
theorem mV(m:.E A)(f:A->.E B)(g:B->.E C):(m.bind f).bind g=m.bind λa=>(f a).bind g:=.h
theorem QE{b:Acc}(h:¬.d4):m3 v b ts=.qg:=by grind[m3]
theorem Z2[Decidable c](h:C=x):(.pB c x C)=x:=.h
theorem ak6(v:Rd)(b:Acc)(ts:.H)(k:R->.E B):(r1 v b ts).bind k=(v b ts).bind λq=>(r9 v ij q.1 q.2).bind k:=by show(.bB (r2 v) (lV (r2 v) 1) b ts).bind k=_;ext ab;rw[mV];show(.bB (r3 v) (lV (r3 v) 2) b ts).bind _=_;ext ab;rw[mV];show(.bB (r4 v) (m3 v) b ts).bind _=_;ext ab;rw[mV];show(.bB (r5 v) (lV (r5 v) 4) b ts).bind _=_;ext ab;rw[mV];show(.bB v (lV v 5) b ts).bind _=_;ext ab;rw[mV];refine .c7 λq _=>?_;grind[r9]
theorem agO(w:mE v)(c:.ab)(b:Acc)(ts:.H):r9 v c b ts=
  if .b7=0∨(.d4∧c=f')then .qg else
   .e2 λb=>(v b .aK).bind λq=>r9 v (if .b7≤2 then ij else if .d4 then f' else c) q.1 q.2:=by
 have k:.b7≤5:=by grind[jE]
 have M:=P' w
 have L:=Qa w
 have B:=akB w
 have h:.b7=0∨.b7=1∨.b7=2∨.d4∨.b7=4∨.b7=5:=.t
 rcases h with h|h|h|h|h|h
 ·grind[r9,rB,QE]
 ·rw[.ev,.D9]
  ext aG
  rw[rB @h,sb,rB .he,sb,Z2 (QE .he),sb,rB .he,sb,Be @h B .he]
  refine .qk
  show .pS (r3 v) (lV (r3 v) 2) l
  ext ab
  rw[mV]
  show .pS (r4 v) (m3 v) l
  ext ab
  rw[mV]
  show .yH
  ext ab
  rw[mV]
  show .tT
  ext ab
  rw[mV]
  rfl
 ·rw[.ev,.D9]
  ext aG
  rw[rB @h,sb,rB .he,sb,Z2 (QE .he),sb,Be @h L .he,mV]
  refine .qk
  rw[mV]
  show .pS (r4 v) (m3 v) l
  ext ab
  rw[mV]
  show .yH
  ext ab
  rw[mV]
  show .tT
  ext ab
  rw[mV]
  rfl
 ·cases c with
  |true=>
   grind[r9,rB]
  |false=>
   rw[il .sZ,.yI,ip h]
   ext aG
   rw[rB @h,sb,rB .he,sb,.d3]
   have g:m3 v b ts=.e2 λb=>r4 v b .aK:=by grind[m3]
   rw[g,mV]
   refine .qk
   show .yH
   ext ab
   rw[mV]
   show .tT
   ext ab
   rw[mV]
   rfl
 ·rw[.ev,.yI,.Ea]
  ext aG
  rw[rB @h,sb,Be @h M .he,mV]
  refine .qk
  rw[mV]
  show .tT
  ext ab
  rw[mV]
  rfl
 ·rw[.ev,.yI,.Ea]
  ext aG
  rw[Be @h w @h,mV]
  refine .qk
  rw[mV]
  rfl
theorem VJ(w:mE v):∀(f:Nat)(c:.ab)(b:Acc)(ts:.H),.av<f->vk v f c b ts=(r9 v c b ts).filter qg:=by
 intro f;induction f with
 |zero=>omega|succ f I=>
  intro c b ts h;rw[vk,agO w];by_cases a:.b7=0;.grind[qg]
  .rw[il a];by_cases r:.d4/\c=f';.grind[qg]
   .have g:¬(.b7=0\/(.d4/\c=f')):=λq=>q.elim a r;rw[il r,il g];have x:=AW a;cases b.one with
    |none=>rfl|some l=>
     dsimp only[F4];cases e:v l .aK with
     |none=>rfl|some q=>have u:.c2<_:=w _ _ q.1 q.2 e;grind
theorem agQ(w:mE v)(a:Acc)(ts:.H):zD v a ts=(r1 v a ts).filter qg:=by
 unfold zD;have:r1 v a ts=(v a ts).bind λq=>r9 v ij q.1 q.2:=by
  have f:∀{A:Type}(m:.E A),m.bind O=m:=@E
  have q:=ak6 v a ts O;grind
 rw[this];cases e:v a ts with
 |none=>rfl|some q=>grind[VJ]
def aah:Rd:=λ_ _=>e'
def jk(b:Nat)(ts:.H):.E .H:=if .ad b ts then O .aK else e'
def lD(w:.ay)(ts:.H):.E .H:=if .yy then O .aK else e'
def oQ(g:Rd):Nat->Nat->Acc->.H->.tU
 |0,_,_,_=>e'|f+1,k,a,ts=>if .ad 44 ts then(g a .aK).bind λq=>oQ g f .a4 q.1 q.2 else O (k,a,ts)
def uw(g:Rd)(m:Nat)(a:Acc)(ts:.H):.tU:=(if .ad m ts then O (0,a,ts)else(g a ts).bind λq=>oQ g (.c2+1) 1 q.1 q.2).bind λq=>(jk m q.2.2).bind .yJ
def arity(w:.ay):.ga:=(callOf w).map λc=>c.2
def uu(go:.ab)(g:Rd):Rd:=λa ts=>match ts with
 |[]=>e'|t::r=>if .bW 40 then if go=ij then e' else(g a r).bind .Eb else .ce λa=>if .bW 91 then if go=ij then e' else(uw g 93 a r).bind λq=>O q.2 else if .bW 35 then O ({a with own:=f'},r)else if .e9 then if .ad 46 r then(match .fM with
     |[]=>e'|u::s=>if u.small then O ({a with occs:=a.occs++[(.iF,u.text)]},s)else e')else O (a,r)else if t.small then if .ad 40 r then if go=ij then e' else(uw g 41 a .fM).bind .Ec else .yK else e'
def E2(go:.ab)(s g:Rd):Rd:=λa ts=>if .tK then .ce λa=>if go=ij then e' else s a .aK else uu go g a ts
def JO(go:.ab)(g v:Rd):Rd:=λa ts=>if .tI then .ce λa=>if go=ij then e' else(g a .aK).bind λq=>.gF λu=>(g q.1 u).bind λq=>.gG λu=>g q.1 u else zD v a ts
def jC:Nat->Rd×Rd
 |0=>(aah,aah)|k+1=>(.Ed,JO (.q (0<k)) (jC k).2 .Ed)
def ly(e d:Nat):Rd:=λa ts=>(.tX).filter qg
theorem S0{b:Acc}(h:.tY=.kJ):.tX=.kJ/\jE us≠3:=by grind[ly,acc,qg]
theorem TJ(e d:Nat):mE (ly e d):=λa ts b us h=>PD (λts x us h=>Dr h) (S0 h).1
theorem Oi(h:.d4)(b:Nat)(D:b≠61)(M:b≠60):.mt b ts:=by grind[jE,sign_one]
theorem aiy(h:.d4)(w:.ay):.yy=ij:=by
 cases ts with
 |nil=>rfl|cons t r=>
  have:.ad 61 .aC=f'\/.ad 60 .aC=f':=by grind[jE]
  have hk:.b6=2:=by rcases this with q|q<;>(have q:(.b6==2&&_)=f':=q;grind)
  show(.b6==3&&_)=ij;grind
theorem T4(hk:∀b us,jE us=3->k (b,us)=e'):(.tY).bind k=(.tX).bind k:=by grind[ly,acc,qg]
theorem Y7(h:jE us=3)(D:b≠61)(M:b≠60):jk b us=e':=by grind[jk,Oi]
theorem aim(h:jE us=3):lD w us=e':=by grind[lD,aiy]
theorem wc(e b:Nat)(ts:.H):o .tF=jk b ts:=by unfold eatSign jk;split<;>rfl
theorem V5(e:Nat)(w:.ay)(ts:.H):o (.cN w ts)=lD w ts:=by unfold eatWord lD;split<;>rfl
theorem UT(h:.mt b ts):.tF=.dB (here 4 e ts):=.yL
theorem ad4(h:.mh b ts):.tF=.ok .aK:=.yL
theorem aff(p:mE g):∀(f k:Nat)(a:Acc)(ts:.H),.av<f→oQ g (f+1) k a ts=oQ g f k a ts:=by
 intro f
 induction f with
 |zero=>omega
 |succ f I=>
  intro k a ts h
  conv=>lhs;rw[oQ]
  conv=>rhs;rw[oQ]
  split
  ·rename_i w
   cases q:g a .aK with
   |none=>rfl
   |some r=>
    have u:r.2.length<_:=p _ _ r.1 r.2 q
    grind
  ·rfl
theorem TQ(p:mE c)(h:.av<f)(D:.av<g):oQ c f k a ts=oQ c g k a ts:=ui (f:=λf=>oQ c f k a ts) (k:=.av+1) (by grind[aff]) h D
def vE(p:.yM)(k:Nat)(a:Acc):.tU:=match p with
 |.ok (xs,us)=>if .ce+.cd xs<=60 then O (k+.ag,a.sh xs,us)else e'|.error _=>e'
theorem LW(a:Acc)(x:.aB)(xs:.eX):a.sh (x::xs)=(.dg).sh xs:=by simp only[Acc.sh,Acc.add,partsAll,occsAll,ownAny,Acc.mk.injEq,rP,Bool.or_assoc,and_true];omega
theorem Mz(a:Acc)(x:.aB):a.sh [x]=.dg:=by simp[Acc.sh,Acc.add,partsAll,occsAll,ownAny]
def fin(m:Nat)(q:Nat×R):.tU:=(jk m q.2.2).bind .yJ
theorem afA(B:m=41\/m=93):∀(n k:Nat)(a:Acc)(ts:.H),.av<=n->((.tY).bind λq=>oQ (ly e d) (.c2+1) .a4 q.1 q.2).bind (fin m)=vE (vR e d m ts) k a:=by
 intro n;induction n with
 |zero=>
  intro k a ts h;have:ts=[]:=.h
  ext Y;rfl|succ n I=>
  intro k a ts h;have Q:=TJ e d;cases q:.mO with
  |error f=>unfold ly acc vE;rw[R7,q];rfl|ok r=>
   let#[x,us]:=r;have J:=Dr q;have p:.tY=(.ha:.E R).filter qg:=by grind[ly,acc]
   rw[p,R7,q];show _=vE (if .ad m us then _ else _) k a;by_cases l:jE us=3
   .have D:((.ha:.E R).filter qg)=e':=by grind[qg]
    rw[D,Oi l m @h @h,.d3,UT (Oi l 44 @h @h)];rfl
   .by_cases v:.iH
    .rw[ip v];have D:(.k7 (.dg,us))=O (.dg,us):=by grind[qg]
     rw[D,sb,oQ];by_cases w:.mh m us;.have s:.mt 44 us:=sign_one w @h;rw[s,.d3,.bD,sb];show(jk m us).bind _=_;unfold jk;rw[.bD];show O (k+1,.dg,us.drop 1)=(if .ce+.cd [x]<=60 then O (k+1,a.sh [x],us.drop 1)else e');grind[partsAll,Mz]
     .have L:.mt m us:=.h
      rw[.bL];by_cases s:.mh 44 us
      .rw[ip s,ad4 s];have T:=qF s;show((.Ee).bind (fin m))=vE (vR e d m .cI>>=λC=>.ok (x::C.1,C.2)) k a;have A:.Ee=((ly e d .dg .cI).bind λq=>oQ (ly e d) (.c2+1) (k+1+1) q.1 q.2):=.c7 λr c=>by have H:r.2.length<_:=Q _ _ r.1 r.2 c;grind[TQ]
       rw[A,I .a4 .dg .cI @h];cases M:vR e d m .cI with
       |error f=>rfl|ok C=>
        let#[ys,g]:=C;show(if .qi+.cd ys<=60 then O (k+1+.e3,(.dg).sh ys,g)else e')=(if .ce+.cd (x::ys)<=60 then O (k+(x::ys).length,a.sh (x::ys),g)else e');have U:.qi+.cd ys=.ce+.cd (x::ys):=by show .iG+.cd ys=.ce+(.hb+.cd ys);omega
        grind[LW]
      .have t:.mt 44 us:=.h
       rw[il s,UT t,sb];show(jk m us).bind _=e';grind[jk]
    .rw[il v];show e'=_;by_cases w:.mh m us;.rw[.bD];show e'=(if .ce+.cd [x]<=60 then _ else e');grind[partsAll]
     .rw[.bL];cases M:(.cb e 44 us>>=λu=>vR e d m u>>=λC=>(ze (x::C.1,C.2):.yM))with
      |error f=>rfl|ok C=>let#[u,_,M]:=lI M;let#[z,_,M]:=lI M;cases M;show e'=(if .ce+.cd (x::z.1)<=60 then _ else e');grind[partsAll]
theorem args_eq(B:m=41\/m=93)(a:Acc)(p:.ce<=60)(ts:.H):uw (ly e d) m a ts=vE (sY e d m ts) 0 a:=by
 rw[adg];unfold uw;by_cases w:.mh m ts;.rw[.bD,.bD,sb];show(jk m ts).bind _=_;unfold jk;rw[.bD];show O (0,a,.kI)=(if .ce+.cd []<=60 then O (0+0,a.sh [],.kI)else e');rw[ip (by simpa[partsAll]using p)];simp[Acc.sh,partsAll,occsAll,ownAny]
 .rw[.bL,.bL];exact afA B _ 0 a ts .ba
theorem CY{a:Acc}{x:.aB}(Q:.hb=1):(if .iH then O .dg else e')=a.one.map λb=>({b with occs:=b.occs++x.occs,own:=b.own||x.usesOwn}:Acc):=by grind[Acc.one,Acc.add]
theorem one_le{a b:Acc}(h:a.one=O b):b.parts<=60/\b=.yC:=by grind[Acc.one]
theorem PB(a:Acc)(m:Op)(xs:.eX):a.add (.app m xs)=(.yC:Acc).sh xs:=by grind[Acc.add,Acc.sh,Expr.parts,Expr.occs,Expr.usesOwn]
theorem xH{t:Tok}(h:.kM):.b6=0:=by grind[Tok.small]
theorem AZ{t:Tok}{b:Nat}(h:.b6≠2):.bW b=ij:=by grind[Tok.isSign]
theorem VY{t:Tok}{a b:Nat}(h:.jB a)(f:a≠b):.bW b=ij:=sign_one (ts:=[t]) h f
def JD(e d:Nat)(go:.ab)(g:Rd):.n:=(go=ij/\NEST<=d)\/(go=f'/\¬NEST<=d/\g=ly e .cy)
theorem Zb{e d:Nat}{p:.yM}{a:Acc}(m:Op)(ok:.ew):.ce (λb=>(vE p 0 b).bind λq=>if ok q.1 then O q.2 else e')=(match(p>>=λx=>if ok x.1.length then(ze (Expr.app m x.1,x.2):Got)else .mr 6 0)with
   |.ok (x,us)=>.ha|.error _=>e'):=by
 cases p with
 |error f=>show _=e';cases a.one<;>rfl|ok q=>
  obtain⟨xs,us⟩:=q;show _=(match(if ok .ag then(ze (Expr.app m xs,us):Got)else .mr 6 0)with
   |.ok (x,us)=>.ha|.error _=>e');grind[Expr.parts,Acc.one,vE,PB]
theorem ajK{e d:Nat}{go:.ab}{g:Rd}(L:JD e d go g)(a:Acc)(ts:.H):uu go g a ts=acc (BI e d) a ts:=by
 cases ts with
 |nil=>rfl|cons t r=>
  unfold uu acc;rw[afe];ext h;by_cases hk:.e9
  .have U:.b6≠2:=.t
   rw[AZ U,AZ U,AZ U,.d3,ip hk];simp only[il (show¬(ij=f')by decide),ip hk];have Y:=λ(x:Expr)(v:x.parts=1)=>.e3 v;by_cases w:.mh 46 r;.rw[.bD];simp only[ip w];cases c:.fM with
    |nil=>simp|cons u s=>
     ext h;by_cases M:u.small=f'
     .rw[ip M];simp only[ip M];have q:=.e3 (x:=.occ .iF u.text) y;by_cases Q:.ce+(Expr.occ .iF u.text).parts<=60;.rw[ip Q]at q⊢;cases J:a.one with
       |none=>grind|some b=>ext bz
      .rw[il Q]at q⊢;cases J:a.one with
       |none=>rfl|some b=>grind
     ext t
   .rw[.bL];simp only[il w];have q:=.e3 (x:=.num .iF) y;by_cases Q:.ce+(Expr.num .iF).parts<=60;.rw[ip Q]at q⊢;cases J:a.one with
     |none=>grind|some b=>rw[J]at q;have q:=pD q;rw[sb,q];simp[Expr.occs,Expr.usesOwn]
    .rw[il Q]at q⊢;cases J:a.one with
     |none=>rfl|some b=>grind
  .by_cases H:.kM
   .have U:.b6≠2:=by grind[xH]
    rw[AZ U,AZ U,AZ U,.d3,il hk,ip H];simp only[il (show¬(ij=f')by decide),il hk,ip H];by_cases w:.mh 40 r
    .rw[.bD];simp only[ip w];ext aH;.cases .tM with
      |none=>simp|some p=>ext t
     .ext a5;cases aa:.tM with
      |none=>
       have e5:arity .ax=e':=by grind[arity]
       ext t|some p=>
       obtain⟨m,k⟩:=p;ext h;rw[il T];have q:=Zb (e:=e) (d:=d) (p:=.qd) (a:=a) m (λn=>.q (n=k));have e3:∀b,a.one=O b->uw (ly e .cy) 41 b .fM=vE .qd 0 b:=λb l=>args_eq .cS b (one_le l).1 _;have D:(.ce λa=>(uw (ly e .cy) 41 a .fM).bind .Ec)=.ce (λb=>(vE .qd 0 b).bind λq=>if .q (q.1=k)=f' then O q.2 else e'):=by grind[filter_bind,arity]
       rw[D,q];cases .qd with
       |error f=>rfl|ok z=>show(match(if .q (z.1.length=k)=f' then(ze _:Got)else .mr 6 0)with|.ok (x,us)=>_|.error _=>e')=(match(if z.1.length=k then(ze _:Got)else .mr 6 t.pos)with|.ok (x,us)=>_|.error _=>e');grind
    .rw[.bL];simp only[il w];have q:=.e3 (x:=.occ 0 .ax) y;by_cases Q:.ce+(Expr.occ 0 .ax).parts<=60;.rw[ip Q]at q⊢;cases J:a.one with
      |none=>grind|some b=>ext bz
     .rw[il Q]at q⊢;cases J:a.one with
      |none=>rfl|some b=>grind
   .rw[il hk,il H];simp only[il hk,il H];by_cases A:.jB 35
    .rw[VY A .E,VY A .E,ip A];simp only[il (show¬(ij=f')by decide),ip A];have q:=.e3 (x:=.own) y;by_cases Q:.ce+(Expr.own).parts<=60;.rw[ip Q]at q⊢;cases J:a.one with
      |none=>grind|some b=>ext bz
     .rw[il Q]at q⊢;cases J:a.one with
      |none=>rfl|some b=>grind
    .rw[il A];simp only[il A];by_cases C:.jB 40
     .rw[ip C,ip C];ext aH;.grind
      .rw[.d3,il T];rw[T4 (k:=.Eb) λb us h=>by show(jk 41 us).bind _=e';rw[Y7 h .E .E];rfl];unfold acc;cases .cc r with
       |error f=>rfl|ok z=>
        obtain⟨x,us⟩:=z;show _=(match(.cb e 41 us>>=λs=>(ze (x,s):Got))with|.ok (x,us)=>_|.error _=>e');ext h;unfold eatSign;by_cases Q:.iH
        .rw[ip Q,sb];unfold jk;by_cases B:.mh 41 us;.rw[ip B,ip B,sb];show _=.Ef;grind
         .rw[il B,il B];rfl
        .rw[il Q];by_cases B:.mh 41 us;.rw[ip B];show e'=.Ef;grind
         .rw[il B];rfl
     .rw[il C,il C];by_cases I:.jB 91
      .rw[ip I];simp only[ip I];ext aH;.ext t
       .rw[il T];ext a5;have q:=Zb (e:=e) (d:=d) (p:=.yB) (a:=a) .list (λn=>f');have D:(.ce λa=>(uw (ly e .cy) 93 a r).bind λq=>O q.2)=.ce (λb=>(vE .yB 0 b).bind λq=>if f'=f' then O q.2 else e'):=by refine .c7 .h9;rw[args_eq (@n y) b (one_le l).1];rfl
        grind
      ext t
theorem afB(L:JD e d go g)(w:go=f'->s=acc (oC e .cy)):E2 go s g=.hc:=by
 funext a ts;unfold E2;by_cases p:.tK=f'
 .rw[ip p];have C:acc (oC e d) a ts=(match(if NEST<=d then Lf .tJ else(oC e .cy .aK>>=λx=>ze (Expr.app .D4 [x.1],x.2)):Got)with
   |.ok (x,us)=>.ha|.error _=>e'):=by grind[acc,ac3]
  rw[C];ext aH;.ext t
  .rw[il T,w y];generalize(if .mh 45 ts then Op.neg else Op.not)=m;ext a5;unfold acc;cases oC e .cy .aK with
   |error f=>show _=e';simp|ok z=>obtain⟨x,us⟩:=z;show _=(if .ce+(Expr.app m [x]).parts<=60 then O (a.add (Expr.app m [x]),us)else e');grind[Expr.parts,partsAll,PB,Mz,Acc.one]
 grind[ajK,acc,ac4]
theorem agV(L:JD e d go g)(C:s=.hc):JO go g s=ly e d:=by
 funext a ts;unfold JO;by_cases p:.tI=f'
 .rw[ip p];have Q:.tX=(match(if NEST<=d then .dB .tJ else .D2:Got)with
   |.ok (x,us)=>.ha
   |.error _=>e'):=by grind[acc,aij]
  unfold ly;rw[Q];ext aH;.ext t
  .rw[il T];ext a5;have m:∀(b:Acc)(u:.H)(w:.ay)(k:R->.H->.E R),((ly e .cy b u).bind .yO)=((.ep b u).bind .yO):=λb u w k=>T4 (k:=.yO) λc us h=>by show(lD w us).bind _=e';rw[aim h];rfl
   have e2:(.ce λa=>(ly e .cy a .aK).bind λq=>.gF λu=>.Eh)=(.ce λa=>(.ep a .aK).bind λq=>.gF λu=>(.ep q.1 u).bind λq=>.gG λu=>.ep q.1 u).filter qg:=by
    cases a.one with
    |none=>rfl
    |some b=>
     rw[sb,sb,m b .aK wThen λq u=>.Eh];cases .ep b .aK with
     |none=>rfl
     |some q=>
      rw[sb,sb];cases lD wThen q.2 with
      |none=>rfl
      |some u=>
       rw[sb,sb,m q.1 u wElse λq u=>ly e .cy q.1 u];cases .ep q.1 u with
       |none=>rfl
       |some q=>
        rw[sb,sb];cases lD wElse q.2 with
        |none=>rfl
        |some u=>rfl
   rw[e2];congr 1;unfold acc;cases .cc .aK with
   |error f=>show _=e';simp
   |ok z=>
    obtain⟨c,A⟩:=z;have l:=V5 e wThen A;cases D:.cN wThen A with
    |error f=>
     rw[D]at l;have l:e'=lD wThen A:=l;show _=(match(.cN wThen A>>=_:Got)with|.ok (x,us)=>_|.error _=>e');rw[D];show _=e';cases a.one with
     |none=>rfl
     |some b=>grind
    |ok U=>
     rw[D]at l;have l:O U=lD wThen A:=l;cases M:.cc U with
     |error f=>
      show _=(match(.cN wThen A>>=λu=>.cc u>>=_:Got)with|.ok (x,us)=>_|.error _=>e');rw[D];show _=(match(.cc U>>=_:Got)with|.ok (x,us)=>_|.error _=>e');rw[M];show _=e';cases a.one with
      |none=>rfl
      |some b=>grind
     |ok z=>
      obtain⟨t,J⟩:=z;have H:=V5 e wElse J;cases r:.cN wElse J with
      |error f=>
       rw[r]at H;have H:e'=lD wElse J:=H;ext bA;show _=(match(.cN wElse J>>=_:Got)with|.ok (x,us)=>_|.error _=>e');rw[r];show _=e';cases a.one with
       |none=>rfl
       |some b=>grind
      |ok I=>
       rw[r]at H;have H:O I=lD wElse J:=H;cases B:.cc I with
       |error f=>
        ext bA;ext cq;show _=e';cases a.one with
        |none=>rfl
        |some b=>grind
       |ok z=>
        obtain⟨f,u5⟩:=z;ext bA;ext cq;show _=(if .ce+(.yP).parts<=60 then O (a.add .yP,u5)else e');have hp:(.yP).parts=1+(c.parts+(t.parts+f.parts)):=.Q
        rw[hp,PB,LW,LW,Mz];unfold Acc.one;by_cases hq:60<.ce+1;.grind
        .rw[il hq,sb];ext h;by_cases Y:.ce+1+c.parts<=60;.rw[ip Y,sb];ext h;rw[<-l,sb,M];ext h;have p1:∀(b:Acc)(x:.aB),(b.add x).parts=b.parts+.hb:=λ_ _=>y;grind
         .rw[il Y,.ev];rfl
 .rw[il p,C];rw[agQ (Wf λts x us h=>S4 h),<-aiX];grind[ly,acc,ae7]
theorem Jg(e:Nat):∀k d,k+d=31->1<=k->(jC k).1=.hc/\(jC k).2=ly e d:=by
 intro k;induction k with
 |zero=>omega|succ k I=>
  intro d h _;have L:JD e d (.q (0<k)) (jC k).2:=by
   by_cases hk:0<k;.right;exact#[iq hk,(by show¬30<=d;omega),(I .cy @h hk).2]
   .left;exact#[ir hk,(by show 30<=d;omega)]
  grind[jC,afB,agV]
def uo(ts:.H):.E R:=(jC 31).2 #[0,[],ij] ts
theorem W5(e:Nat)(ts:.H):uo ts=(match readExpr e ts with
  |.ok (x,us)=>O (.ql,us)|.error _=>e':.E R).filter qg:=by
 unfold uo;rw[(Jg e 31 0 y @h).2];unfold ly;congr 1;have C:expr e (STEPS ts) 0 ts=ki e 0 ts:=BQ (by unfold STEPS;omega);unfold acc readExpr;rw[C];cases ki e 0 ts with
 |error f=>rfl|ok z=>obtain⟨x,us⟩:=z;show _=(match(if EXPR<.hb then Lf (here 7 e ts)else ze (x,us):Got)with|.ok (x,us)=>_|.error _=>e');grind[EXPR,Acc.add]
end Mx
namespace Mx
open Vaatta Vaattb
structure oh where
 target:Option (Nat×Bytes)
 x:Acc
structure MProd where
 name:Bytes
 left:Bytes
 own:Bool
 kids:List Bytes
 rules:List oh
structure jv where
 name:Bytes
 downs:List Bytes
 ups:List Bytes
def als(x:.aB):Acc:=.ql
def EJ(r:Rule):oh:=#[r.target,als r.expr]
def kD(p:.hf):MProd:=#[p.name,.hh,p.own,.tZ,p.rules.map EJ]
def lU(s:Sym):jv:=#[.cz,s.downs.map .fa,s.ups.map .fa]
def wM(g:.aa):.t2:=(.qm,.yQ)
def kL(k:.mQ)(ts:.H):.E (Tok×.H):=match ts with
 |t::r=>if k t then .kN else e'|[]=>e'
def jS(k:.mQ):.H->.hi×.H
 |[]=>([],[])|t::r=>if k t then((.ax::(jS k r).1),(jS k r).2)else([],t::r)
def isNum(t:Tok):.ab:=.b6==1
def zt(ts:.H):.E (.E .mR×.H):=
 if .ad 63 ts then O (e',.kI)
 else(match .dW ts with
  |O q=>(jk 46 q.2).bind λr=>O (numOf .iI,r)|e'=>O (0,ts)).bind λp=>(kL .dh p.2).bind λq=>(jk 61 q.2).bind λr=>O (O (p.1,.iI),r)
def rF(ts:.H):.E (oh×.H):=(zt ts).bind λt=>(uo t.2).bind λx=>(jk 59 x.2).bind λr=>O (#[t.1,x.1],r)
def o5:Nat->.H->.E (@q oh×.H)
 |0,_=>e'|n+1,ts=>if .ad 125 ts then O ([],.kI)else(rF ts).bind λx=>(o5 n x.2).bind λy=>O (x.1::y.1,y.2)
def qe(ts:.H):.E (jv×.H):=(kL .iJ ts).bind λt=>(jk 62 (jS .dh t.2).2).bind λr=>(jk 59 (jS .dh r).2).bind λu=>O (#[.qn,(jS .dh t.2).1,(jS .dh r).1],u)
def rG(ts:.H):.E (MProd×.H):=(kL .dh ts).bind λt=>(kL .iJ t.2).bind λl=>(jk 58 (if .ad 35 l.2 then l.2.drop 1 else l.2)).bind λr=>(jk 123 (jS .iJ r).2).bind λu=>(o5 (u.length+1) u).bind λrs=>O (#[.qn,l.1.text,.ad 35 l.2,(jS .iJ r).1,rs.1],rs.2)
def mC:Nat->.H->.E .t2
 |0,_=>e'|n+1,ts=>match ts with
  |[]=>O ([],[])|t::_=>if t.great then(qe ts).bind λx=>(mC n x.2).bind λg=>O (x.1::g.1,g.2)else(rG ts).bind λx=>(mC n x.2).bind λg=>O (g.1,x.1::g.2)
theorem qw(h:kind t=f'):kL kind .aC=.kN:=by show(if kind t=f' then _ else _)=_;grind
theorem xV(h:¬k t=f'):kL k .aC=e':=.nZ k t
theorem BD(h:Nat)(k:.mQ)(ts:.H):o (one h k ts)=kL k ts:=by
 cases ts with
 |nil=>rfl|cons t r=>unfold one kL;ext h;split<;>rfl
theorem P1(k:.mQ):∀ts:.H,((many k ts).1.map .fa,(many k ts).2)=jS k ts
 |[]=>y|t::r=>by
  unfold many jS;split;.have I:=P1 k r;rw[<-I];rfl
  .rfl
theorem P4(k:.mQ)(ts:.H):(many k ts).1.map .fa=(jS k ts).1:=by grind[P1]
theorem P2(k:.mQ)(ts:.H):(many k ts).2=(jS k ts).2:=by grind[P1]
theorem ag2(h:Nat)(ts:.H):o (readTarget h ts)=zt ts:=by
 cases ts with
 |nil=>rfl|cons t r=>
  unfold readTarget zt;ext h;show o (.km 63)=(.km 63);by_cases H:.jB 63;.rw[ip H,ip H];rfl
  .rw[il H,il H];by_cases w:.kM
   .rw[.bD];have hk:=xH w;have C:.dW .aC=e':=by grind[xV,isNum]
    rw[C];show o (.cb h 61 r>>=_)=((.qo).bind _);have A:.qo=.kN:=qw w;rw[A,oF,wc];rfl
   .rw[.bL];by_cases hk:.e9
    .rw[ip (by rw[hk];rfl)];have C:.dW .aC=.kN:=by grind[qw,isNum]
     rw[C];rw[oF,wc];show _=((jk 46 r).bind λr=>O (.iF,r)).bind _;cases jk 46 r with
     |none=>rfl|some u=>rw[sb,sb,sb];show o (one h .dh u>>=_)=_;rw[oF,BD];refine .c7 λq _=>?_;show o (.cb h 61 q.2>>=_)=_;rw[oF,wc];rfl
    .rw[.Ei];have C:.dW .aC=e':=by grind[xV,isNum]
     rw[C];show e'=((.qo).bind _);grind[xV]
theorem aj5(h:Nat)(ts:.H):.nq (readRule h ts) (EJ q.1,q.2)=rF ts:=by
 unfold readRule rF;rw[oF,ag2];cases zt ts with
 |none=>rfl|some t=>
  rw[sb,sb,oF,W5 h];cases v:readExpr h t.2 with
  |error f=>rfl|ok z=>
   let#[x,us]:=z;show(o (.cb h 59 us>>=_)).map _=_;rw[oF,wc];by_cases l:jE us=3;.grind[Y7]
   .have C:(.k7 (.ql,us))=O (.ql,us):=by grind[qg]
    show _=((.k7 (.ql,us))).bind _;rw[C,sb];cases jk 59 us<;>rfl
theorem Yw(h:Nat):∀(n:Nat)(ts:.H),.nq (readRules h n ts) (q.1.map EJ,q.2)=o5 n ts
 |0,ts=>y|n+1,ts=>by
  unfold readRules o5;by_cases w:.mh 125 ts;.rw[.bD,.bD];rfl
  .rw[.bL,.bL,<-aj5 h ts,oF];cases o (readRule h ts)with
   |none=>rfl|some x=>rw[sb];show _=(o5 n x.2).bind _;rw[<-Yw h n x.2,oF];cases o (readRules h n x.2)<;>rfl
theorem ak0(h:Nat)(t:Tok)(r:.H)(a:t.great=f'):.nq (readSym h t r) (lU q.1,q.2)=qe .aC:=by
 unfold readSym qe;have C:kL .iJ .aC=.kN:=qw a;rw[C,sb];show .p6 h 62 (many .dh r);rw[oF,wc,P2];ext h;cases jk 62 (jS .dh r).2 with
 |none=>rfl|some u=>
  rw[sb,sb];show .p6 h 59 (many .dh u);rw[oF,wc,P2];cases jk 59 (jS .dh u).2 with
  |none=>rfl|some v=>rw[sb,sb,<-P4,<-P4];rfl
theorem aj7(h:Nat)(t:Tok)(r:.H)(w:.kM):.nq (readProd h t r) (kD q.1,q.2)=rG .aC:=by
 unfold readProd rG;have C:.qo=.kN:=qw w;rw[C,sb,oF,BD];ext h;cases kL .iJ r with
 |none=>rfl|some l=>
  rw[sb,sb];show(o (.cb h 58 .Ej>>=_)).map _=_;rw[oF,wc];cases jk 58 .Ej with
  |none=>rfl|some u=>
   rw[sb,sb];show .p6 h 123 (many .iJ u);rw[oF,wc,P2];cases jk 123 (jS .iJ u).2 with
   |none=>rfl|some v=>
    rw[sb,sb,oF,<-Yw h];cases o (readRules h (.d2+1) v)with
    |none=>rfl|some rs=>rw[<-P4];rfl
theorem OZ(h:Nat):∀(n:Nat)(ts:.H),(o (readItems h n ts)).map wM=mC n ts
 |0,ts=>y|n+1,ts=>by
  unfold readItems mC;cases ts with
  |nil=>rfl|cons t r=>
   ext h;by_cases q:t.great=f';.rw[ip q,ip q,<-ak0 h t r q,oF];cases o (readSym h t r)with
    |none=>rfl|some x=>ext cr
   .rw[il q,il q];by_cases w:.kM;.rw[.bD,<-aj7 h t r w,oF];cases o (readProd h t r)with
     |none=>rfl|some x=>ext cr
    .rw[.bL];have C:.qo=e':=xV w;unfold rG;rw[C];rfl
def wC(ts:.H):.E .t2:=mC (.av+1) ts
theorem W6(a:.ay):(o (adt a)).map wM=(o .mS).bind wC:=by
 unfold adt;rw[oF];cases o .mS with
 |none=>rfl|some ts=>exact OZ .c1 (.av+1) ts
inductive wq(P:List MProd):Bytes->Prop
 |node(p:MProd)(hp:p∈P)(kids:∀k∈p.kids,wq P k):wq P p.left
def iter(f:A->A):Nat->A->A
 |0,x=>x|n+1,x=>iter f n (f x)
theorem Xv(h:f x=x):∀n,iter f n x=x
 |0=>y|n+1=>by rw[iter,h];exact Xv h n
theorem Ua[BEq A][LawfulBEq A](f:A->A):∀(n:Nat)(x:A),times f n x=iter f n x
 |0,x=>y|n+1,x=>by
  rw[times,iter];split;.rename_i h;have h:=AR h;rw[h,Xv h]
  .exact Ua f n (f x)
theorem VU(f:A->A):∀(n:Nat)(x:A),iter f .b5 x=f (iter f n x)
 |0,x=>y|n+1,x=>by rw[iter,VU f n (f x)];rfl
def w9(m:.mT):.hi:=m.map lO
theorem L3(m:.mT)(s:.ay):(sizeIn m s).isSome=f'↔s∈w9 m:=by grind[sizeIn,w9]
theorem UO(m:.mT):∀l:@q Named,.hq (e':.ga)=e'
 |[]=>y|k::r=>UO m r
theorem UN(m:.mT):∀(l:@q Named)(n:Nat),(.hq (O n)).isSome=f'↔∀k∈l,k.name∈w9 m
 |[],n=>@E|k::r,n=>by
  rw[acf,sb];cases hk:sizeIn m k.name with
  |none=>rw[show(GJ (λb=>n+b) (e':.ga))=e' from y,UO];grind[L3]|some b=>rw[show(GJ (λb=>n+b) (O b))=O (n+b)from y,UN m r];grind[L3]
theorem SH(m:.mT)(p:.hf):(treeSize m p).isSome=f'↔.yR:=UN m p.kids 1
theorem ahX{l:@n}:(l.min?).isSome=f'↔l≠[]:=@E
theorem agq(g:.aa)(m:.mT)(n:.ay):n∈w9 (sizeRound g m)↔(.yS)/\∃p∈g.prods,.hh=n/\.yR:=by
 unfold w9 sizeRound;rw[jr];have B:∀s:Sym,(((.Ek).min?).map λn=>(s.name,n)).isSome=f'↔∃p∈g.prods,.hh=.cz/\.yR:=by
  intro s;rw[Ao,ahX];ext n;.intro h;cases L:.Ek with
   |nil=>grind|cons a r=>grind[jO,SH]
  .rintro⟨p,Q,c,hk⟩L;have q:=(SH m p).mpr hk;ext t
 ext n;.rintro⟨x,v,rfl⟩;obtain⟨s,w,c⟩:=t6.mp v;have M:=(B s).mp (.jP c);obtain⟨b,l,f⟩:=.M c;cases f;exact#[#[s,w,y],M]
 .rintro⟨⟨s,w,rfl⟩,M⟩;obtain⟨x,v⟩:=.bV ((B s).mpr M);obtain⟨b,l,f⟩:=.M v;grind
def oK(g:.aa)(k:Nat):.hi:=w9 (iter (sizeRound g) k [])
theorem Bj(g:.aa)(k:Nat)(n:.ay):n∈oK g .a4↔(.yS)/\∃p∈g.prods,.hh=n/\∀c∈p.kids,c.name∈oK g k:=by grind[oK,VU,agq]
theorem PV(g:.aa):∀(k:Nat)(n:.ay),n∈oK g k->n∈oK g .a4
 |0,n,h=>.b4|k+1,n,h=>by let#[w,p,Q,a,hk]:=(Bj g k n).mp h;exact(Bj g .a4 n).mpr #[w,p,Q,a,λc B=>PV g k _ (hk c B)]
theorem WY(g:.aa):∀(k:Nat)(n:.ay),n∈oK g k->wq .yQ n
 |0,n,h=>.b4|k+1,n,h=>by obtain⟨w,p,Q,rfl,hk⟩:=(Bj g k n).mp h;exact .bX (kD p) .q λc B=>by obtain⟨q,a,rfl⟩:=@Q B;exact WY g k _ (hk q a)
def cnt(g:.aa)(k:Nat):Nat:=(g.syms.filter λs=>.q (.cz∈oK g k)).length
theorem filter_le:∀(l:@q A),.yT->.mf l.filter p<=.mf l.filter q
 |[],_=>.bV|a::l,h=>by have I:=filter_le l .pZ;grind
theorem filter_lt:∀(l:@q A),.yT->(∃x∈l,p x=ij/\q x=f')->.mf l.filter p<.mf l.filter q
 |[],_,h=>.h|a::l,h,v=>by
  have c:.yT:=.h
  rw[R6,R6];let#[x,v,D,M]:=v;rcases kc.mp v with rfl|v;.rw[.jw D,ip M];have:=filter_le l c;grind
  .have I:=filter_lt l c #[x,v,D,M];grind
theorem WG(g:.aa):∀k,(∃j,j<=k/\.El)\/k<=cnt g k
 |0=>@n .au|k+1=>by
  rcases WG g k with⟨j,H,h⟩|h;.exact .n #[j,.t,h]
  .by_cases w:∀s∈g.syms,.cz∈oK g .a4->.cz∈oK g k;.exact .n #[k,.t,w]
   .refine @n ?_;have:cnt g k<cnt g .a4:=by
     refine filter_lt _ (λs _ h=>?_) ?_;.grind[PV]
     grind
    omega
theorem S2(g:.aa)(h:.El):∀i n,n∈oK g (j+i)->n∈oK g j
 |0,n,f=>f|i+1,n,f=>by obtain⟨⟨s,w,rfl⟩,p,Q,a,hk⟩:=(Bj g (j+i) n).mp f;exact h s w ((Bj g j _).mpr #[#[s,w,y],p,Q,a,λc B=>S2 g h i _ (hk c B)])
theorem X2(g:.aa)(j:Nat):∀i n,n∈oK g j->n∈oK g (j+i)
 |0,n,h=>h|i+1,n,h=>PV g (j+i) n (X2 g j i n h)
theorem aeu(g:.aa):∀s∈g.syms,.cz∈oK g (.fN+1)->.cz∈oK g .fN:=by
 intro s w h;rcases WG g g.syms.length with⟨j,H,p⟩|B;.have A:=X2 g j (.fN-j) .cz (S2 g p (.fN+1-j) .cz .q);rwa[show j+(.fN-j)=.fN by omega]at A
 .have C:(g.syms.filter λs=>.q (.cz∈oK g .fN)).length=.fN:=acd .q B;ext t
theorem Uj(g:.aa)(T:∀p∈g.prods,∀n∈(.mU),∃s∈g.syms,.cz=n.name)(n:.ay):(sizeIn (sizes g) n).isSome=f'↔wq .yQ n:=by
 have C:sizes g=iter (sizeRound g) .fN []:=Ua _ _ _;rw[L3,C];ext n;.exact WY g _ n
 .intro h;induction h with
  |node p Q m I=>obtain⟨q,a,rfl⟩:=@Q Q;let#[s,w,f]:=T q a q.left jO;show q.left.name∈oK g .fN;rw[<-f];refine aeu g s w ((Bj g _ _).mpr #[#[s,w,y],q,a,f.symm,λc B=>?_]);exact I c.name (.mB c B)
def jv.attrs(s:jv):.hi:=.t3
def Ju(s:jv):.n:=s.attrs.length<=4/\s.attrs.Nodup
def PY(S:.di):.n:=1<=.qp/\.qp<=12/\(S.map jv.name).Nodup/\∀s∈S,Ju s
def oU(S:.di)(n:.ay):.E jv:=S.find? λs=>.cz==n
def MProd.names(p:MProd):.hi:=.mU
def places(S:.di)(p:MProd):.di:=p.names.filterMap (oU S)
def MProd.targets(p:MProd):@q .mR:=p.rules.filterMap oh.target
def o4:Nat->.di->@q .mR
 |_,[]=>[]|k,s::r=>s.downs.map (λa=>(k,a))++o4 .a4 r
def rp(ps:.di):@q .mR:=match ps with
 |[]=>[]|s::r=>.yV
def Jv(ps:.di)(c:.mR):.n:=∃s,ps[c.1]? =O s/\c.2∈.mW
def Bw(p:MProd)(ps:.di)(r:oh):.n:=(p.own=f'\/r.x.own=ij)/\∀c∈r.x.occs,Jv ps c
def Bx(S:.di)(p:MProd):.n:=.dG<=3/\.t4<=24/\(∀n∈p.names,(oU S n).isSome=f')/\p.targets.Perm (rp (places S p))/\∀r∈p.rules,Bw p (places S p) r
def OO(S:.di)(P:@q MProd):.n:=P.length<=24/\(P.map MProd.name).Nodup/\∀p∈P,Bx S p
def YL(S:.di)(P:@q MProd):.n:=∀s∈S,wq P .cz
def uH(g:.t2):.n:=PY g.1/\OO g.1 g.2/\YL g.1 g.2
theorem iff_nil:TZ c f=[]↔c=ij:=by grind[TZ]
theorem Ih{A B:Type}{l:@q A}{f:A×Nat->@q B}:l.zipIdx.flatMap f=[]↔∀i x,.kO->f (x,i)=[]:=by grind[aa3]
theorem CV(c:A->Bytes):∀l:@q A,(@M c).Nodup↔∀i x,.kO->namesBefore c l i (c x)=ij:=by
 intro l;ext n
 .intro f i x v;unfold namesBefore;rw[CC];intro y m h;let#[j,H]:=.aG m;have I:j<i:=.h
  rw[Rq I]at H;have u:(@M c)[j]? =O (c x):=.h
  have k:(@M c)[i]? =O (c x):=.h
  grind[Ku]
 .intro h;rw[aaQ];rw[Fg];intro i j t H Q a;rw[i0]at t H;have g:=h j l[j] (mP H);unfold namesBefore at g;rw[CC]at g;have M:l[i]∈.bY j:=.k8 i
  grind
theorem UQ:∀(l:@q (.ay×.ab))(seen:.hi),(@M lO).Nodup->(∀x∈l,x.1∉seen)->firsts seen l=l
 |[],_,_,_=>y|x::r,seen,f,w=>by
  have v:seen.contains x.1=ij:=.h
  rw[firsts,v,.d3];rw[j6,rg]at f;congr 1;refine UQ r _ f.2 λC m M=>?_;grind
def mD(s:Sym):.hi:=(.t3).map .fa
theorem aeU(s:Sym):(lU s).attrs=mD s:=by unfold jv.attrs lU mD;simp
theorem HD(h:.mX):.mW=s.downs.map (λa=>(a.name,f'))++s.ups.map (λa=>(a.name,ij)):=by grind[Sym.attrs,UQ,mD]
theorem HC(h:.mX):s.attrs.length=.t5:=by grind[HD,mD]
theorem Ve{g:.aa}{s:Sym}{i:Nat}:symFlaws g (sizes g) s i=[]↔.Em:=by
 unfold symFlaws;simp only[xi,iff_nil,Ih];have c:(∀i x,.t3[i]? =O x->namesBefore .fa .t3 i x.name=ij)↔.mX:=(CV .fa _).symm;ext n
 .rintro⟨⟨⟨⟨a,m⟩,h⟩,M⟩,v⟩;have f:=c.mp m;rw[a]at v;refine#[a,f,?_,?_,?_];.rw[HC f]at h;have:¬4<.t5:=.cO h;omega
  .have:¬12<=i:=.cO M;omega
  grind
 .rintro⟨a,f,B,t,w⟩;refine .jO #[#[#[a,c.mpr f],?_],?_]
  .rw[HC f];have:¬4<.t5:=.t
   exact ir .bM
  .have:¬12<=i:=.t
   exact ir .bM
  ext t
theorem Uc{n:.ay}:(symOf g n).isSome=f'↔.yS:=by grind[symOf]
theorem G8(g:.aa)(n:.ay):oU .qm n=(symOf g n).map lU:=by unfold oU symOf;rw[FH];rfl
def wU(g:.aa)(p:.hf):.n:=∀n∈(.mU),(.kP).isSome=f'
def Af(g:.aa):.n:=∀s∈g.syms,.mX/\.t5<=4
def p8(g:.aa)(p:.hf):@q Sym:=(.mU).filterMap λn=>.kP
theorem all_some{A B:Type}{f:A->.E B}:∀(l:@q A),(∀x∈l,(f x).isSome=f')->∀k:Nat,(.c1 f)[k]? =(l[k]?).bind f
 |[],_,k=>@E|a::l,h,k=>by
  let#[b,c]:=.bV (h a jO);rw[xj,c];cases k with
  |zero=>simp[c]|succ k=>simpa using all_some l .q k
theorem ajU(h:.hj)(k:Nat):.gf[k]? =(p.sym k).bind (symOf g):=by unfold p8;rw[all_some _ h];grind[Production.sym]
theorem places_len(h:.hj):.t6=.dG+1:=by
 unfold p8;have:∀(l:@q Named),(∀n∈l,(.kP).isSome=f')->(.c1 λn=>.kP).length=.ac:=@E
 rw[this _ h];rfl
theorem GZ(h:.hj)(k:Nat):.e4 k=(.gf[k]?).map Sym.attrs:=by unfold attrsAt;rw[ajU h]
theorem Dk{k:Nat}(h:.gf[k]? =O s):s∈g.syms:=by have:=kO h;let#[n,_,f]:=t6.mp .bM;exact sI f
theorem A0(h:.mX)(a:.ay)(d:.ab):.qq=O (a,d)↔a∈(.pB d s.downs s.ups).map .fa:=by
 rw[HD h];unfold mD at h;rw[mR]at h;rw[List.find?_append,FH,FH];have B:∀(l:@q Named)(e:.ab),((l.find? ((λx:Bytes×Bool=>x.1==a)∘λn=>(n.name,e))).map λn=>(n.name,e))=if a∈@M .fa then O (a,e)else e':=by
  intro l e;induction l with
  |nil=>simp|cons n l I=>grind
 rw[B,B];grind
theorem Wd(h:.mX)(a:.ay):(.qq).isNone=f'↔a∉mD s:=by
 ext n
 .intro f M;unfold mD at M;rw[mR,k8]at M;rcases M with M|M;.rw[(A0 h a f').mpr M]at f;cases f
  .rw[(A0 h a ij).mpr M]at f;cases f
 .intro M;cases g:.qq with
  |none=>rfl|some x=>grind[A0,mD]
def z9(g:.aa)(p:.hf)(k:Nat)(a:.ay):.n:=∃s,.gf[k]? =O s/\a∈.yW
theorem Lh(l:.hj)(v:Af g){i:Nat}:.yX=[]↔∀t,r.target=O t->.En:=by
 unfold targetFlaws;cases J:r.target with
 |none=>simp|some t=>
  let#[k,a]:=t;ext h;have L:=places_len l;by_cases hk:.dG<k
  .rw[ip hk];ext n;.simp
   .intro q;let#[#[s,w,_],_]:=q _ y;grind
  .rw[il hk];have D:k<.t6:=.t
   have w:=mP D;generalize .gf[k]=s at w;have u:=v s (Dk w);have I:.e4 k=O .mW:=by grind[GZ]
   have A:attrAt g p k a=.qq:=by grind[attrAt]
   rw[I,A];have H:.t7↔a∈.yW:=by
    ext n;.rintro⟨T,U,h⟩;grind
    .intro h;exact#[s,w,h]
   have f:(∀t,O (k,a)=O t->.En)↔(.t7/\((p.rules.take i).any λq=>q.target==O (k,a))=ij):=@E
   rw[f,H];cases Q:.qq with
   |none=>
    rw[ip .z];ext n;.intro q;cases q
    .rintro⟨q,_⟩;exfalso;apply((Wd u.1 a).mp (.jP Q));unfold mD;rw[mR,k8];split at q;.exact @n q
     .exact .n q|some x=>
    let#[C,d]:=x;have m:=CH Q;have m:C=a:=AR m;subst m;have M:=(A0 u.1 C d).mp Q;rw[il @I];show(if(!mine k d)=f' then _ else _)=[]↔_;by_cases c:mine k d=f'
    .rw[c,.d3,iff_nil];have:C∈.yW:=by
      unfold mine at c;by_cases B:k=0
      .rw[ip B]at c⊢;cases d;.exact M
       .cases c
      .rw[il B]at c⊢;subst c;exact M
     ext n;.intro h;exact#[.bM,h]
     .intro h;exact h.2
    .have c:mine k d=ij:=.h
     rw[c,ip .z];ext n;.simp
     .rintro⟨q,_⟩;exfalso;unfold mine at c;by_cases B:k=0;.rw[ip B]at c q;have:=(A0 u.1 C ij).mpr q;rw[Q]at this;cases this;cases c
      .rw[il B]at c q;have:=(A0 u.1 C f').mpr q;rw[Q]at this;cases this;cases c
theorem Du(s:Sym):(lU s).attrs=mD s:=aeU s
theorem aeV(l:.hj)(v:Af g):.qr=[]↔(∀c∈r.expr.occs,.Eo)/\(p.own=f'\/r.expr.usesOwn=ij):=by
 unfold nameFlaws;rw[xi,Ih,iff_nil];have L:=places_len l;refine and_congr ?_ ?_
 .have one:∀(c:.mR)(i:Nat),(if .dG<c.1 then[{pos:=r.pos,code:=25,a:=i}]else TZ ((.e4 c.1).isSome&&(attrAt g p c.1 c.2).isNone) {pos:=r.pos,code:=26,a:=i}:@q Flaw)=[]↔.Eo:=by
   intro c i;by_cases hk:.dG<c.1;.grind
   .rw[il hk,iff_nil];have f:c.1<.t6:=.t
    have w:=mP f;generalize .gf[c.1]=s at w;have u:=v s (Dk w);grind[GZ,attrAt,Wd]
  ext n;.intro h c B;let#[i,t]:=.aG B;grind
  .intro h i c B;exact(one c i).mpr (h c (kO B))
 grind
theorem XR(l:.hj)(f:Af g)(k:Nat)(a:.ay):(∃j,(k,j,a)∈duties g p)↔.t7:=by
 have L:=places_len l;unfold duties;ext n
 .rintro⟨j,H⟩;let#[D,h,M]:=sQ.mp H;have h:D<.dG+1:=Ay.mp h;dsimp only at M;have q:D<.t6:=.t
  have w:=mP q;generalize .gf[D]=s at w;have u:=f s (Dk w);have C:.e4 D=O .mW:=by grind[GZ]
  rw[C]at M;simp only[adx]at M;rw[.Ep]at M;let#[#[#[r,d],i],v,m]:=@Q M;simp only[Sq]at m;obtain⟨rfl,rfl,rfl⟩:=m;let#[v,c]:=oy.mp v;refine#[s,w,?_];grind[HD,mine]
 .rintro⟨s,w,M⟩;have u:=f s (Dk w);have C:.e4 k=O .mW:=by grind[GZ]
  have v:(a,.q (¬k=0))∈.mW:=by grind[HD]
  let#[j,H]:=.aG v;refine#[j,sQ.mpr #[k,.h,?_]];ext h;rw[C];simp only[adx];rw[.Ep];refine jr.mpr #[((a,.q (¬k=0)),j),oy.mpr #[.h,?_],y];grind[mine]
theorem Hu:∀(ps:.di)(j k:Nat)(a:.ay),(k,a)∈o4 j ps↔∃i s,.mF i s/\k=j+i/\a∈s.downs
 |[],j,k,a=>by simp[o4]|s::r,j,k,a=>by
  rw[o4,k8,Hu r];ext n
  .rintro(h|⟨i,p,D,M,c⟩);.let#[b,l,f]:=@Q h;cases f;grind
   .exact#[i+1,p,.h,.t,c]
  grind
theorem UY(ps:.di)(k:Nat)(a:.ay):(k,a)∈rp ps↔∃s,.mF k s/\a∈(.Er):=by
 cases ps with
 |nil=>simp[rp]|cons s r=>show(k,a)∈.yV↔_;grind[Hu]
theorem TK:∀(ps:.di)(j:Nat),.Es->(o4 j ps).Nodup
 |[],j,_=>yR|s::r,j,h=>by
  rw[o4,sO];refine#[?_,TK r _ .q,?_];.grind[jO,jv.attrs]
  grind[Hu]
theorem adh(ps:.di)(h:.Es):(rp ps).Nodup:=by
 cases ps with
 |nil=>exact yR|cons s r=>show(.yV).Nodup;grind[TK,jO,jv.attrs,Hu]
theorem L7:.mY=(.gf).map lU:=by unfold places p8 MProd.names kD;show List.filterMap (oU .qm) .yY=_;rw[RL,List.map_filterMap];congr 1;grind[G8]
theorem adA(p:.hf):(kD p).targets=targets p:=by unfold MProd.targets targets kD;simp only[RL];rfl
theorem LJ(k:Nat)(a:.ay):(k,a)∈rp .mY↔.t7:=by
 rw[L7,UY];unfold z9;ext n;.rintro⟨s,D,M⟩;rw[jI]at D;obtain⟨c,r,rfl⟩:=.M D;refine#[c,r,?_];split at M<;>split<;>first|exact M|omega
 .rintro⟨s,D,M⟩;refine#[lU s,.h,?_];split at M<;>split<;>first|exact M|omega
theorem Ss:∀l:@q Rule,(.c1 Rule.target).Nodup↔∀i r,l[i]? =O r->∀t,r.target=O t->((.bY i).any λq=>q.target==O t)=ij:=by
 intro l;rw[aaQ,aa1,Fg];ext n;.intro h i r c t v;rw[CC];intro q g a;let#[j,H]:=.aG g;grind
 .intro h i j f H Q b k w u a;subst a;have:=h j l[j] (mP H) b u;rw[CC]at this;have M:l[i]∈.bY j:=.k8 i
  grind
theorem Tb(l:.hj)(v:Af g):((∀i r,p.rules[i]? =O r->.yX++.qr=[])/\.Et)↔((kD p).targets.Perm (rp .mY)/\.Eu):=by
 have Q:(rp .mY).Nodup:=by refine adh _ λs w=>?_;rw[L7]at w;obtain⟨I,A,rfl⟩:=@Q w;rw[Du];let#[k,hk]:=.aG A;exact(v I (Dk hk)).1
 rw[adA];have q:.Eu↔∀r∈p.rules,.qr=[]:=by
  have one:∀r:Rule,Bw (kD p) .mY (EJ r)↔.qr=[]:=by
   intro r;rw[aeV l v,L7];unfold Bw Jv;rw[and_comm];refine and_congr ?_ Iff.rfl;show(∀c∈r.expr.occs,_)↔_;refine forall_congr' λc=>forall_congr' λB=>?_;ext n;.grind[Du]
   .rintro⟨s,D,M⟩;exact#[lU s,.h,by grind[Du]]
  ext n;.intro h r x;exact(one r).mp (h (EJ r) (.mB r x))
  .intro h r x;obtain⟨m,C,rfl⟩:=@Q x;grind
 rw[q];ext n
 .rintro⟨D,M⟩;have J:∀i r,p.rules[i]? =O r->.yX=[]:=.aW
  have f:∀r∈p.rules,.qr=[]:=λr x=>by let#[i,L]:=.aG x;grind
  refine#[?_,f];have u:(targets p).Nodup:=(Ss p.rules).mpr λi r x t H=>((Lh l v).mp (J i r x) t H).2;rw[J' u Q];rintro⟨k,a⟩;rw[LJ];ext n;.intro h;let#[r,x,H]:=t6.mp h;let#[i,L]:=.aG x;grind[Lh]
  grind[XR]
 .rintro⟨D,M⟩;refine#[λi r x=>xi.mpr #[(Lh l v).mpr λt H=>.m0,.h],λd T=>?_];.refine(LJ t.1 t.2).mp (D.mem_iff.mp ?_);exact t6.mpr #[r,kO x,H]
  .exact(Ss p.rules).mp (D.nodup_iff.mpr Q) i r x t H
  grind[XR,LJ]
theorem aih{A B:Type}{l:@q A}{f:A->@q B}:.es f=[]↔∀x∈l,f x=[]:=aa3
theorem Uy{g:.aa}{p:.hf}{i:Nat}(v:Af g):prodFlaws g p i=[]↔.Ev:=by
 unfold prodFlaws;simp only[xi,iff_nil,Ih,aih];have s:(∀n∈(kD p).names,.Ey)↔∀n∈.mU,(.kP).isNone=ij:=by
  have t:∀n:.ay,.Ey↔(symOf g n).isNone=ij:=by intro n;rw[G8];simp
  ext n;.intro h n f;exact(t n.name).mp (h n.name .yZ)
  .intro h n f;obtain⟨m,M,rfl⟩:=@Q (show n∈.yY from f);grind
 have hk:(kD p).kids.length=.dG:=by unfold kD;simp
 have c:(kD p).rules.length=.t4:=by unfold kD;simp
 unfold Bx;rw[hk,c,s];ext n
 .rintro⟨⟨⟨⟨⟨⟨B,L⟩,l⟩,H⟩,T⟩,k⟩,a⟩;have H:¬3<.dG:=.cO H;have T:¬24<.t4:=.cO T;have L:¬24<=i:=.cO L;have u:.hj:=λn f=>by
   have:=l n f;cases t:.kP with
   |none=>rw[t]at this;cases this|some _=>rfl
  rw[il (show¬mostKids<.dG from H)]at a;have q:.Et:=.h
  have:=(Tb u v).mp #[λi r c=>xi.mpr (k (r,i) .q),q];grind
 .rintro⟨B,L,H,T,l,h⟩;have u:.hj:=λn f=>by
   have:=l n f;cases t:.kP with
   |none=>rw[t]at this;cases this|some _=>rfl
  let#[D,w]:=(Tb u v).mpr h;refine .jO #[#[#[#[#[B,.mS 24 i],l],ir (show¬3<.dG by omega)],ir (show¬24<.t4 by omega)],λx A=>xi.mp .q];grind
theorem P5{A:Type}{l:@q A}:(∀i x,.kO->i<n)↔.ac<=n:=by
 ext n;.intro h;cases L:l.length with
  |zero=>omega|succ k=>have:=h k l[k] (mP @h);omega
 grind
theorem XH(g:.aa)(h:Nat):(rawFlaws g h).isEmpty=f'↔uH (wM g):=by
 rw[List.isEmpty_iff];unfold rawFlaws;simp only[xi,iff_nil,Ih];unfold uH PY OO YL wM;simp only[i0,kQ];have c:∀l:@q Sym,@M (jv.name∘lU)=@M Sym.name:=λl=>y;have m:∀l:@q .hf,@M (MProd.name∘kD)=@M Production.name:=λl=>y;rw[c,m];ext n
 .rintro⟨⟨a,w⟩,Q⟩;have A:∀i s,g.syms[i]? =O s->.Em:=λi s q=>Ve.mp (w i s q);have v:Af g:=λs q=>by obtain⟨i,t⟩:=.aG q;grind
  have I:∀i p,.t8->.Ev:=by grind[Uy]
  refine#[#[.h,P5.mp .q,by grind[CV],λs M=>?_],#[P5.mp .q,by grind[CV],λp M=>?_],λs M=>?_];.obtain⟨k,f,rfl⟩:=@Q M;unfold Ju;rw[Du];exact#[(v k f).2,(v k f).1]
  .obtain⟨C,f,rfl⟩:=@Q M;let#[i,t]:=.aG f;grind
  .obtain⟨k,f,rfl⟩:=@Q M;let#[i,t]:=.aG f;refine(Uj g (λp Q n f=>?_) k.name).mp (A i k t).2.2.2.2;let#[j,H]:=.aG Q;have:=(I j p H).2.2.2.2.1 n.name .yZ;rw[G8,Ao]at this;exact Uc.mp .bM
 .rintro⟨⟨D,u,r,B⟩,⟨T,L,J⟩,x⟩;have v:Af g:=λs q=>by have:=B (lU s) (.mB s q);unfold Ju at this;rw[Du]at this;exact#[this.2,this.1]
  have I:∀p∈g.prods,Bx .qm (kD p):=.h
  refine#[#[?_,λi s q=>Ve.mpr #[by grind[CV],(v s (kO q)).1,(v s (kO q)).2,P5.mpr u i s q,?_]],by grind[Uy,CV]];.grind
  .refine(Uj g (λp Q n f=>?_) .cz).mpr (x (lU s) (jr.mpr #[s,kO q,y]));have:=(I p Q).2.2.1 n.name .yZ;rw[G8,Ao]at this;exact Uc.mp .bM
end Mx
namespace Mx
open Vaatta Vaattb Vaattd
structure jX where
 prod:Nat
 num:Option Int
 kids:List Nat
def tE(ts:.H):.E (.dD×.H):=
 if .qf then(.dW .aK).bind λq=>O (O (-(numOf .iI:Int)),q.2)
 else match .dW ts with
  |O q=>O (O (numOf .iI:Int),q.2)|e'=>O (e',ts)
def o6(g:.aa)(c:.ay)(l:.dD):.ga:=match .t9 with
 |e'=>e'|O p=>if .ua then .y0 else e'
def vt(g:.aa)(ts:.H):.E (jX×.H):=(kL .dh ts).bind λt=>(tE t.2).bind λv=>(o6 g .qn v.1).bind .ub
def p9(i:Nat)(I:@n)(nodes:.bp):.bp:=nodes.modify i λn=>.Ez
def oV:@n->.H->@n×.H
 |[],ts=>([],ts)|a::r,ts=>if .ad 41 ts then oV r .aK else(a::r,ts)
def attach(k:@n)(n:Nat)(nodes:.bp):.bp:=match k with
 |[]=>nodes|a::_=>p9 a [n] .bx
def stepT(g:.aa)(first:Nat):Nat->.bp->@n->.H->.uc
 |0,_,_,_=>e'|f+1,nodes,k,ts=>if .bz=60\/.dd=24 then e' else(vt g ts).bind λq=>
   let c:=.y1
   if .ad 40 q.2 then .dX f c (.bz::k) .hk else match oV k q.2 with
    |([],us)=>.qh|(a::r,us)=>(jk 44 us).bind λus=>.dX f c (a::r) us
def sr(g:.aa)(first:Nat)(nodes:.bp)(k:@n)(ts:.H):=.dX (.av+1) .bx k ts
def after(g:.aa)(first:Nat)(nodes:.bp)(k:@n)(ts:.H):.uc:=match oV k ts with
 |([],us)=>O (nodes,us)|(a::r,us)=>(jk 44 us).bind .EA
theorem DF(h:kL k ts=O q):.c2<.av:=by
 cases ts with
 |nil=>cases h|cons t r=>have h:(if k t=f' then .kN else e')=O q:=h;grind
theorem LZ(h:tE ts=O q):.c2<=.av:=by
 unfold tE at h;ext J;.rename_i w;cases D:.dW .aK with
  |none=>grind|some r=>rw[D]at h;have u:=DF D;grind
 .ext J;.rename_i r D;have u:=DF D;grind
  grind
theorem MT(h:vt g ts=O q):.c2<.av:=by
 unfold vt at h;cases D:kL .dh ts with
 |none=>grind|some t=>
  rw[D,sb]at h;cases M:tE t.2 with
  |none=>grind|some v=>
   rw[M,sb]at h;cases r:o6 g .qn v.1 with
   |none=>grind|some i=>rw[r]at h;have u:=DF D;have H:=LZ M;grind
theorem HS:∀(k:@n)(ts:.H),(oV k ts).2.length<=.av
 |[],ts=>.bV|a::r,ts=>by
  unfold oV;split;.have:=HS r .aK;grind
  simp
theorem tu(h:jk b ts=O us):.df:=by grind[jk,qF]
theorem ag6(g:.aa)(first:Nat):∀(f:Nat)(nodes:.bp)(k:@n)(ts:.H),.av<f→.dX (f+1) .bx k ts=.dX f .bx k ts:=by
 intro f
 induction f with
 |zero=>omega
 |succ f I=>
  intro nodes k ts h
  conv=>lhs;rw[stepT]
  conv=>rhs;rw[stepT]
  split
  ·rfl
  ·refine .c7 λq c=>?_
   have u:=MT c
   ext h
   split
   ·grind
   ·have H:=HS k q.2
    split
    ·rfl
    ·rename_i a r us Q
     rw[Q]at H
     refine .c7 λl L=>?_
     have m:=tu L
     grind
theorem Vh(h:.av<f):.dX f .bx a ts=sr g @z .bx a ts:=ui (f:=λf=>.dX f .bx a ts) (k:=.av+1) (by grind[ag6]) h .ba
theorem WH(g:.aa)(first:Nat)(nodes:.bp)(k:@n)(ts:.H):sr g @z .bx k ts=if .bz=60∨.dd=24 then e' else
  (vt g ts).bind λq=>if .ad 40 q.2 then sr g @z .y1 (.bz::k) .hk
   else .et .y1 k q.2:=by
 conv=>lhs;unfold sr;rw[stepT]
 split
 ·rfl
 ·refine .c7 λq c=>?_
  have u:=MT c
  ext h
  split
  ·grind[Vh]
  ·have H:=HS k q.2
   unfold after
   split
   ·rfl
   ·rename_i a r us Q
    rw[Q]at H
    refine .c7 λf L=>?_
    have h:=tu L
    grind[Vh]
mutual
def lq:Raw->Nat
 |.node _ _ _ I=>1+mB I
def mB:.c3->Nat
 |[]=>0|t::r=>lq t+mB r
end
mutual
def ou(g:.aa):Raw->Bool
 |.node c _ l I=>(o6 g c l).isSome&&qf g I
def qf(g:.aa):.c3->Bool
 |[]=>f'|t::r=>ou g t&&qf g r
end
def p7(n:Nat):.c3->@n
 |[]=>[]|t::r=>n::p7 .iK r
mutual
def kz(g:.aa)(first n:Nat):Raw->.bp
 |.node c _ l I=>.EB::.cg .b5 I
def lT(g:.aa)(first n:Nat):.c3->.bp
 |[]=>[]|t::r=>.iL++.cg .iK r
end
mutual
theorem wh(g:.aa)(first:Nat):∀(n:Nat)(t:Raw),(.iL).length=lq t
 |n,.node c T l I=>by rw[kz,lq,lH,Vw g @z .b5 I];omega
theorem Vw(g:.aa)(first:Nat):∀(n:Nat)(l:.c3),(.cg n l).length=mB l
 |n,[]=>.Q|n,t::r=>by rw[lT,mB,j9,wh g @z n t,Vw g @z .iK r]
end
theorem Om(h:Nat)(ts:.H):o (readNum h ts)=tE ts:=by
 cases ts with
 |nil=>rfl|cons t r=>
  unfold readNum tE;show o (.km 45)=(.km 45);by_cases H:.jB 45;.rw[ip H,ip H,oF,BD];rfl
  .rw[il H,il H];by_cases hk:.e9;.rw[ip (by rw[hk];rfl),qw (by unfold isNum;rw[hk];rfl)];rfl
   .rw[.Ei,xV (by unfold isNum;simpa using hk)];rfl
theorem afh:.et .bx (a::r) ts=if .ad 41 ts then .et .bx r .aK else(jk 44 ts).bind .EA:=by grind[after,oV]
theorem acm(i:Nat)(I l:@n)(nodes:.bp):p9 i l (p9 i I .bx)=p9 i (I++l) .bx:=by unfold p9;rw[List.modify_modify_eq];congr 1;grind
theorem Sm(h:i<.ac):p9 i I (l++m)=p9 i I l++m:=.EC
theorem TU(i:Nat)(I:@n)(l:.bp):(p9 i I l).length=.ac:=by unfold p9;simp
theorem adm{n:jX}:p9 .ac I (l++[n])=l++[.Ez]:=.EC
theorem attach_append(h:∀a∈k,a<.ac):attach k n (l++m)=attach k n l++m:=by
 cases k with
 |nil=>rfl|cons a r=>exact Sm (h a jO)
theorem Dg(k:@n)(n:Nat)(l:.bp):(attach k n l).length=.ac:=by
 cases k with
 |nil=>rfl|cons a r=>exact TU a [n] l
def oZ(g:.aa)(first:Nat)(nodes:.bp)(k:@n)(r:.ca (Raw×Nat×.H)):.uc:=match r with
 |.ok (t,_,us)=>if ou g t then .et (.gH .bx++.bJ .bz t) k us else e'|.error _=>e'
def qk(g:.aa)(first:Nat)(nodes:.bp)(a:Nat)(k:@n)(r:.ca (.c3×Nat×.H)):.uc:=match r with
 |.ok (l,_,us)=>if qf g l then .et (p9 a ((p7 .bz l).map .kQ) .bx++.cg .bz l) k us else e'|.error _=>e'
structure j5(g:Grammar)(first h m:Nat):Prop where
 len:∀level used ts t n us,readTree h m level used ts=.ok (t,n,us)->us.length<ts.length/\n=used+lq t/\n<=60
 aaj:∀level used ts t n us,readKids h m level used ts=.ok (t,n,us)->us.length<ts.length/\n=used+mB t/\n<=60
 tree:∀nodes above ts,2*ts.length+1<=m->nodes.length<=60->above.length<=24->(∀a∈above,a<nodes.length)->sr g first nodes above ts=oZ g first nodes above (readTree h m (above.length+1) nodes.length ts)
 kids:∀nodes a above ts,2*ts.length+2<=m->nodes.length<=60->above.length<24->(∀b∈a::above,b<nodes.length)->sr g first nodes (a::above) ts=qk g first nodes a above (readKids h m (above.length+2) nodes.length ts)
theorem Ip(g:.aa)(first h:Nat):∀m,j5 g @z h m
 |0=>by
  refine#[?_,?_,?_,?_];.grind[readTree]
  .grind[readKids]
  .omega
  omega|m+1=>by
  have S:=Ip g @z h m;refine#[?_,?_,?_,?_]
  .intro aa Q ts t n us q;rw[readTree]at q;let#[x,D,q]:=lI q;have u:=.ED;by_cases L:mostLevels<aa;.grind
   .rw[il L]at q;by_cases U:Fw<=Q;.grind
    .rw[il U]at q;have U:¬60<=Q:=U;let#[v,M,q]:=lI q;have H:=.EF;by_cases w:.qs;.rw[.bD]at q;let#[I,r,q]:=lI q;let#[l,B,ae]:=I;cases q;have a3:=S.aaj _ _ _ _ _ _ r;grind[lq]
     .rw[.bL]at q;cases q;grind[lq,mB]
  .intro aa Q ts t n us q;rw[readKids]at q;let#[#[x,J,A],D,q]:=lI q;have u:=S.len _ _ _ _ _ _ D;dsimp only at q;by_cases w:.qt;.rw[.bD]at q;cases q;grind[mB]
   .rw[.bL]at q;let#[s,M,q]:=lI q;let#[#[l,n3,u3],r,q]:=lI q;cases q;have H:=AJ M;have a3:=S.aaj _ _ _ _ _ _ r;grind[mB]
  .intro nodes k ts hm hn ha Y;rw[WH,readTree];by_cases hc:.bz=60\/.dd=24;.rw[ip hc];cases D:one h .dh ts with
    |error f=>rfl|ok x=>
     show e'=.dC k (if .ud then Lf #[5,x.1.pos]else if Fw<=.bz then Lf #[6,x.1.pos]else _);by_cases L:.ud;.rw[ip L];rfl
     .rw[il L];have L:¬24<.dd+1:=L;rw[ip (show Fw<=.bz by show 60<=.bz;omega)];rfl
   .rw[il hc];have L:¬.ud:=by show¬24<.dd+1;omega
    have U:¬Fw<=.bz:=by show¬60<=.bz;omega
    unfold vt;rw[<-BD h];cases D:one h .dh ts with
    |error f=>rfl|ok x=>
     have u:=.ED;show((O x).bind _).bind _=.dC k (if .ud then _ else _);rw[sb,il L,il U,<-Om h];cases M:readNum h x.2 with
     |error f=>rfl|ok v=>
      have H:=.EF;show((O v).bind _).bind _=.dC k (if .qs then _ else _);rw[sb,mV];cases hk:o6 g x.1.text v.1 with
      |none=>
       show e'=_;have ab:∀I,ou g (.bX x.1.text x.1.pos v.1 I)=ij:=λI=>by rw[ou,hk];rfl
       by_cases w:.qs;.rw[.bD];cases r:.y2 with
        |error f=>rfl|ok I=>show e'=.dC k (.ok (.fT I.1,I.2));grind[oZ]
       .rw[.bL];show e'=.EG;grind[oZ]|some i=>
       rw[sb,sb];ext h;have ac:∀a∈k,a<.bz:=Y;by_cases w:.qs
       .rw[.bD,.bD];have a3:=qF w;have c:(.EH).length=.bz+1:=by rw[Dg];simp
        have K:=S.kids .EH .bz k (v.2.drop 1) @h @h @h .q;rw[K,c];show qk g @z _ .bz k .y2=_;cases r:.y2 with
        |error f=>rfl|ok I=>let#[l,B,us]:=I;show qk g @z _ .bz k (.ok (l,B,us))=.dC k (.ok (.fT l,B,us));grind[qk,oZ,ou,attach_append,kz,Dg,adm]
       .rw[.bL,.bL];show _=.EG;unfold oZ;ext h;have C:ou g (.fT [])=f':=by rw[ou,hk,qf];rfl
        rw[C,ip y,kz,hk,p7,lT,attach_append ac];rfl
  .intro nodes a k ts hm hn ha Y;have T:=S.tree .bx (a::k) ts @h hn .q Y;rw[T,readKids];show .dC (a::k) .EI=_;cases D:.EI with
   |error f=>rfl|ok x=>
    let#[t,J,A]:=x;have u:=S.len _ _ _ _ _ _ D;show .y3=.e5 (if .qt then _ else _);have af:a<.bz:=Y a jO;by_cases hr:.iN
    .have e0:.y3=.et .y4 (a::k) A:=by grind[oZ]
     rw[e0,afh];by_cases w:.qt
     .rw[.bD,.bD];show _=.EJ;unfold qk;ext h;have C:qf g [t]=f':=by grind[qf]
      rw[C,ip y,p7,p7,lT,lT,t8];rfl
     .rw[.bL,.bL];have p:=wc h 44 A;cases M:.cb h 44 A with
      |error f=>rw[M]at p;have p:e'=jk 44 A:=p;rw[<-p];rfl|ok s=>
       rw[M]at p;have p:O s=jk 44 A:=p;rw[<-p,sb];have H:=AJ M;have c:(.y4).length=J:=by grind[Dg,wh]
       have K:=S.kids .y4 a k s @h @h ha .q;rw[K,c];show qk g @z _ a k .ue=.EK;cases r:.ue with
       |error f=>rfl|ok I=>let#[l,B,us]:=I;show qk g @z _ a k (.ok (l,B,us))=.e5 (.ok (t::l,B,us));grind[qk,qf,p7,lT,attach,Sm,TU,acm]
    .have e0:.y3=e':=by grind[oZ]
     rw[e0];have ab:∀l,qf g (t::l)=ij:=λl=>by
      have:ou g t=ij:=.j0 hr
      rw[qf,this];rfl
     by_cases w:.qt;.rw[.bD];show e'=.EJ;grind[qk]
     .rw[.bL];cases M:.cb h 44 A with
      |error f=>rfl|ok s=>
       show e'=.EK;cases r:.ue with
       |error f=>rfl|ok I=>show e'=.e5 (.ok (t::I.1,I.2));grind[qk]
def rZ(g:.aa)(i:Nat):.ay:=(.gI λp=>.hh).getD []
def wantOf(g:.aa)(i:Nat):.hi:=(.gI λp=>.tZ).getD []
def rprod(g:.aa):Raw->Nat
 |.node c _ l _=>.y5
mutual
def EO(g:.aa):Raw->.n
 |.node c _ l I=>I.map (λt=>.uf)=wantOf g .y5/\ye g I
def ye(g:.aa):.c3->.n
 |[]=>True|t::r=>EO g t/\ye g r
end
theorem XM(h:.t9=O p):∃i,.y0=O i/\.t8:=by
 unfold prodOf at h;unfold prodNumber;cases Q:g.prods.findIdx? .qu with
 |none=>grind|some i=>grind[aaL,J7]
theorem Ti(h:o6 g c l=O i):∃p,.t9=O p/\.ua/\.y0=O i/\.t8:=by grind[o6,XM]
theorem ah9:ad' c a b=[]↔c=ij:=by grind[ad']
mutual
theorem Ht(g:.aa):∀(t:Raw)(w:.E .ay),flawsOf g w t=[]↔.iN/\EO g t/\∀s,w=O s->.uf=s
 |.node c T l I,w=>by
  rw[flawsOf,ou,EO,rprod];cases Q:.t9 with
  |none=>grind[o6]
  |some p=>
   ext h;simp only[xi,ah9];by_cases k:.ua
   .let#[i,u,q]:=XM Q;have f:o6 g c l=O i:=by grind[o6]
    have r:wantOf g i=.tZ:=by grind[wantOf]
    have L:rZ g i=.hh:=by grind[rZ]
    rw[f];simp only[abG,acM,R3];rw[r,L];have C:=UP g I .tZ;have H:(w.any λs=>s !=.hh)=ij↔∀s,w=O s->.hh=s:=by
     cases w with
     |none=>simp
     |some s=>grind
    rw[H];ext n;.rintro⟨⟨⟨⟨a,m⟩,h⟩,M⟩,hk⟩;let#[r1,r2,r3]:=C.mp hk;refine#[r1,#[?_,r2],M];apply sP;grind
    .rintro⟨r1,⟨r2,r3⟩,M⟩;have x:.iE=.dG:=by have:=.aA yY r2;grind
     grind
   .have f:o6 g c l=e':=by grind[o6]
    rw[f];ext n;.rintro⟨⟨⟨⟨a,m⟩,_⟩,_⟩,_⟩;exfalso;apply k;cases v:p.own<;>cases l<;>simp_all
    simp
theorem UP(g:.aa):∀(l:.c3)(wants:.hi),flawsAll g wants l=[]↔qf g l=f'/\ye g l/\∀(j:Nat)(t:Raw)(s:.ay),l[j]? =O t->wants[j]? =O s->.uf=s
 |[],wants=>by rw[flawsAll,qf,ye];simp
 |t::r,wants=>by
  rw[flawsAll,qf,ye,xi,Ht g t,UP g r,qr];ext n;.rintro⟨⟨D,M,c⟩,B,T,L⟩;refine#[#[D,B],#[M,T],λj u s H a=>?_];cases j with
   |zero=>
    cases H;refine c s ?_;cases wants with
    |nil=>cases a
    |cons w f=>exact a
   |succ j=>grind
  .rintro⟨⟨D,B⟩,⟨M,T⟩,L⟩;refine#[#[D,M,λs a=>L 0 t s y ?_],B,T,λj u s H a=>L .bK u s H ?_];.cases wants with
    |nil=>cases a
    |cons w f=>exact a
   grind
end
def x8(g:.aa)(first:Nat)(L:.bp)(m:jX):.n:=m.kids.map .EL=(wantOf g .fb).map O
theorem SV{A:Type}{l m:@q A}(h:@M O=m.map O):l=m:=by
 induction l generalizing m with
 |nil=>ext t|cons a l I=>cases m with
  |nil=>simp at h|cons b m=>grind
theorem afJ(g:.aa)(first n:Nat)(t:Raw):∃(x:.dD)(I:@n)(r:.bp),.iL=#[rprod g t,x,I]::r:=by
 cases t with
 |node c T l m=>refine#[l,(p7 .b5 m).map .kQ,.cg .b5 m,?_];rfl
theorem Vu:∀t:Raw,1<=lq t
 |.node _ _ _ _=>.ug
theorem SK(g:.aa)(first:Nat):∀(l:.c3)(n:Nat)(L:.bp),.EM->(.y6).map .EL=(@M λt=>.uf).map O
 |[],n,L,h=>.Q|t::r,n,L,h=>by rw[p7];simp only[j6];have Q:=Vu t;have a:L[n]? =(.cg n .aC)[0]? :=h 0 .uh;let#[x,I,C,e]:=afJ g @z n t;rw[lT,e]at a;rw[Kd,a];congr 1;refine SK g @z r .iK L λi f=>?_;have:=h .qv .uh;grind[lT,wh]
mutual
theorem Xs(g:.aa)(first:Nat):∀(t:Raw)(n:Nat)(L:.bp),(∀i,i<lq t->L[n+i]? =.iL[i]?)->((∀m∈.iL,x8 g @z L m)↔EO g t)
 |.node c T l I,n,L,h=>by
  have hk:∀i,i<mB I->L[n+1+i]? =(.cg .b5 I)[i]? :=λi a=>by have:=h (1+i) .ug;grind[kz]
  rw[kz,EO];simp only[Kj];rw[VT g @z I .b5 L hk];refine and_congr ?_ Iff.rfl;unfold x8;ext h;rw[SK g @z I .b5 L hk];grind[SV]
theorem VT(g:.aa)(first:Nat):∀(l:.c3)(n:Nat)(L:.bp),.EM->((∀m∈.cg n l,x8 g @z L m)↔ye g l)
 |[],n,L,h=>by rw[lT,ye];simp|t::r,n,L,h=>by
  rw[lT,ye];simp only[k8,or_imp,forall_and];have g1:=Xs g @z t n L ?_;have w:=VT g @z r .iK L ?_;.rw[g1,w]
  .intro i a;have:=h .qv .uh;grind[lT,wh]
  grind[mB,lT,wh]
end
def pK(g:.aa)(first:Nat)(ts:.H):.E .bp:=(sr g @z [] [] ts).bind .EN
theorem VA(g:.aa)(first h:Nat)(ts:.H):.m1=match .y7 with
  |.ok (t,_,us)=>if .iN/\us=[]then O (.bJ 0 t)else e'|.error _=>e':=by
 unfold pK;have S:=(Ip g @z h (2*.av+2)).tree [] [] ts @h @I @I @I;rw[S];show(oZ g @z [] [] .y7).bind _=_;cases .y7 with
 |error f=>rfl|ok x=>
  let#[t,n,us]:=x;unfold oZ;ext h;by_cases c:.iN;.rw[ip c];show(O (.bJ 0 t,us)).bind _=_;grind
  grind
mutual
theorem HP(g:.aa):∀t:Raw,(treeOf g t).size=lq t
 |.node c T l I=>by rw[treeOf,Tree.size,lq,Vr g I]
theorem Vr(g:.aa):∀l:.c3,sizeAll .y8=mB l
 |[]=>.Q|t::r=>by rw[treesOf,sizeAll,mB,HP g t,Vr g r]
end
theorem Ud(g:.aa)(first:Nat):∀(l:.c3)(n:Nat),acD (@z+n) .y8=.y6
 |[],n=>.Q|t::r,n=>by rw[treesOf,acD,p7,HP,j6,K1,Ud g @z r .iK]
def Ac(i:Vaattf.Info):Nat×Int×@n:=(i.prod,i.num,i.kids)
def Aa(m:jX):Nat×Int×@n:=(m.prod,.m2,m.kids)
mutual
theorem YX(g:.aa)(first:Nat):∀(t:Raw)(p:.ga)(u n:Nat),.iN->(GH p u (@z+n) (treeOf g t)).map Ac=(.iL).map Aa
 |.node c T l I,p,u,n,h=>by
  rw[ou,qr]at h;rw[treeOf,GH,kz,j6,j6];congr 1;.unfold Ac Aa;simp only[Sq];exact#[by let#[i,a]:=.bV h.1;grind[Ti],.dE,by rw[K1];exact Ud g @z I .b5]
  .rw[K1];exact Xq g @z I (@z+n) 1 .b5 h.2
theorem Xq(g:.aa)(first:Nat):∀(l:.c3)(p u n:Nat),qf g l=f'->(acE p u (@z+n) .y8).map Ac=(.cg n l).map Aa
 |[],p,u,n,h=>.Q|t::r,p,u,n,h=>by rw[qf,qr]at h;rw[treesOf,acE,lT,mR,mR,YX g @z t _ _ n h.1,HP,K1,Xq g @z r _ _ .iK h.2]
end
theorem YB(g:.aa)(first:Nat)(k:.ay)(ts:.H)(v:tokens k=.ok ts):(∀nodes,.m1=O .bx->.EO->∃t:Vaattd.Tree,AE g k=O t/\t.size=.bz/\(GH e' 0 @z t).map Ac=nodes.map Aa/\.bx≠[])/\((.m1=e'\/∃nodes,.m1=O .bx/\¬.EO)->AE g k=e'):=by
 have C:readRaw k=(.EP>>=λx=>if x.2.2.isEmpty then pure x.1 else .dB (here 4 .dd x.2.2)):=.EQ
 unfold AE;rw[VA g @z .dd ts,C];cases .EP with
 |error f=>exact#[λnodes h=>.b4,.cY]|ok x=>
  let#[t,n,us]:=x;have r:=Xs g @z t 0 (.bJ 0 t) (λi l=>by rw[AB]);cases us with
  |cons a b=>refine#[λnodes h=>?_,.cY];grind|nil=>
   show(∀nodes,.ER=O .bx->_->∃t',.ES=O t'/\_)/\(_->.ES=e');by_cases c:.iN
   .have M:.ER=O (.bJ 0 t):=ip #[c,y];refine#[λnodes h hk=>?_,λh=>?_]
    .rw[M]at h;cases h;have Q:=(Ht g t e').mpr #[c,r.mp hk,λs q=>.jr q];refine#[treeOf g t,.h,by rw[HP,wh],?_,?_];.have:=YX g @z t e' 0 0 c;ext Q
     grind[wh,Vu]
    grind[Ht]
   grind[Ht]
def mZ(p:Nat)(t:.ay):.ca .H:=tokensFrom (.aS+1) p t
theorem xy:∀l:@n,.mf l.takeWhile p+.mf l.dropWhile p=.ac
 |[]=>y|a::l=>by
  rw[Cj,abz];split;.simp only[lH];have:=xy (p:=p) l;omega
  .simp
theorem D':∀(n p:Nat)(t:.ay),.aS<n→tokensFrom .b5 p t=.y9
 |0,p,t,h=>.t
 |n+1,p,[],h=>.Q
 |n+1,p,b::r,h=>by
  simp only[lH]at h
  have x:=xy (p:=isPlain) r
  have C:=xy (p:=isDigit) r
  conv=>lhs;rw[tokensFrom]
  conv=>rhs;rw[tokensFrom]
  split
  ·exact .ui
  ·split
   ·ext h
    split
    ·rfl
    ·rw[.ui]
   ·split
    ·ext h
     split
     ·rfl
     ·rw[.ui]
    ·split
     ·rw[.ui]
     ·rfl
theorem ZT(h:.aS<n):.y9=mZ p t:=ui (f:=λn=>.y9) (k:=.aS+1) (by grind[D']) h .ba
theorem ag0(t:.ay):tokens t=mZ 0 t:=rfl
theorem Wz(p:Nat):mZ p []=.ok []:=rfl
theorem T9(h:.iO=f'):.qx=mZ (p+1) r:=.za
theorem S1(a:.iO=ij)(h:.gg=f'):.qx=if NAME<(.qy).length then .mr 2 p else(mZ (p+(.qy).length) (r.dropWhile .hn)).map (put1 #[if isWord .qy then 3 else 0,.qy,p]):=.EX
theorem T8(a:.iO=ij)(D:.gg=ij)(h:.gh=f'):.qx=if DIGITS<(b::.fU .ho).length then .mr 3 p else(mZ (p+(b::.fU .ho).length) (r.dropWhile .ho)).map (put1 #[1,b::.fU .ho,p]):=.EX
theorem Vc(a:.iO=ij)(D:.gg=ij)(M:.gh=ij)(h:.kR=f'):.qx=(mZ (p+1) r).map (put1 #[2,[b],p]):=.za
theorem WA(a:.iO=ij)(D:.gg=ij)(M:.gh=ij)(h:.kR=ij):.qx=.mr 1 p:=.za
def lJ(t:Tok):.n:=(.b6=2/\∃b,.ax=[b]/\.kR=f')\/(.b6=3/\isWord .ax=f')\/(.e9/\.ax≠[]/\.hp<=18/\∀b∈t.text,.gh=f')\/(.b6=0/\isWord .ax=ij/\.hp<=12/\(∀b∈t.text,isPlain b=f')/\∃b r,.ax=b::r/\.gg=f')
theorem takeWhile_all:∀(l:@n)(x:Nat),x∈l.takeWhile p->p x=f'
 |[],x,h=>.b4|a::l,x,h=>by
  rw[Cj]at h;ext J
  .rename_i c;ext a6;.exact c
   .exact takeWhile_all l x h
  .cases h
theorem DO:∀(n p:Nat)(t:.ay)(ts:.H),.aS<n->mZ p t=.ok ts->.uj
 |0,p,t,ts,h,e=>.t|n+1,p,[],ts,h,e=>by grind[Wz]|n+1,p,b::r,ts,h,e=>by
  simp only[lH]at h;have k:∀{m:.ca .H}{t:Tok}{ts:.H},m.map (put1 t)=.ok ts->∃l,m=.ok l/\ts=t::l:=by
   intro m t ts h;cases m with
   |error f=>cases h|ok l=>cases h;exact#[l,y,y]
  cases a:.iO with
  |true=>rw[T9 a]at e;exact DO n _ r ts @h e|false=>
   cases D:.gg with
   |true=>
    rw[S1 a D]at e;split at e;.cases e
    .rename_i L;ext bB
     .by_cases c:isWord .qy=f';.exact .lr c
      .exact @n (@n (@n #[.h,.h,Fx L,by grind[isPlain,takeWhile_all],b,_,y,D]))
     .have:=xy (p:=isPlain) r;exact DO n _ _ l @h C x v|false=>
    cases M:.gh with
    |true=>
     rw[T8 a D M]at e;split at e;.cases e
     .rename_i L;ext bB;.exact @n (.j2 #[y,@E,Fx L,.zb])
      .have:=xy (p:=isDigit) r;exact DO n _ _ l @h C x v|false=>
     cases g:.kR with
     |true=>
      rw[Vc a D M g]at e;ext bB;.exact .n #[y,b,y,g]
      .exact DO n _ r l @h C x v|false=>grind[WA]
theorem MH(h:tokens t=.ok ts):.uj:=DO (.aS+1) 0 t ts @h h
theorem afu(g:.aa):wM (strip g)=wM g:=by
 unfold wM strip;simp only[kQ];congr 1;.refine oM λs _=>?_;show lU (plainSym s)=lU s;unfold lU plainSym;simp only[kQ];rfl
 .refine oM λp _=>?_;show kD (plainProd p)=kD p;unfold kD plainProd;simp only[kQ];rfl
theorem agF(v:o .mS=O ts)(c:wC ts=O G)(hk:uH G):∃g,grammarOf a=O g/\wM g=G:=by have e:=W6 a;rw[v,sb,c]at e;let#[g,q,w]:=.M e;have h:=Eg q;grind[afu,grammarOf,XH]
theorem VZ(h:o .mS=e'\/∃ts,o .mS=O ts/\(wC ts=e'\/∃G,wC ts=O G/\¬uH G)):grammarOf a=e':=by grind[W6,grammarOf,o,XH]
end Mx
end
variable{P:acH}{K:jd}{mg:G0->Option FZ}{X:L2.Cx}{i n lv j first ep g0 g1:Nat}{kvs:List (L2.Key×L2.V)}{z:Int}{qs as i7:List PySem.Addr}{xs ys:List L2.V}{st:List Nat}{G:L2.Hp}{F:Vaattx.Flat}{S:Sy}{rs:List Vaattx.Rec}
namespace Tm
open PySem PySem.Spec PyProof.Rows L2
def top(i:Nat):i5:=amd.main.body.getD i .yk
abbrev N':i5:=top 25
abbrev Ni:i5:=top 26
def AU:Sp:=λg H Q _=>∃n:Nat,g=[.cd]/\.pc Q (pE n) H
def L1:Sp:=λg H Q _=>∃n:Nat,g=[.cd]/\.pc Q (uO n) H
theorem afF:jb .c4 .c4 (i4 N'):=.cJ
theorem aeJ(F:.D "is_digit" N' f a):.ba .c4 AU:=by
 refine .t afF .cK;obtain⟨n,rfl,k⟩:=h;refine .jW .zc;refine#[_,y,_,_,y,y,_,y,lR (λh=>.zd) λh=>?_];.grind[pE]
 grind[pE]
theorem aep:jb .c4 .c4 (i4 Ni):=.cJ
theorem adT(F:.D "is_letter" Ni f a):.ba .c4 L1:=by
 refine .t aep λl A I s H m Q E c h=>?_;obtain⟨n,rfl,k⟩:=h;refine .jW (Jt .zc (Ee .zc));have fin:∀b:.ab,b=uO n->.pc Q b H:=.h
 have t:∀(R:VK),(∀b:.ab,b=vP n->R (.bl b) H)->Zp .EY .EY (tC (.h 97)) (i9 0) (tC (.h 122)) (start .c4 [@Z n]) H R:=λR g=>#[_,y,_,_,y,y,_,y,lR (λh=>#[_,_,y,y,g _ (by have h:(97:Int)<=n:=.kd h;unfold vP;rw[iq (show 97<=n by omega),acM];exact decide_eq_decide.mpr @h)]) (by grind[vP])];refine#[_,y,_,_,y,y,_,y,lR (λh=>#[_,_,y,y,_,y,.EZ]) λh=>#[_,y,.EZ]];.grind[uO,ri]
 .grind[uO,ri]
 .cases D
 grind[uO,ri]
structure Callee(P:kS)(w:jR)(K:jd)(mg:iA->Option iB)(base:jo)(C:U)(x:iA)(k:Nat)(ps:List iA)(sp:Sp)(f:U)(fd:iZ):Prop where
 ok:iN P w K mg base (iP P w C) k f fd ps sp
 E4:mg x=O (.ref f)
 kp:Aw K (.ref f)=f'
 bd:Binds K fd ps []
theorem iS(G:.hr m)(c:.jJ k)(ok:.g9)(l:PA X (e::h) t)(g:.fL:=by rfl)(q:.dS:=by rfl)(u:.da:=by decide)(a:.mw e h:=by rfl)(B:.mz T h:=by rfl):.H (.dy (e::h) [] T) (rE r [] E t):=.hu (vr ok g) l u a B
structure qy(mg:iA->Option iB)(base:jo)(C:U):Prop where
 own:∃(B newId akv:String)(bm:List iB),OwnClsQ "Unreadable" C bm newId mg base/\ExcBaseFacts B newId akv bm
theorem tG(T:qy X.mg .dQ C)(ok:.g9)(c:.en:=by rfl)(q:Gl X "Unreadable":=by rfl)(g:.fL:=by rfl):.qn .E0 h k:=by let#[B,l,a,m,Q,FB]:=T.own;exact afN Q.own FB c q g ok
theorem kW(h:.ao t)(a:∀w,.fA w=.Cq:=by intro _;rfl):PT X e (tB t):=aj6 h a
def l4(t:@n):.L:=t.map λ(b:Nat)=>.jq b
theorem DZ{t:@n}{b:Nat}(h:.hq):(l4 t)[i]? =.jh b:=by grind[l4]
theorem vf(t:@n):(l4 t).length=.aS:=by unfold l4;simp
abbrev N8:i5:=top 28
def run(p:.ew)(t:@n)(i:Nat):Nat:=(.dD p).length
def Jq(K:jd)(C:U)(p:.ew)(m:Nat):Sp:=λg H Q E=>∃(a:U)(t:@n)(i:Nat),g=[.aX,.cm]/\.m3/\.m4/\if m<.qA then .a9 H else Q (.jn (i+.qA:Nat)) H
theorem PR(h:.hq)(Q:p b=f'):.qA=run p t .ah+1:=by grind[run,aaK,Cj]
theorem Yu(h:.hq)(Q:p b=ij):.qA=0:=by grind[run,aaK,Cj]
theorem Yv(h:.aS<=i):.qA=0:=by unfold run;rw[Ak h];rfl
theorem MM:.hv (i4 N8):=.J
theorem aeI(F:.D "name_end" N8 f p)(T:.kS)(D:.fO)(B:∃x,mg "LONGEST_NAME"=.mi 12 x)(M:.hw ab)(G2:.fV f2 ac):.aX 2 f p .ey (Jq K C oz 12):=by
 obtain⟨x,B⟩:=B;refine .t MM .E1;obtain⟨a,t,i,rfl,v,hl,k⟩:=h;refine#[_,iy (.ag MM.nd y @q @M) (iy (.bv (.mT (.n0 D 0) (Bf (PW.pt (Jr (.n1 M c) (Jd (.n1 G2 c)))))) (iE (xZ (i:=2) MM.nd y @q iY zK))) (.qo 12 B T)),?_];refine .cL;have fin:∀j:Nat,i<=j->i+.m5=j->.qp 12 2 H:=λj aa hj=>by
  refine .E3;.grind
  .have h:¬(12:Int)<.mn-i:=λq=>h (iq q);rw[.ev,hj]at k;exact k
 let Pv:.m6:=λσ L=>L=H/\∃j:Nat,σ=.qB/\i<=j/\i+.m5=j+run oz t j;ext cs;rintro m σ L⟨rfl,rfl,j,rfl,aa,ag⟩;refine#[_,y,_,y,a,_,y,.n v,_,_,y,y,_,y,lR (λU=>?_) λah=>?_]
 .have U:j<.aS:=.uk
  have l:=mP U;generalize t[j]=b at l;refine#[_,y,_,y,a,_,_,_,y,y,v,kj (DZ l),b,y,_,y,lR (λh1=>?_) λh1=>?_];.refine iQ .E7;grind[oz,PR]
  .refine .E8;refine lR (λh2=>.E7) λh2=>?_;.grind[oz,PR]
   grind[oz,Yu]
 grind[vf,Yv]
abbrev Mt:i5:=top 29
theorem LB:.hv (i4 Mt):=.J
theorem ac9(F:.D "number_end" Mt f c)(T:.kS)(p:.fO)(B:∃x,mg "LONGEST_NUMBER"=.mi 18 x)(D:.fV f2 aa):.aX 2 f c .ey (Jq K C pE 18):=by
 let#[x,B]:=B;refine .t LB λab A ac s H vs Q E I h=>?_;obtain⟨a,t,i,rfl,v,hl,k⟩:=h;refine#[_,iy (.ag LB.nd y @q @M) (iy (.bv (.mT (.n0 p 0) (Bf (.n1 D I))) (iE (xZ (i:=2) LB.nd y @q iY zK))) (.qo 18 B T)),?_];refine .cL;have fin:∀j:Nat,i<=j->i+.m7=j->.qp 18 2 H:=λj M hj=>by
  refine .E3;.grind
  .have h:¬(18:Int)<.mn-i:=λq=>h (iq q);rw[.ev,hj]at k;exact k
 let Pv:.m6:=λσ L=>L=H/\∃j:Nat,σ=.qB/\i<=j/\i+.m7=j+run pE t j;ext cs;rintro m σ L⟨rfl,rfl,j,rfl,M,ae⟩;refine#[_,y,_,y,a,_,y,.n v,_,_,y,y,_,y,lR (λU=>?_) λaf=>?_]
 .have U:j<.aS:=.uk
  have l:=mP U;generalize t[j]=b at l;refine .E8;refine lR (λh2=>#[λr H2=>Pv r H2/\g r<g .qB,.aW,_,y,_,_,y,y,?_]) λh2=>?_;.grind[PR]
  grind[Yu]
 grind[vf,Yv]
end Tm
namespace L2
open PySem PySem.Spec PyProof.Rows
structure qT(P:kS)(w:jR)(K:jd)(d:U)(kvs:List (Key×V)):Prop where
 sys:(d==sysModules)=ij
 is:∀h:jo,K.In h->∃vs,KV kvs vs/\h.DictOf (kg P w) d vs
def QC(d:U)(kvs:.aI)(x C:V)(R:.aV->.n):.n:=x=.aD/\∃k,C=kV k/\R .ir
theorem qT.at(M:.ul)(I:.D):∃g,.dB/\s.heap.DictOf .et d g:=M.is _ I.qj
theorem YG{i:.aB}(M:.ul)(f:.aR p)(t:.mA)(w:Q8 i):.H (.dS ab) (λσ H Q=>.b9 λx B=>ty σ B λC a=>QC d kvs x C λr=>∃v,r=O v/\Q v a):=by ext q;refine Yg aaU.lookup w (iW (f @t s σ H _ I h) λu m#[x,B,D,U,L]=>iW (t @t m σ B _ D L) λiv s2#[C,a,c,Y,g]=>?_);obtain⟨rfl,k,rfl,v,l,q⟩:=g;obtain rfl:u=jj d:=U;let#[A,T,J]:=M.at c;let#[w',hw,aa]:=.fG (o:=valueAt A k) (by rw[<-l];exact T.val k);exact#[.pB,wpAny_getItem_of (tL Y) J.mapOf hw #[v,a,c.tok _,aa,q]]
theorem ZE{i:.aB}(M:.ul)(t:.mA)(v:.aR p):PC X .In i o (λσ H Q=>ty σ H λC B=>p σ B λx a=>QC d kvs x C λr=>.pc Q r.isSome a):=by ext q;refine iW (t @t s σ H _ I h) λl m#[C,B,D,w,L]=>iW (v @t m σ B _ D L) λu g#[x,a,c,f,J]=>?_;obtain⟨rfl,k,rfl,q⟩:=J;obtain rfl:u=jj d:=f;let#[Y,T,U]:=M.at c;refine wpAny_in_of (tL w) M.sys U.mapOf ?_;rw[<-(T.val k).AY];exact#[.bl _,a,c.tok _,y,q]
theorem ahs(M:.ul)(a:.aR p)(f:.ao ty)(m:M1 X o "get" t e g):.H (.gy [e] [] g) (λσ H Q=>.b9 λx B=>x=.aD/\ty σ B λC w=>QC d kvs x C λr=>Q (r.getD .iM) w):=by
 ext q;refine .gz (.c4 λu U#[x,B,D,Y,l,L]=>?_);subst l;obtain rfl:u=jj d:=Y;let#[vs,ab,J]:=M.at D;refine#[.pB,λb q=>?_,?_];.cases q;let#[v,_,_,A,h2,_]:=J;exact#[v,A,h2.2.1]
 rw[m.trees];refine Cb y (Fl (uL (iW (f @t U σ B _ D L) λiv s2#[C,w,c,ry,q2]=>vM ?_)));obtain⟨_,k,rfl,q⟩:=q2;let#[ac,aa,T]:=M.at c;exact CQ yC T.typeIs Fi .z (meets_dict_get .et d (tL ry) M.sys) #[_,T.mapOf,#[_,w,c.tok _,(aa.val k).getD (d:=.iM) y,q]]
end L2
namespace Tm
open PySem PySem.Spec PyProof.Rows L2
def zj(b:Nat):iA:=if b=37 then"remainder"else .kT
def DT:.aI:=xB.map λ(b:Nat)=>((.jf b:Key),.aa (zj b))
theorem WD(f:Nat->V)(b:Nat):∀l:@n,jN (@M λ(n:Nat)=>(.d5,f n)) (.jf b)=if b∈l then O (f b)else e'
 |[]=>.Q|n::l=>by
  rw[j6];by_cases h:n=b;.grind[qJ]
  .have D:¬.d5=.jf b:=.h
   rw[rW D,WD f b l];grind
theorem MJ(b:Nat):jN DT (.jf b)=if .qD then .kC (zj b)else e':=by unfold DT;rw[WD (λb=>.aa (zj b)) b xB];simp
abbrev M6:i5:=top 30
def Ug(K:jd)(C:U):Sp:=λg H Q E=>∃(a:U)(t:@n)(i b:Nat),g=[.aX,.cm]/\.m3/\.m4/\.hq/\if uO b=f' then(if 12<.m5 then .a9 H else Q (.jn (i+.m5:Nat)) H)else if pE b=f' then(if 18<.m7 then .a9 H else Q (.jn (i+.m7:Nat)) H)else if .qD then Q (.jn (i+1:Nat)) H else .a9 H
theorem Ul:jb ["text","place","byte"] .ey (i4 M6):=.J
theorem adN(F:.D "token_end" M6 f l)(T:.kS)(v:mg "SIGNS"=.ja d)(M:.cP d DT)(q:.hw aa)(p:.fV f2 ab)(m:.L u C "name_end" 2 .ey (Jq K C oz 12) f3 ac)(B:.L u C "number_end" 2 .ey (Jq K C pE 18) f4 ae):.aX 3 f l .ey (Ug K C):=by
 refine .t Ul .ze;obtain⟨a,t,i,b,rfl,x,L,I,k⟩:=h;have g:.b8:=c.mono .E;refine#[_,iy (.ag Ul.nd y @q (.ax .ae @M .ai)) (iy (.nt (.pe q g 2) (iS m c iI .hr)) (iy (.nt (.pe p g 2) (iS B c iI .hr)) (iy (jh (tF (ZE M .ad (.ml d v))) (.jb (.bK @M iY)) jn) (.ko T)))),?_];refine#[_,y,_,y,a,_,_,_,y,y,x,kj (DZ I),?_];refine#[_,y,b,y,_,y,lR (λD=>?_) λD=>?_];.rw[ip D]at k;exact .E9
 .rw[il D]at k;refine#[_,y,b,y,_,y,lR (λU=>?_) λU=>?_];.rw[ip U]at k;exact .E9
  .rw[il U]at k;refine#[_,y,y,.jf b,y,_,y,?_];rw[MJ];by_cases r:.qD;.rw[ip r]at k⊢;refine iQ #[_,y,_,_,y,y,?_];exact k
   .rw[il r]at k⊢;ext L;exact k
def EN:iA:="0123456789"
def vB:iA:="ABCDEFGHIJKLMNOPQRSTUVWXYZ"
def EM:iA:="abcdefghijklmnopqrstuvwxyz"
theorem akF:∀k,k<10->EN.cps.toList[k]? =O (48+k):=.iu
theorem akA:∀k,k<26->vB.cps.toList[k]? =O (65+k):=.iu
theorem ajZ:∀k,k<26->EM.cps.toList[k]? =O (97+k):=.iu
theorem Qs{z:iA}{lo:Nat}(h:∀k,k<n->z.cps.toList[k]? =O (lo+k)){b:Nat}(D:lo<=b)(M:b<lo+n):ox z.cps.toList ((b:Int)-(lo:Int))=O b:=by
 have e:(b:Int)-(lo:Int)=((b-lo:Nat):Int):=.t
 grind[kj]
abbrev Ph:i5:=top 27
def WM:Sp:=λg H Q _=>∃b:Nat,g=[.h b]/\oz b=f'/\Q (@I .kT) H
theorem ahd:jb .c4 .c4 (i4 Ph):=.cJ
theorem af0(F:.D "sign_of" Ph f a)(D:∃x,mg "DIGITS"=O (@I EN x))(M:∃x,.n2 mg x)(r:∃x,mg "SMALL_LETTERS"=O (@I EM x))(p:.fV B t):.aX 2 f a .c4 WM:=by
 let#[U,D]:=D;let#[v,M]:=M;obtain⟨m,r⟩:=r;refine .t ahd λg A I s H L Q E c h=>?_;obtain⟨b,rfl,hp,k⟩:=h;refine#[_,iy (.nt (iS p c (iI (E:=E)) (.js 0)) (jG Ji (kU (v:=@I EN) .z D .br) .zf .ai)) (.pI (ju su .ae iY .aw) (.jb (jG Ji (kU (v:=@I vB) .z M .br) .zf .ai)) (jG Ji (kU (v:=@I EM) .z r .br) .zf .ai)),?_];refine#[_,y,b,y,_,y,lR (λT=>?_) λT=>?_]
 .have l:48<=b/\b<=57:=by grind[pE]
  exact#[_,y,_,_,y,y,EN,_,b,y,y,(.jA 10),Qs (lo:=48) (n:=10) akF l.1 @h,k]
 .have hl:(65<=b/\b<=90)\/(97<=b/\b<=122):=by grind[oz,uO,vP,ri]
  refine#[_,y,_,_,y,y,_,y,lR .dH .dH];.have q:(b:Int)<=90:=.kd q;exact#[_,y,_,_,y,y,vB,_,b,y,y,(.jA 26),Qs (lo:=65) (n:=26) akA @h @h,k]
  .have q:¬(b:Int)<=90:=.h
   exact#[_,y,_,_,y,y,EM,_,b,y,y,(.jA 26),Qs (lo:=97) (n:=26) ajZ @h @h,k]
theorem wx:Passes (iP .bI X.w C) X .g8:=by intro pins σ H s e p I h;let#[a,L,_,_,_,_,_,_,q]:=h;grind
theorem n8(G:.hr l)(c:.jJ k)(h:PA X (e::g) t)(q:.dS:=by rfl)(u:.da:=by decide)(a:.mw e g:=by rfl)(B:.mz T g:=by rfl):.H (.dy (e::g) [] T) (rE r [] .g8 t):=.hu wx h u a B
def txt(b:@n):iA:=#[b.toArray]
def mf(t:jH):iA:=match t.kind with
 |2=>zj (t.text.headD 0)|3=>.kU|1=>"number"|_=>if ri (t.text.headD 0)=f' then"great"else"small"
def rY(t:jH):V:=match t.kind with
 |2=>.iM|3=>.iM|1=>.h (uR .ax)|_=>.um
def wL(t:jH):.L:=[@I (mf t),rY t]
theorem ac6(h:oz b=f'):xB.contains b=ij:=by
 have u:∀s∈xB,oz s=ij:=.iu
 grind
theorem adb(t:@n):uR t=abW t:=by grind[uR,abW]
theorem ae3(t:@n):Dv Str.empty (t.map λb=>(.kT:iA))=txt t:=by
 rw[TL.join_eq];refine TL.By ?_;rw[TL.Ov];show TL.yh [] _=t;induction t with
 |nil=>rfl|cons a r I=>
  cases r with
  |nil=>rfl|cons b r=>grind[TL.yh]
def D8:.L:=[@I "if",@I "then",@I "else"]
abbrev N2:i5:=top 31
def Vk(K:jd):Sp:=λg H Q _=>∃(a:U)(t:jH),g=.dX/\.aB a (l4 .ax)/\Mx.lJ t/\∀(p:U)(L:Hp),.I->L p=.jV (wL t)->.bU L
theorem Hb:jb ["piece","written","byte"] ["piece"] (i4 N2):=.J
theorem iu.new(h:.dZ):.I (.bt o):=λb u e=>.m4 e h
theorem agz(t:@n):kE (.jj t) D8=FK t:=by
 have e:∀(x:iA)(l:@n),.kV=l->.q (x=txt t)=(t==l):=λx l h=>by
  by_cases q:t=l;.subst q;rw[iq (TL.By (by show .kV=_;rw[h];rfl))];simp
  .rw[ir λz=>q (by rw[z]at h;exact h)];grind
 show(pS (@I "if") (.jj t)||(pS (@I "then") (.jj t)||(pS (@I "else") (.jj t)||ij)))=(t==AL||(t==xA||t==uQ));rw[Bool.or_false];have q:∀(x C:iA),pS (@I x) (@I C)=.q (x=C):=λx C=>.Q
 rw[q,q,q,e _ AL .z,e _ xA .z,e _ uQ .z]
theorem aeD(F:.D "token_of" N2 f fd)(hS:mg "SIGNS"=.ja d)(M:.cP d DT)(hW:mg "WORDS"=.ja tw)(ac:∀H:Hp,.aJ tw D8)(g:∃tk,.n2 mg tk)(ae:mg "int"=e')(G1:.c8 C "sign_of" 2 .c4 WM f1 ah)(G2:.c8 C "is_digit" 1 .c4 AU f2 ai):@H ab .de 3 f fd ["piece"] (Vk K):=by
 let#[t2,g]:=g;refine .t Hb .zg;obtain⟨a,t,rfl,T,m,k⟩:=h;refine#[_,iy (jh (tF (ZE M .fc (.ml d hS))) (.jb (l7 (Y (YG M (kU (v:=@h d) .z hS y) .fc .ai) (Y pJ iw)))) jn) (iy (.aK Hb.nd y @q (YH n6 (lX y Hb.nd .kW (.jK ("byte",2)) (λ_ _ _ _ _=>.bZ Hb.nd y @q) .bA (λ_ _ _ _ _=>n8 G1 hr .iP)))) (iy (jh (kW (n8 G2 (.e6 .E) (Y .fc iw))) (.jb (l7 (Y n6 (Y (wb adl .z ae .z .dI) iw)))) jn) (iy (.n3 (.ml tw hW) (l7 (Y @M (Y pJ iw)))) (.pI (ju aez (jG Ji @M iY .ai) (kU (v:=@I vB) .z g .br) .z) (.jb (l7 (Y n6 (.js 1)))) (l7 (Y n6 (.js 1))))))),?_];let#[b,r,hx]:∃b r,.ax=b::r:=by
  rcases m with⟨_,b,e,_⟩|⟨_,e⟩|⟨_,e,_⟩|⟨_,_,_,_,b,r,e,_⟩;.grind
  .cases q:t.text with
   |nil=>rw[q]at e;cases e|cons b r=>simp
  .cases q:t.text with
   |nil=>grind|cons b r=>simp
  grind
 have h0:ox (l4 .ax) 0=.jh b:=kj (j:=0) (.jP hx);refine#[_,y,a,_,_,_,y,y,T,h0,y,.jf b,y,_,y,?_];rw[MJ];by_cases hs:.qD
 .rw[ip hs];refine iQ #[_,y,a,_,_,_,y,y,T,h0,y,.jf b,y,@I (zj b),?_,.fd,.fy];.grind[MJ]
  .have hk:.b6=2:=by
    have np:oz b=ij:=by grind[ac6]
    rcases m with⟨h,_⟩|⟨_,h⟩|⟨_,_,_,h⟩|⟨_,_,_,h,_⟩;.exact h
    .exfalso;rw[hx]at h;ext bC;rcases h with h|h|h<;>(have h:=(K2 (AR h)).1;rw[h]at np;revert np;decide)
    .grind[oz]
    grind
   grind[iu.new,iG,wL,mf,rY]
 .rw[il hs];ext L;have hp:(∀c∈t.text,oz c=f')/\.hp<=18:=by
   rcases m with⟨_,c,e,h⟩|⟨_,h⟩|⟨_,_,hl,h⟩|⟨_,_,hl,h,_⟩;.grind
   .ext bC;rcases h with h|h|h<;>(rw[AR h];decide)
   .grind[oz]
   grind
  refine#[.br,_,y,a,y,#[_,T],.uq];refine OX (K:=K) (a:=a) (xs:=l4 .ax) (λi L=>.I/\L D=.ls (t.text.take i)) #[@t hD,iG] (λi L _ q=>q.1.seq T) ?_ ?_
  .rintro i x L hi⟨u,aa⟩;obtain⟨c,hc,rfl⟩:∃c:Nat,t.text[i]? =O c/\x=@Z c:=by grind[l4]
   refine .iB;show if f'=f' then _ else(.I/\L D=.ls (t.text.take .ah));refine iQ #[_,y,c,y,.h,_,aa,?_,?_,?_];.rw[i0,Fy];exact qp (ja (Nat.min_le_right _ _) hp.2) .E
   .exact λb o e=>by rw[.mc e hD];exact .bw e
   grind[iG,RU]
  .rintro H1⟨u,aa⟩;rw[vf,pB]at aa;refine#[_,D,t.text.map λb=>.kT,y,y,.jD .aW,?_,?_]
   .rw[kQ,i0];have e1:(t.text.map .Fa).sum=.hp:=by
     have:∀l:@n,(@M .Fa).sum=.ac:=by
      intro l;induction l with
      |nil=>rfl|cons c l ih=>rw[j6,List.sum_cons,ih,lH];show 1+.ac=.ac+1;omega
     grind
    rw[e1];show .hp+.hp*0<=16777216;omega
   .have ej:Dv (mF "") (t.text.map λb=>(.kT:iA))=.kU:=ae3 .ax;rw[ej];have af:(.kU).length=.hp:=.Q
    have B:∀(kd:iA)(v:V)(p:U),H1 p=e'->wL t=[@I kd,v]->.bU (.bL p (@L [@I kd,v])):=λkd v p I e=>k p _ (λb o q=>by rw[.mc (.bw q) I];exact .bw q) (by rw[iG,e]);refine#[_,y,a,_,_,_,y,y,u.seq T,h0,b,y,_,y,lR (λhd=>?_) λhd=>?_]
    .have hk:.e9/\∀c∈t.text,pE c=f':=by
      rcases m with⟨_,c,e,h⟩|⟨_,h⟩|⟨h,_,_,g⟩|⟨_,_,_,_,c,r',e,h⟩;.grind
      .exfalso;rw[hx]at h;ext bC;rcases h with h|h|h<;>(have h:=(K2 (AR h)).1;rw[h]at hd;revert hd;decide)
      .grind
      grind[uO,vP,ri,pE]
     refine#[_,y,_,_,y,PySem.intText_digits (x:=.kU) (λc hc=>?_) ?_ ?_,?_,.fd,λp I=>?_];.have:=hk.2 c hc;grind[pE]
     .show .ax≠[];grind
     .omega
     .omega
     .refine B _ _ p I ?_;unfold wL mf rY;rw[hk.1,adb];rfl
    .have al:.b6≠1:=λq=>by
      rcases m with⟨h,_⟩|⟨h,_⟩|⟨_,_,_,g⟩|⟨h,_⟩;.omega
      .omega
      .grind
      .omega
     have fl:D8.all uq=f':=y;refine#[_,y,tw,D8,y,@n (ac H1),y,fl,_,y,?_];rw[agz];refine lR (λhw=>?_) λhw=>?_
     .have hk:.b6=3:=by
       rcases m with⟨_,c,e,h⟩|⟨h,_⟩|⟨h,_⟩|⟨_,h,_⟩;.grind
       .exact h
       .omega
       grind
      ext bD
     .have hk:.b6=0:=by
       rcases m with⟨_,c,e,h⟩|⟨_,h⟩|⟨h,_⟩|⟨h,_⟩;.grind
       .grind
       .omega
       .exact h
      have hg:.q (b∈vB.cps.toList)=ri b:=by
       have e:vB.cps.toList=(kH 26).map (65+·):=.Q
       rw[e];unfold ri;rw[<-Bool.decide_and];refine decide_eq_decide.mpr ?_;rw[jr];ext n;.grind
       .intro q;exact#[b-65,.h,.t]
      refine#[_,y,.kU,_,b,y,y,(by rw[af];exact ja hp.2 .E),kj (j:=0) (by show t.text[0]? =O b;grind),b,vB,y,y,_,y,?_];rw[hg];refine lR (λag=>?_) λag=>?_;.ext bD
      .ext bD
end Tm
namespace Mx
open Vaatta
def qc(p:.ew)(t:@n)(i:Nat):Nat:=(.dD p).length
def yb(t:@n)(i b:Nat):.E (Tok×Nat):=
 if .gg then(if 12<.qE then e' else O (#[if isWord (.dD .hn)then 3 else 0,.dD .hn,i],i+.qE))
 else if .gh then(if 18<.qG then e' else O (#[1,.dD .ho,i],i+.qG))
 else if .kR then O (#[2,[b],i],i+1)else e'
theorem Bl{t:@n}{b:Nat}(h:.hq):.cQ i=b::.cQ .ah:=by grind[Ka]
theorem KS:∀(l:@n),l.dropWhile p=l.drop (.mf l.takeWhile p)
 |[]=>y|a::l=>by
  rw[abz,Cj];split;.rw[lH,List.drop_succ_cons,KS l]
  .rfl
theorem KR:∀(l:@n),l.takeWhile p=.bY (.mf l.takeWhile p)
 |[]=>y|a::l=>by
  rw[Cj];split;.rw[lH,List.take_succ_cons,<-KR l]
  .rfl
theorem Vb{t:@n}{b:Nat}(h:.hq)(l:.iO=f'):o (mZ i .iQ)=o (mZ .ah (.cQ .ah)):=by rw[Bl h,T9 l]
theorem PZ:o (m.map (put1 x))=(o m).map (x::·):=by cases m<;>rfl
theorem Wy{t:@n}{b:Nat}(h:.hq)(l:.iO=ij):o (mZ i .iQ)=(yb t i b).bind λq=>(o (mZ q.2 (.cQ q.2))).map (q.1::·):=by
 have T:=Bl h;unfold yb;by_cases D:.gg=f'
 .rw[ip D,T,S1 l D];have Q:isPlain b=f':=by grind[isPlain]
  have C:(b::.cQ .ah).takeWhile .hn=.us:=.aW
  have A:.qE=(.us).length:=.ut
  rw[A,C];by_cases L:12<(.us).length;.rw[ip L,ip (show NAME<_ from L)];rfl
  grind[NAME,PZ,KS,Az]
 .rw[il D];have I:.gg=ij:=.h
  by_cases M:.gh=f'
  .rw[ip M,T,T8 l I M];have C:(b::.cQ .ah).takeWhile .ho=.uv:=.aW
   have A:.qG=(.uv).length:=.ut
   rw[A,C];by_cases L:18<(.uv).length;.rw[ip L,ip (show DIGITS<_ from L)];rfl
   grind[DIGITS,PZ,KS,Az]
  .rw[il M,T];have g:.gh=ij:=.h
   by_cases r:.kR=f';.grind[Vc,PZ]
   .rw[il r,WA l I g (.j0 r)];rfl
theorem WB{t:@n}{b:Nat}(h:.hq){q:Tok×Nat}(e:yb t i b=O q):lJ q.1/\.iI=(.iQ).take (q.2-i)/\i<q.2/\q.2<=.aS:=by
 have T:=Bl h;have c:=.jQ h;have x:∀p:.ew,qc p t i<=.aS-i:=λp=>by unfold qc;have:=Mx.xy (p:=p) .iQ;rw[List.length_drop]at this;omega
 unfold yb at e;by_cases D:.gg=f'
 .rw[ip D]at e;have Q:isPlain b=f':=by grind[isPlain]
  have C:.dD .hn=.us:=.aW
  have I:1<=.qE:=.ut
  by_cases L:12<.qE;.grind
  .rw[il L]at e;cases e;refine#[?_,?_,.t,.h]
   .by_cases a:isWord (.dD .hn)=f';.exact .lr a
    .exact @n (@n (@n #[.h,.h,Fx L,.zb,b,_,C,D]))
   .simp only;rw[Kd];exact KR _
 .rw[il D]at e;by_cases M:.gh=f'
  .rw[ip M]at e;have C:.dD .ho=.uv:=.aW
   have I:1<=.qG:=.ut
   by_cases L:18<.qG;.grind
   .rw[il L]at e;cases e;refine#[@n (.j2 #[y,.h,Fx L,.zb]),?_,.t,.h];simp only;rw[Kd];exact KR _
  .rw[il M]at e;by_cases r:.kR=f';.rw[ip r]at e;cases e;refine#[.n #[y,b,y,r],?_,@E,.t];ext t
   grind
end Mx
namespace Tm
open PySem PySem.Spec PyProof.Rows L2
def wA(H:Hp)(ps:@D)(ts:.aj):.n:=.bh=.av/\∀(i:Nat)(p:U)(x:jH),.mF i p->ts[i]? =O x->H p=.jV (wL x)
theorem wA.same(h:wA H ps ts)(k:.Fb):wA L ps ts:=.Fc
theorem wA.snoc(h:wA H ps ts)(e:H p=.jV (wL x)):wA H (ps++[p]) (ts++[x]):=by
 refine#[by simp[h.1],λi q y a b=>?_];by_cases t:i<.bh;.rw[Aj t]at a;rw[.Fd]at b;exact h.2 i q y a b
 .rw[xh @h]at a;rw[xh (by have:=h.1;omega)]at b;grind
def EX:.L:=[@I "end",.iM]
def IG:.L:=[.h 32,.h 10]
abbrev M5:i5:=top 32
def Ue(K:jd)(C:U):Sp:=λg H Q E=>∃(a:U)(t:@n),g=.dX/\.m3/\.m4/\match .iR with
 |e'=>.zh|O ts=>∀(l e:U)(ps:@D)(L:Hp),.dc->.I->L l=.ji ((ps++[e]).map .bZ)->wA L ps ts->L e=O (@L EX)->.ez
theorem AM:jb ["text","tokens","place","end"] .iS (i4 M5):=.J
theorem aiw(b:Nat):kE (.h b) IG=acq b:=by show(pS (.h 32) (.h b)||(pS (.h 10) (.h b)||ij))=(b==32||b==10);grind[pS]
theorem ajH(D:i<=e)(M:e<=.aS):oo (l4 t) (O .m8) (O (e:Int))=l4 ((.iQ).take (e-i)):=by grind[oo,HT.Yt,l4,acL,acK]
theorem ac1{t:@n}{b:Nat}{c:.n}{R:VK}{L:Hp}(h:match Mx.yb t i b with|e'=>c|O q=>R (.jn (q.2:Nat)) L):if uO b=f' then(if 12<.m5 then c else R (.jn (i+.m5:Nat)) L)else if pE b=f' then(if 18<.m7 then c else R (.jn (i+.m7:Nat)) L)else if .qD then R (.jn (i+1:Nat)) L else c:=by grind[Mx.yb,run,Mx.qc]
def S3(K:jd)(C:U):Sp:=λg H Q E=>∃(a:U)(t:@n)(i b:Nat),g=[.aX,.cm]/\.m3/\.m4/\.hq/\match Mx.yb t i b with
 |e'=>.a9 H|O q=>Q (.jn (q.2:Nat)) H
theorem afq{k:Nat}(F:.aX k f c .ey (Ug K C)):.aX k f c .ey (S3 K C):=F.imp λg H Q E h=>by let#[a,t,i,b,e,D,M,r,B]:=h;exact#[a,t,i,b,e,D,M,r,ac1 B]
theorem adM(F:.D "tokens_of" M5 f fd)(hB:mg "BLANKS"=.ja M)(aj:∀H:Hp,.aJ M IG)(ak:.fO)(G1:.L ac C "token_end" 3 .ey (S3 K C) f1 aw)(G2:.L ac C "token_of" 3 ["piece"] (Vk K) f2 ax):@H ac .de 4 f fd .iS (Ue K C):=by
 refine .t AM .Fe;obtain⟨a,t,rfl,hL,hl,k⟩:=h;refine#[_,iy (.aK AM.nd y @q .dJ) (iy (.ag AM.nd y @q iY) (iy (.bv (.n0 ak 0) (iE (jh (ju ua (.ax .ae .ad .ai) (.ml M hB) .z) (iE (xZ (i:=2) AM.nd y @q iY zK)) (iy (.aL AM.nd y @q (.ra G1 hr 0 2)) (.mU (.ch @M (Y (n8 G2 hr (Y (NN OE .ae (Bg .ad) (Bg .ak)) iw)) iw)) (.ag AM.nd y @q .ak)))))) (.mU (.ch @M (Y (l7 (Y n6 (Y pJ iw))) iw)) (iR @M)))),?_];refine#[.au,λL D=>?_];let ae:Nat->@D->.aj->.aq:=λi ps ts c=>i<=.aS/\.I c/\c L=.hu/\wA c ps ts/\.av<=i/\.iR=(Mx.o (Mx.mZ i .iQ)).map (ts++·);refine#[λm σ c=>∃(i:Nat)(v:.aV)(ps:@D)(ts:.aj),σ=[.fz,.ja L,.jh i,v]/\m=.aS-i/\ae i ps ts c,#[_,0,e',[],[],y,y,.au,@t D,iG,#[y,λi p x q=>by simp at q],.au,?_],?_];.grind[Mx.ag0]
 rintro m σ c⟨i,v,ps,ts,rfl,rfl,hi,r,g,B,af,ag⟩;have u:=r.seq hL;refine#[_,y,_,y,a,_,y,.n u,_,_,y,y,_,y,lR (λah=>?_) λai=>?_]
 .have ah:i<.aS:=.uk
  have l:=mP ah;generalize t[i]=b at l;refine#[λσ' I=>∃m',m'<.aS-i/\∃(i:Nat)(v:.aV)(ps:@D)(ts:.aj),σ'=[.fz,.ja L,.jh i,v]/\m'=.aS-i/\ae i ps ts I,.kX,?_];refine#[_,y,_,y,a,_,_,_,y,y,u,kj (DZ l),M,IG,y,@n (aj c),y,y,_,y,?_];rw[aiw];refine lR (λal=>?_) λal=>?_;.refine#[_,y,_,_,y,y,.aS-.ah,.t,i+1,v,ps,ts,y,y,.t,r,g,B,.t,?_];grind[Mx.Vb]
  .have hn:=Mx.Wy l .q;refine#[_,y,_,y,a,t,i,b,y,u,hl,l,?_];cases hq:Mx.yb t i b with
   |none=>grind|some q=>
    rw[hq]at hn;let#[am,aA,aB,an]:=Mx.WB l hq;have ao:∀(I:Hp)(p:U),I p=.ji (oo (l4 t) (O (i:Int)) (O ((q.2:Nat):Int)))->iD K I p (l4 .iI):=by grind[ajH,iD.of]
    refine#[_,y,.jl g,_,y,_,y,_,y,_,y,_,y,a,_,y,u,.fy];refine#[p,q.1,y,ao _ p iG,am,λp2 I ap aq=>?_];have aa:iu c I:=.mW hp ap;have ar:=aa _ _ g;refine .m5 L ar;.rw[i0,B.1];exact .Ff
    .have au:.I (.az L (.k9 p2)):=λb o e=>by rw[.mc e D];exact aa b o (r b o e)
     have T:∀(b:U)(xs:.L),I b=.dz->.az L (.k9 p2) b=.dz:=.Z
     refine#[_,y,.aS-q.2,.t,q.2,_,ps++[p2],ts++[q.1],y,y,an,au,?_,?_,?_,?_];ext ac
     .exact((B.same λb xs e=>aa b _ e).snoc aq).same T
     .grind
     .rw[ag,hn];show GJ _ (GJ _ _)=_;rw[Ax];congr 1;grind
 .have ai:.aS<=i:=.uk
  have av:.iR=O ts:=by rw[ag,Ak ai,Mx.Wz];show O (ts++[])=O ts;simp
  rw[av]at k;refine#[_,y,.jl g,.fd,λe he=>?_];have ab:iu c (upd c e (@L EX)):=@t he;refine#[L,_,_,y,y,ab _ _ g,?_,?_];.rw[i0,B.1];exact .Ff
  .have T:∀(b:U)(xs:.L),upd c e (@L EX) b=.dz->upd (upd c e (@L EX)) L (.k9 e) b=.dz:=.Z
   refine#[_,y,k L e ps _ D (λb o q=>?_) ?_ ?_ (T e _ iG)];.rw[.mc q D];exact ab b o (r b o q)
   ext ac
   .exact(B.same λb xs q=>ab b _ q).same T
def rf(l:U)(n:Nat):.bg:=jx "taken" .cd (jx "tokens" .d0 [])
theorem Vy(l:U)(n:Nat):.gJ ("tokens":iA)=.ja l:=.Q
theorem NJ(l:U)(n:Nat):.gJ ("taken":iA)=.jh n:=.Q
theorem amw(l:U)(n:Nat){m:iA}(D:¬m="taken")(M:¬m="tokens"):.gJ m=e':=by grind[rf,Gg]
def kindS(us:.aj):iA:=match us with
 |[]=>"end"|x::_=>mf x
def mJ(us:.aj):V:=match us with
 |[]=>.iM|x::_=>rY x
structure kG where
 r:U
 dx:U
 l:U
 e:U
 ps:List U
 ts:List jH
structure nW(Cr:U)(H:Hp)(R:kG)(n:Nat):Prop where
 ins:H R.r=O (.ins Cr R.dx (rf R.l n))
 lst:H R.l=O (.lst ((R.ps++[R.e]).map V.ref))
 toks:wA H R.ps R.ts
 fin:H R.e=O (.tup EX)
 le:n<=R.ts.length
def kG.next(x:U)(R:kG)(n:Nat)(H:Hp):Hp:=@z R.r (.ak x R.dx (rf R.l .b5))
def jB(r:U)(H L:Hp):.n:=∀b o,.cn->b≠r->.e6
theorem nW.tok(h:.eB):∃p,(R.ps++[R.e])[n]? =O p/\H p=O (@L [.aa .hv,mJ .fe]):=by
 let#[D,M,r,B,T]:=h;by_cases f:n<.m9
 .have Q:n<R.ps.length:=by rw[r.1];exact f
  have a:=mP Q;have C:.fe=R.ts[n]::R.ts.drop .b5:=@E
  refine#[R.ps[n],.h,?_];rw[C];exact r.2 n _ _ a (mP f)
 .have L:n=.m9:=.t
  have C:.fe=[]:=.h
  refine#[R.e,?_,?_];.rw[xh (by rw[r.1];omega),r.1,L,SE];rfl
  .rw[C];exact B
theorem nW.go(h:.eB)(f:n<.m9):nW x .iU R .b5:=by
 let#[D,M,r,B,T]:=h;have p:∀{b:U}{o:HO},.cn->(∀C l w,o≠.aF l w)->.fW b=O o:=λ{b o}q z=>.zi
 exact#[iG,.h,r.same .q,.h,f]
theorem nW.keeps(h:.eB)(k:∀b o,.cn->(b=R.r\/b=R.l\/∃xs,o=@L xs)->.e6):nW x L R n:=#[.a7 h.ins .cS,.a7 h.lst .iV,h.toks.same .q,.a7 h.fin @I,h.le]
structure Bz(K:jd)(mg:iA->Option iB)(Cr:U):Prop where
 cl:lS K Cr
 nT:jV K Cr "tokens"
 nN:jV K Cr "taken"
abbrev Pl:i5:=.mn 33 1
abbrev Pj:i5:=.mn 33 2
def HL(x:U):Sp:=λg H Q _=>∃(R:kG)(n:Nat),g=[.hw]/\.eB/\Q (@I .hv) H
def HK(C x:U):Sp:=λg H Q E=>∃(R:kG)(n:Nat)(k:iA),.zj/\.eB/\.Fg
theorem ahf:.e7 (i4 Pl):=.cJ
theorem af4(F:.hy f a)(T:.qH):.ba .eC (HL x):=by refine .t ahf .cK;obtain⟨R,n,rfl,l,k⟩:=h;refine .jW (jG zJ (.ax .cM .cM .ai) iY .ai);let#[p,r,B]:=l.tok;refine#[_,y,R.r,x,R.dx,_,_,y,l.ins,T.cl,T.nT,Vy R.l n,_,y,R.r,x,R.dx,_,_,y,l.ins,T.cl,T.nN,NJ R.l n,R.l,_,_,.e5,y,y,@D l.lst,.tx,p,_,_,_,y,y,.bM B,.fP,k]
theorem WX:jb ["self","kind","token"] .gi (i4 Pj):=.J
theorem af2(F:.hz f t)(L:.kS)(T:.qH):.aX 1 f t .gi (HK C x):=by
 refine .t WX .cK;obtain⟨R,n,v,rfl,m,k⟩:=h;refine .md (.ag WX.nd y @q (.ax .aE .aE .ai)) (iy (jh (.bN (jG zJ .ad iY .ai) @M .aw) (.ko L) jn) (.pI (.bN @M n6 .aw) (iE (Hd .ae iY P8)) (jG zJ .ad iY .ai)));let#[p,r,B]:=m.tok;refine#[_,y,R.r,x,R.dx,_,_,y,m.ins,T.cl,T.nT,Vy R.l n,_,y,R.r,x,R.dx,_,_,y,m.ins,T.cl,T.nN,NJ R.l n,R.l,_,_,.e5,y,y,@D m.lst,.tx,?_];refine#[_,y,p,_,_,_,y,y,.bM B,.fP,_,y,y,_,y,?_];generalize M:.fe=us at*;by_cases hk:.bt=v
 .rw[ip hk]at k;subst hk;rw[iq y];ext L;refine .cA;by_cases a:.bt="end";.rw[ip a]at k;rw[iq (show .aa .bt=.aa "end"by rw[a])];ext L;exact#[_,y,p,_,_,_,y,y,.bM B,.j4 1,k]
  .rw[il a]at k;rw[.oo .bt a];have l:.fW p=O (@L [.aa .bt,mJ us]):=.op (mI B m.ins @I) B
   refine iQ #[_,y,R.r,x,R.dx,_,_,y,m.ins,T.cl,T.nN,NJ R.l n,_,_,y,y,R.dx,_,m.ins,.iW,?_];exact#[_,y,p,_,_,_,y,y,.bM l,.j4 1,k]
 grind
abbrev Pk:i5:=.mn 33 3
def WN(x:U):Sp:=λg H Q _=>∃(R:kG)(n:Nat)(k:iA),.zj/\.eB/\.fQ/\.Fh
theorem ahe:jb .gi .gi (i4 Pk):=.J
theorem af3(F:.hA f a)(T:.qH)(L:.aX 1 r m .eC (HL x))(l:.j9 m)(M:Meth K x "kind" r)(p:.aX 1 B g .gi (HK C x))(D:.aT g .gi [])(I:Meth K x "take" B):.aX 2 f a .gi (WN x):=by
 refine .t ahe .Fi;obtain⟨R,n,t,rfl,v,U,k⟩:=h;refine .md (jh (.bN (HU .ae T.cl M L c l .nil wx) @M .aw) (iE (iR vq)) jn) (iy (jf (zA .ae T.cl I p c D .nil wx .dI)) (iE (iR vq)));refine#[_,y,R.r,R.dx,_,y,v.ins,.Q,R,n,y,v,_,y,y,_,y,?_];by_cases hk:.hv=t;.rw[ip hk]at k;rw[iq (show .aa .hv=.aa t by rw[hk])];ext L;refine#[_,y,R.r,R.dx,_,y,v.ins,.Q,_,y,R,n,t,y,v,?_];rw[ip hk,il U];exact k
 .rw[il hk]at k;rw[ir (show¬.aa .hv=.aa t from λq=>hk .na)];exact iQ k
abbrev Pm:i5:=.mn 33 0
def HM(K:jd)(C x:U):Sp:=λg H Q E=>∃(r l a:U)(t:@n),g=[@h r,.aX]/\H r=O (.ak x l [])/\.m3/\.m4/\match .iR with
 |e'=>.zh|O ts=>∀(R:kG)(L:Hp),R.r=r->R.ts=ts->H R.l=e'->nW x L R 0->.cR L->.aV L
theorem ahg:jb .hy .hy (i4 Pm):=.J
theorem af5(F:.bb "Reader.__init__" Pm f c)(T:.qH)(g:.L u C "tokens_of" 4 .iS (Ue K C) f1 ac):.aX 5 f c .hy (HM K C x):=by
 refine .t ahg λae A af s H vs Q E m h=>?_;obtain⟨r,B,a,t,rfl,D,p,v,k⟩:=h;refine .md (.aC (.pe g m 1) y) (iE (.aC iY y));refine#[_,y,a,t,y,p,v,?_];cases I:.iR with
 |none=>grind|some ts=>
  rw[I]at k;refine λl e ps L aa M ag hT he=>?_;have ab:=M _ _ D;refine#[_,y,r,x,B,[],y,ab,T.cl,T.nT,@I,?_];refine#[_,y,r,x,B,_,y,iG,T.cl,T.nN,.nb,?_];rw[mz];have ah:∀{b:U}{o:HO},.e6->(∀C B fs,o≠.aF B fs)->.aD r (.ak x B (rf l 0)) b=O o:=.Z
  have ai:jx "taken" (@Z 0) (jx "tokens" (.ap l) [])=rf l 0:=y;refine k #[r,B,l,e,ps,ts] _ y y aa #[iG,.h,hT.same .q,.h,.au] λb o q hb=>?_;rw[iC hb];exact M _ _ q
def ef(p lv:Nat)(t:U)(b:.ab):.bg:=jx "asks_number" (.bl b) (jx "occurrences" .ml (jx "levels" (.h lv) (jx "parts" (.h p) [])))
theorem ail(p lv:Nat)(t:U)(b:.ab):.e8 ("parts":iA)=.jh p:=.Q
theorem V4(p lv:Nat)(t:U)(b:.ab):.e8 ("levels":iA)=.jh lv:=.Q
theorem O6(p lv:Nat)(t:U)(b:.ab):.e8 ("occurrences":iA)=.ja t:=.Q
theorem Y5(p lv:Nat)(t:U)(b:.ab):.e8 ("asks_number":iA)=.j1 b:=.Q
theorem amx(p lv:Nat)(t:U)(b:.ab){m:iA}(D:¬m="asks_number")(M:¬m="occurrences")(r:¬m="levels")(B:¬m="parts"):.e8 m=e':=by grind[ef,Gg]
structure j4 where
 x:U
 dx:U
 ol:U
def wV(l:U)(H:Hp)(X:j4)(p lv:Nat)(b:.ab):.n:=H X.x=O .Fj
def j4.put(l:U)(X:j4)(p lv:Nat)(b:.ab)(H:Hp):Hp:=@z X.x .Fj
structure BM(K:jd)(mg:iA->Option iB)(Ce:U):Prop where
 cl:lS K Ce
 nP:jV K Ce "parts"
 nL:jV K Ce "levels"
 nO:jV K Ce "occurrences"
 nA:jV K Ce "asks_number"
 most:∃tk,mg "MOST_PARTS"=O (.int 60 tk)
 deep:∃tk,mg "MOST_LEVELS_expressions"=O (.int 30 tk)
abbrev Pp:i5:=.mn 74 0
abbrev Oc:i5:=.mn 74 1
abbrev Ob:i5:=.mn 74 2
abbrev Oa:i5:=.mn 74 3
def Nz(l:U):Sp:=λg H Q _=>∃(x a:U),.iX/\H x=O (.ak l a [])/\∀t,H t=e'->.aV (upd (@z t .ap) x (.ak l a (ef 0 0 t ij)))
def Vn(C l:U):Sp:=λg H Q E=>∃(X:j4)(p lv:Nat)(b:Bool),g=[.nf]/\.Fk
def Vm(C l:U):Sp:=λg H Q E=>∃(X:j4)(p lv:Nat)(b:Bool),g=[.nf]/\.Fl
def Vl(l:U):Sp:=λg H Q _=>∃(X:j4)(p lv k:Nat)(b:Bool),g=[.nf,.h k]/\.e9 (lv+k) b/\.aV .ux
theorem ahh:.e7 (i4 Pp):=.cJ
theorem afI:.e7 (i4 Oc):=.cJ
theorem afH:.e7 (i4 Ob):=.cJ
theorem afG:jb .uy .uy (i4 Oa):=.J
theorem af'(F:.hB f a)(T:.qI):.ba .eC (Nz l):=by
 refine .t ahh λB A I s H g Q E L h=>?_;obtain⟨x,r,rfl,v,k⟩:=h;refine .md (.aC iY y) (iy (.aC iY y) (iy (.aC .dJ y) (iE (.aC vq y))));refine#[_,y,x,l,r,_,y,v,T.cl,T.nP,@I,?_];refine#[_,y,x,l,r,_,y,iG,T.cl,T.nL,.nb,?_];refine#[.au,λt p=>?_];rw[mz]at p⊢;have c:x≠t:=.kY
 refine#[_,y,x,l,r,_,y,(by rw[iC c];exact iG),T.cl,T.nO,.iW,?_];refine#[_,y,x,l,r,_,y,iG,T.cl,T.nA,(.mX 3 1000),?_];have:=k t .Z;rw[mz];have e:∀q D m,upd (upd (@z x q) t D) x m=upd (@z t D) x m:=.sP
 rw[e];ext Q
theorem aeM(F:.hC f a)(L:.kS)(T:.qI):.ba .eC (Vn C l):=by
 let#[x,M]:=T.most;refine .t afI .cK;obtain⟨X,p,lv,b,rfl,v,k⟩:=h;refine .qq 60 M L;refine#[_,y,X.x,l,X.dx,_,_,y,v,T.cl,T.nP,ail _ _ _ _,_,_,y,y,X.dx,_,v,.qJ,?_];refine .qr l T.cl T.nP;.have h:.mG 60 (p+1:Nat):=.kd h;rw[ip @h]at k;exact k
 .have h:¬.mG 60 (p+1:Nat):=.h
  rw[.ev]at k;exact k
theorem aeL(F:.hD f a)(L:.kS)(T:.qI):.ba .eC (Vm C l):=by
 let#[x,M]:=T.deep;refine .t afH .cK;obtain⟨X,p,lv,b,rfl,v,k⟩:=h;refine .qq 30 M L;refine#[_,y,X.x,l,X.dx,_,_,y,v,T.cl,T.nL,V4 _ _ _ _,_,_,y,y,X.dx,_,v,.qJ,?_];refine .qr l T.cl T.nL;.have h:.mG 30 (lv+1:Nat):=.kd h;rw[ip @h]at k;exact k
 .have h:¬.mG 30 (lv+1:Nat):=.h
  rw[.ev]at k;exact k
theorem aeK(F:.hE f a)(T:.qI):.ba .uy (Vl l):=by
 refine .t afG .cK;obtain⟨X,p,lv,n,b,rfl,v,k⟩:=h;refine#[_,iE (Hd .ae @M akw),?_];refine#[_,y,X.x,l,X.dx,_,_,y,v,T.cl,T.nL,V4 _ _ _ _,_,y,_,_,y,y,X.dx,_,v,.qJ,?_];have e:((lv+n:Nat):Int)-.aY=(lv:Int):=.t
 rw[e];exact k
theorem uf{x C:iA}:x=C↔.kV=C.cps.toList:=by grind[TL.By]
def E0:@n:=[101,110,100]
def IF:@n:=[110,117,109,98,101,114]
def Jn:@n:=[103,114,101,97,116]
def El:@n:=[115,109,97,108,108]
def EZ:@n:=[114,101,109,97,105,110,100,101,114]
theorem wJ:.qL=E0:=.Q
theorem XX:(mF "number").cps.toList=IF:=.Q
theorem Za:(mF "great").cps.toList=Jn:=.Q
theorem Pz:.Fm=El:=.Q
theorem QL:(mF "remainder").cps.toList=EZ:=.Q
inductive zO(x:jH):List Nat->Prop
 |sign(b:Nat)(h:x.kind=2)(e:x.text=[b])(hb:b≠37):zO x [b]
 |rem(h:x.kind=2)(e:x.text=[37]):zO x EZ
 |word(h:x.kind=3)(e:x.text=AL\/x.text=xA\/x.text=uQ):zO x x.text
 |number(h:x.kind=1):zO x IF
 |great(h:x.kind=0)(g:ri (x.text.headD 0)=true)(s:vP (x.text.headD 0)=false):zO x Jn
 |small(h:x.kind=0)(g:ri (x.text.headD 0)=false)(s:vP (x.text.headD 0)=true):zO x El
theorem VS(h:.nh):zO x .eD:=by
 rcases h with⟨h,b,e,_⟩|⟨h,e⟩|⟨h,_⟩|⟨h,_,_,_,b,r,e,L⟩
 .have q:mf x=zj b:=by grind[mf]
  rw[q];unfold zj;by_cases l:b=37;.rw[ip l,QL];exact .rem h (by rw[e,l])
  .rw[il l];exact .sign b h e l
 .have q:.eD=x.text:=by unfold mf;rw[h];rfl
  rw[q];refine .word h ?_;grind[FK]
 .have q:mf x="number":=by grind[mf]
  rw[q,XX];exact .number h
 .have q:mf x=if .Fn then(mF "great")else(mF "small"):=by grind[mf]
  have a:ri b=f'->vP b=ij:=by grind[ri,vP]
  rw[q];by_cases g:.Fn;.rw[ip g,Za];exact .great h g .q
  .rw[il g,Pz];refine .small h .q ?_;grind[uO]
theorem agu(h:.nh)(l:b≠37):.eD=[b]↔x.isSign b=f':=by
 unfold abS;rw[qr];have k:=VS h;generalize .eD=c at k;cases k with
 |sign w h e u=>grind|rem h e=>grind[EZ]|word h e=>grind[AL,xA,uQ]|number h=>grind[IF]|great h _ _=>grind[Jn]|small h _ _=>grind[El]
theorem zc(h:.nh)(M:2<=.gJ):(.eD=c)↔((c=EZ/\x.isSign 37=f')\/(x.kind=3/\x.text=c)\/(c=IF/\x.kind=1)\/(c=Jn/\x.great=f')\/(c=El/\x.small=f')):=by
 unfold abS pW mQ;have k:=VS h;generalize .eD=d at k;cases k with
 |sign w h e u=>grind|rem h e=>grind|word h e=>grind|number h=>grind|great h g s=>grind|small h g s=>grind
def o7(H:Hp)(qs:@D)(v:.kZ):.n:=.d6=.d2/\∀(i:Nat)(q:U)(c:.eE),qs[i]? =O q->v[i]? =O c->.uz
theorem o7.same(h:.dY v)(k:.Fb):o7 L qs v:=.Fc
theorem o7.snoc(h:.dY v)(e:.uz):o7 H (qs++[q]) (v++[c]):=by
 refine#[by simp[h.1],λi p y a b=>?_];have D:=h.1;by_cases t:i<.d6;.rw[Aj t]at a;rw[Aj (.my D t)]at b;exact h.2 i p y a b
 grind
theorem W2:∀{l m:@D},@M .bZ=m.map .bZ->l=m
 |[],[],_=>y|[],_::_,h=>.b4|_::_,[],h=>.b4|a::l,b::m,h=>by rw[j6,j6]at h;let#[D,M]:=K2 h;rw[V.ref.inj D,W2 M]
structure qA(Cr Ce:U)(H:Hp)(R:kG)(X:j4)(n:Nat)(a:Mx.Acc)(lv:Nat):Prop where
 rd:nW Cr H R n
 ex:wV Ce H X a.parts lv a.own
 oc:∃qs,H X.ol=O (.lst (qs.map V.ref))/\o7 H qs a.occs
 ne:X.ol≠R.l
 rx:R.r≠X.x
 ok:∀x∈R.ts,Mx.lJ x
def jY(R:kG)(X:j4)(H L:Hp):.n:=∀b o,.cn->b≠R.r->b≠X.x->b≠X.ol->.e6
theorem jY.refl(R:kG)(X:j4)(H:Hp):.cw H:=λ_ _ h _ _ _=>h
theorem jY.trans{X:j4}(a:.cw B)(b:jY R X B I):.cw I:=λc o h T p r=>b c o (a c o h T p r) T p r
theorem jY.next(R:kG)(X:j4)(x:U)(n:Nat)(H:Hp):.cw .iU:=λb o h T _ _=>.zi
theorem jY.put(R:kG)(X:j4)(l:U)(p lv:Nat)(b:.ab)(H:Hp):.cw .ux:=λc o h _ a _=>.Fo
theorem qA.go{X:j4}(B:.qM)(f:n<.m9):qA x l .iU R X .b5 a lv:=by
 let#[qs,D,M]:=B.oc;have s:∀{b:U}{o:HO},.cn->(∀C c w,o≠.aF c w)->.fW b=O o:=λ{b o}q z=>.op (mI q B.rd.ins (z _ _ _)) q
 refine#[B.rd.go f,?_,#[qs,.h,M.same .q],B.ne,B.rx,B.ok];show .fW X.x=_;unfold kG.next;rw[.j5 B.rx];exact B.ex
theorem qA.put{X:j4}(B:.qM)(p L:Nat)(b:.ab):qA x l (X.put l p L b H) R X n #[p,a.occs,b] L:=by
 let#[qs,D,M]:=B.oc;have f:∀{c:U}{o:HO},H c=O o->c≠X.x->X.put l p L b H c=O o:=λ{c o}q z=>.Fo
 have I:∀{c:U}{o:HO},H c=O o->(∀C g w,o≠.aF g w)->c≠X.x:=λ{c o}q z=>mI q B.ex (z _ _ _);refine#[B.rd.keeps λc o q h=>?_,iG,#[qs,.h,M.same .q],B.ne,B.rx,B.ok];rcases h with rfl|rfl|⟨xs,rfl⟩;.exact f q B.rx
 .exact f q (I q (by rw[B.rd.lst]at q;grind))
 grind
theorem qA.same{X:j4}(B:qA Cr l H R X n a lv)(s:.I):qA Cr l L R X n a lv:=by let#[qs,D,M]:=B.oc;exact#[B.rd.keeps λb o q _=>.ae q,.ae B.ex,#[qs,.ff,M.same λp xs q=>.ae q],B.ne,B.rx,B.ok]
theorem qA.occ{X:j4}(B:.qM)(g:.uz)(L:H X.ol=.hz):qA x l .Fp R X n .Fq lv:=by
 let#[Q,D,M]:=B.oc;have e:Q=qs:=by grind[W2]
 subst e;have no:∀{b:U}{o:HO},.cn->(∀xs,o≠@E xs)->@z X.ol (@E (Q.map .bZ++[@h q])) b=O o:=.Z
 refine#[B.rd.keeps λb o z f=>?_,no B.ex @I,#[Q++[q],.kY,(M.snoc g).same .q],B.ne,B.rx,B.ok];rcases f with rfl|rfl|⟨xs,rfl⟩;.exact no z (by rw[B.rd.ins]at z;grind)
 .rw[.j5 B.ne];exact z
 grind
theorem jY.occ{X:j4}:.cw (@z X.ol o):=λb u h _ _ r=>.ma r h
theorem jY.same{X:j4}(s:.I):.hA:=λb o h _ _ _=>.ae h
def vC(a:Mx.Acc)(ts:.aj):.E Mx.R:=match ts with
 |[]=>e'|t::r=>if jP 46 r then(match .fM with
   |[]=>e'|u::s=>if u.small then O (.Fr,s)else e')else O (a,r)
structure Ms(P:kS)(w:jR)(K:jd)(mg:iA->Option iB)(base:jo)(C Cr Ce:U):Prop where
 R:Bz K mg Cr
 X:BM K mg Ce
 err:qy mg base C
 kind:∃f fd,iN P w K mg base (iP P w C) 1 f fd ["self"] (HL Cr)/\Binds K fd ["self"] []/\Meth K Cr "kind" f
 take:∃f fd,iN P w K mg base (iP P w C) 1 f fd ["self","kind"] (HK C Cr)/\Binds K fd ["self","kind"] []/\Meth K Cr "take" f
 skip:∃f fd,iN P w K mg base (iP P w C) 2 f fd ["self","kind"] (WN Cr)/\Binds K fd ["self","kind"] []/\Meth K Cr "skip" f
 count:∃f fd,iN P w K mg base (iP P w C) 1 f fd ["self"] (Vn C Ce)/\Binds K fd ["self"] []/\Meth K Ce "count_part" f
 enter:∃f fd,iN P w K mg base (iP P w C) 1 f fd ["self"] (Vm C Ce)/\Binds K fd ["self"] []/\Meth K Ce "enter" f
 leave:∃f fd,iN P w K mg base (iP P w C) 1 f fd ["self","levels"] (Vl Ce)/\Binds K fd ["self","levels"] []/\Meth K Ce "leave" f
theorem aab:(mF ".").cps.toList=[46]:=.Q
abbrev GC:i5:=top 80
theorem SO:jb ["reader","expression","number"] .aF (i4 GC):=.J
theorem Md(ok:.d7)(hk:.qO=[b])(l:b≠37):.zk:=by
 cases us with
 |nil=>rw[uf,hk];show .qL=[b]↔ij=f';grind[wJ,E0]|cons x r=>rw[uf,hk];exact agu (ok x jO) l
theorem ad1(ok:.d7):.bt="small"↔∃x r,us=x::r/\x.small=f':=by
 cases us with
 |nil=>
  rw[uf];show .qL=.Fm↔_;rw[wJ,Pz];ext n;.intro q;exact .Z q .E
  simp|cons x r=>
  rw[uf,Pz];show .eD=El↔_;rw[.uA];ext n
  .ext aI;ext O
   .ext a7
    ext ax
    .omega
    .omega
   ext O
   ext O
   grind
  grind
def IU(x:U)(i:Nat):TE:=λσ H Q=>∃(R:kG)(n:Nat),.dj/\.eB/\Q (@I .hv) H
def qN(C x:U)(E:XK)(k:iA)(R:kG)(n:Nat)(H:Hp)(Q:VK):.n:=.Fg
def Bq(C x:U)(E:XK)(i:Nat)(k:iA):TE:=λσ H Q=>∃(R:kG)(n:Nat),.dj/\.eB/\.uB
def Bp(C x:U)(E:XK)(i j:Nat):TE:=λσ H Q=>∃(R:kG)(n:Nat)(k:iA),.dj/\.zl/\.eB/\.uB
def Qz(x:U)(k:iA)(R:kG)(n:Nat)(H:Hp)(Q:VK):.n:=.Fh
def IT(x:U)(i:Nat)(k:iA):TE:=λσ H Q=>∃(R:kG)(n:Nat),.dj/\.eB/\.fQ/\Qz x k R n H Q
def Im(C l:U)(E:XK)(i:Nat):TE:=λσ H Q=>∃(X:j4)(p lv:Nat)(b:Bool),.iY/\.Fk
def Yc(C l:U)(E:XK)(i:Nat):TE:=λσ H Q=>∃(X:j4)(p lv:Nat)(b:Bool),.iY/\.Fl
def Ox(l:U)(i:Nat):TE:=λσ H Q=>∃(X:j4)(p lv:Nat)(b:Bool),.iY/\.e9 (lv+1) b/\.aV .ux
def Yb(l:U)(i j:Nat):TE:=λσ H Q=>∃(X:j4)(p lv k:Nat)(b:Bool),.iY/\σ[j]? =O (.jh k)/\.e9 (lv+k) b/\.aV .ux
theorem um(M:.k0)(c:.jJ 1)(k:.hB)
  (v:.nn (.aS "kind" t) T=(do
   let L<-eval o X.env
   standAt t.atName
   let(f,first)<-holding [L] (getMethod L "kind" u)
   callWith T f first (backTo T (starEach [] X.env)) (backToKw T (keywordEach [] X.env))):=by rfl):.H (.an (.aS "kind" t) [] [] T) (IU x i):=by let#[f,a,G,b,m]:=M.kind;ext q;let#[R,n,D,g,r]:=h;exact HU k M.R.cl m G c b .nil wx v @t s σ H Q I #[_,D,R.r,R.dx,_,y,g.ins,.Q,R,n,y,g,r]
theorem nM{g}(M:.k0)(c:.jJ 1)(ok:.g9)(w:.hB)(B:.fL:=by rfl)
  (v:.av (.eu .zm [] T) .M=(do
   let L<-eval o X.env
   standAt t.atName
   let(f,first)<-holding [L] (getMethod L "take" u)
   callWith T f first (backTo T (starEach [.Constant (.str k) g p] X.env)) (backToKw T (keywordEach [] X.env))):=by rfl):.H (.eu .zm [] T) (Bq C x E i k):=by let#[f,a,G,b,m]:=M.take;ext q;let#[R,n,D,q,r]:=h;exact .gK (vr ok B) .k1 y .z v @t s σ H Q I #[_,D,R.r,R.dx,_,y,q.ins,.Q,R,n,k,y,q,r]
theorem O8(M:.gL q l)(c:.jJ 1)(ok:.g9)(w:.hB)(a:.nj B j)(g:.fL:=by rfl)
  (v:.av (.eu [.bq B] [] T) .M=(do
   let L<-eval o X.env
   standAt t.atName
   let(f,first)<-holding [L] (getMethod L "take" u)
   callWith T f first (backTo T (starEach [.Name x B] X.env)) (backToKw T (keywordEach [] X.env))):=by rfl):.H (.eu [.bq B] [] T) (Bp C q E i j):=by let#[f,J,G,b,m]:=M.take;ext q;let#[R,n,k,D,hk,p,r]:=h;exact .gK (vr ok g) (Y a iw) y .z v @t s σ H Q I #[_,D,R.r,R.dx,_,y,p.ins,.Q,_,hk,R,n,k,y,p,r]
theorem r8{g}(M:.k0)(c:.jJ 2)(w:.hB)
  (v:.av .Fs .M=(do
   let L<-eval o X.env
   standAt t.atName
   let(f,first)<-holding [L] (getMethod L "skip" u)
   callWith T f first (backTo T (starEach [.Constant (.str k) g p] X.env)) (backToKw T (keywordEach [] X.env))):=by rfl):.H .Fs (IT x i k):=by let#[f,a,G,b,m]:=M.skip;ext q;let#[R,n,D,q,B,r]:=h;exact .gK wx .k1 y .z v @t s σ H Q I #[_,D,R.r,R.dx,_,y,q.ins,.Q,R,n,k,y,q,B,r]
theorem ID(M:.k0)(c:.jJ 1)(ok:.g9)(k:.hB)(g:.fL:=by rfl)
  (v:.nn (.aS "count_part" t) T=(do
   let L<-eval o X.env
   standAt t.atName
   let(f,first)<-holding [L] (getMethod L "count_part" u)
   callWith T f first (backTo T (starEach [] X.env)) (backToKw T (keywordEach [] X.env))):=by rfl):.H (.an (.aS "count_part" t) [] [] T) (Im C l E i):=.lu M.count
theorem IC(M:.k0)(c:.jJ 1)(ok:.g9)(k:.hB)(g:.fL:=by rfl)
  (v:.nn (.aS "enter" t) T=(do
   let L<-eval o X.env
   standAt t.atName
   let(f,first)<-holding [L] (getMethod L "enter" u)
   callWith T f first (backTo T (starEach [] X.env)) (backToKw T (keywordEach [] X.env))):=by rfl):.H (.an (.aS "enter" t) [] [] T) (Yc C l E i):=.lu M.enter
theorem O9{g}(M:.k0)(c:.jJ 1)(k:.hB)
  (v:.av .Ft .M=(do
   let L<-eval o X.env
   standAt t.atName
   let(f,first)<-holding [L] (getMethod L "leave" u)
   callWith T f first (backTo T (starEach [.Constant (.int 1) g B] X.env)) (backToKw T (keywordEach [] X.env))):=by rfl):.H .Ft (Ox l i):=by let#[f,a,G,w,m]:=M.leave;ext q;let#[q,p,lv,b,D,J,r]:=h;exact zA k M.X.cl m G c w .nil wx .iZ y .z v @t s σ H Q I #[_,D,q.x,q.dx,_,y,J,.Q,q,p,lv,1,b,y,J,r]
theorem ain(M:.gL u l)(c:.jJ 1)(a:.hB)(r:.nj B j)
  (v:.av (.gM [.bq B] [] T) .M=(do
   let L<-eval o X.env
   standAt t.atName
   let(f,first)<-holding [L] (getMethod L "leave" A)
   callWith T f first (backTo T (starEach [.Name x B] X.env)) (backToKw T (keywordEach [] X.env))):=by rfl):.H (.gM [.bq B] [] T) (Yb l i j):=by let#[f,U,G,w,m]:=M.leave;ext q;let#[q,p,lv,k,b,D,hk,g,J]:=h;exact zA a M.X.cl m G c w .nil wx (Y r iw) y .z v @t s σ H Q I #[_,D,q.x,q.dx,_,y,g,.Q,_,hk,q,p,lv,k,b,y,g,J]
structure At(Cr Ce:U)(H:Hp)(R:kG)(X:j4)(a:Mx.Acc)(lv:Nat)(us:List jH)(s:Nat):Prop where
 at_:∃n,qA Cr Ce H R X n a lv/\R.ts.drop n=us
 uI:a.occs.length+us.length+s<=4000
def km(C x l:U)(R:kG)(X:j4)(lv:Nat)(H:Hp)(g:.E Mx.R)(Q:VK)(E:XK):.n:=match g with
 |e'=>.uC|O q=>∀L,.cS q.1 lv q.2 0->.uD
theorem At.zero{X:j4}(B:.eF):.fa 0:=#[B.at_,.j7 B.uI]
theorem At.ok{X:j4}(B:At c l H R X a lv us s):.d7:=by let#[n,B,e]:=B.at_;intro x v;rw[<-e]at v;exact B.ok x (abl v)
theorem Gh(h:¬.bt="end"):us≠[]:=λq=>h (.jP q)
theorem At.next{X:j4}(B:.eF)(m:.qM)(e:.fe=us)(h:us≠[]):At x l .iU R X a lv .cI (s+1):=by
 have f:n<.m9:=by grind[Ak]
 refine .jO #[n+1,m.go f,by rw[<-e,Az]];have:=B.uI;grind
theorem At.kind{X:j4}(B:.eF)(t:.dj)(q:Q .ni H):IU x i σ H Q:=by obtain⟨n,m,rfl⟩:=B.at_;exact#[R,n,t,m.rd,q]
theorem At.skip{X:j4}{s:Nat}{k:iA}{p:.ab}(B:.eF)(t:.dj)(T:.fQ)(hk:.hC)(D:p=f'->∀L,.cS a lv .cI (s+1)->.hA->.eN L)(M:p=ij->.eg H):.zn:=by
 ext ai;refine#[R,n,t,m.rd,T,?_];unfold Qz;rw[e];refine .k2;.exact .Fu
 grind
theorem At.qN{X:j4}{s:Nat}{k:iA}{p:.ab}(B:.eF)(m:.qM)(e:.fe=us)(T:.fQ)(hk:.hC)(D:p=f'->.uE)(M:.nj):.uB:=by
 unfold Tm.qN;rw[e];refine .k2;.rw[il T];exact .Fu
 grind
theorem At.take{X:j4}{s:Nat}{k:iA}{p:.ab}(B:.eF)(t:.dj)(T:.fQ)(hk:.hC)(D:p=f'->.uE)(M:.nj):Bq C x E i k σ H Q:=by ext a8;exact#[R,n,t,m.rd,.uF]
theorem At.Jp{X:j4}{s:Nat}{k:iA}{p:.ab}(B:.eF)(t:.dj)(c:.zl)(T:.fQ)(hk:.hC)(D:p=f'->.uE)(M:.nj):Bp C x E i j σ H Q:=by ext a8;exact#[R,n,k,t,c,m.rd,.uF]
theorem At.put{X:j4}(B:.eF)(p L:Nat)(b:.ab):At x l (X.put l p L b H) R X #[p,a.occs,b] L us s:=by ext ai;exact#[#[n,m.put p L b,e],B.uI]
theorem At.ex{X:j4}(B:.eF):wV l H X .ce lv a.own:=by ext ai;exact m.ex
theorem At.count{X:j4}(B:.eF)(t:.iY)(D:a.one=e'->.uC)(M:∀v,a.one=O v->∀L,.cS v lv us s->.uD):Im C l E i σ H Q:=by
 refine#[X,_,_,_,t,B.ex,.k2];.grind[Mx.Acc.one,jY.put]
 .exact M _ (by grind[Mx.Acc.one]) _ .uG .qP
theorem At.enter{X:j4}(B:.eF)(t:.iY)(D:¬lv<30->.uC)(M:lv<30->∀L,.cS a (lv+1) us s->.uD):Yc C l E i σ H Q:=by
 refine#[X,_,_,_,t,B.ex,.k2];.grind[jY.put]
 .exact M @h _ .uG .qP
theorem At.leave{X:j4}(B:At x l H R X a (lv+1) us s)(t:.iY)(h:.Fv):Ox l i σ H Q:=#[X,_,_,_,t,B.ex,h _ .uG .qP]
theorem At.akp{X:j4}(B:At x l H R X a (lv+m) us s)(t:.iY)(c:σ[j]? =O (.jh m))(h:.Fv):Yb l i j σ H Q:=#[X,_,_,m,_,t,c,B.ex,h _ .uG .qP]
theorem At.sign{X:j4}(B:At x c H R X a lv us s)(hk:.qO=[b])(l:b≠37):.zk:=Md B.ok hk l
theorem Mc(ok:.d7)(hk:.qO=w)(p:w=AL\/w=xA\/w=uQ):.bt=k↔aca w us=f':=by
 rw[uf,hk];cases us with
 |nil=>show .qL=w↔ij=f';rw[wJ];rcases p with rfl|rfl|rfl<;>exact#[λq=>.Z q .E,λq=>.jr q]|cons x r=>
  show .eD=w↔(x.kind==3&&x.text==w)=f';rw[zc (ok x jO) .Fw,qr,beq_iff_eq,beq_iff_eq];ext n
  .ext aI;.exact .uJ
   .exact q
   .exact .uJ
   .exact .uJ
   .exact .uJ
  grind
theorem xD(ok:.d7):.uK↔(.dE λx=>x.kind==1)=f':=by
 rw[uf,XX];cases us with
 |nil=>ext bE|cons x r=>
  show .eD=_↔(x.kind==1)=f';rw[.uA,beq_iff_eq];ext n
  .ext aI;ext O
   .ext a7
    ext ax
    .omega
    .omega
   .exact q.2
   ext O
   ext O
  grind
theorem AD(ok:.d7):.bt="small"↔(.dE λx=>x.small)=f':=by
 rw[ad1 ok];cases us with
 |nil=>simp|cons x r=>simp
theorem At.occ{X:j4}(B:.fa (s+1))(g:.uz)(L:H X.ol=.hz):At x l .Fp R X .Fq lv us s:=by ext ai;refine .jO #[n,m.occ g L,e];have:=B.uI;grind
theorem At.same{X:j4}(B:At Cr l H R X a lv us s)(c:.I):At Cr l L R X a lv us s:=by ext ai;exact#[#[n,m.same c,e],B.uI]
theorem At.list{X:j4}(B:.eF):∃qs:@D,H X.ol=.hz/\.d6+.cQ+s<=4000:=by ext ai;let#[qs,D,M]:=m.oc;have:=M.1;exact#[qs,D,by rw[this];exact B.uI]
theorem ta(h:(.dE f)=f'):∃u s,us=u::s/\f u=f':=by
 cases us with
 |nil=>cases h|cons x r=>grind
theorem AG(h:u.small=f'):mJ (u::s)=.jj u.text:=by have hk:=Mx.xH h;show rY u=_;grind[rY]
theorem FW(h:u.kind=1):mJ (u::s)=.h (uR u.text):=by show rY u=_;grind[rY]
def WO(C x l:U):Sp:=λg H Q E=>∃(R:kG)(X:j4)(a:Mx.Acc)(lv:Nat)(t:jH)(r:.aj),g=[.hw,.nf]/\At x l H R X a lv .aC 0/\.e9/\.ar (vC a .aC) Q E
theorem af7(F:.D "read_number" GC f fd)(M:.b0 base C Cr Ce):.dZ 3 f fd .aF (WO C Cr Ce):=by
 refine .t SO λab A ac s H vs Q E l h=>?_;obtain⟨R,X,a,lv,t,r,rfl,B,hk,k⟩:=h;have p:.b8:=l.mono .E;refine .md (.ag SO.nd y @q (.mH M p)) (iE (jh (.m6 M l) (.jx (.ch .i0 (Y (l7 (Y .ad (Y (.mH M p) iw))) iw))) jn));refine B.take y .E (xD B.ok) (λhp H1 m c=>?_) .nk
 .refine m.skip y .E (m.sign aab .E) (λhd H2 U x=>?_) (λhd=>?_)
  .refine .gj;let#[ae,aa,_]:=U.list;refine .rz Ce M.X.cl M.X.nO aa;refine U.take y .E (AD U.ok) (λD g I u3=>?_) (λD=>?_)
   .let#[u,v,e2,hu]:=ta D;have e:vC a .aC=O (.Fr,v):=by grind[vC]
    rw[e]at k;have e3:(((.aC).drop 1).drop 1).drop 1=v:=.h
    rw[e3]at I;refine#[.fd,λq hq=>?_];have L:iu g (upd g q .Fx):=@t hq;have T:=I.same L;let#[qs,hl,hn]:=T.list;refine .Fy;.grind[sizeLine]
    .have h5:upd g q .Fx q=O (@L [.h (uR .ax),.jj u.text]):=by grind[iG,FW,AG]
     have B5:=T.occ (c:=(uR .ax,u.text)) h5 hl;exact k _ B5.zero (((.pb c.trans x u3).trans (jY.same L)).trans jY.occ)
   .have e:vC a .aC=e':=by grind[vC]
    rw[e]at k;exact k _ (.dF x)
  .ext al;have e:vC a .aC=O (a,r):=by grind[vC]
   rw[e]at k;exact k _ m.zero c
 grind
end Tm
set_option hygiene false
local macro_rules|`(tactic|walk_at"hn")=>`(tactic|try dsimp only[tS,zS,tC,qR,BA,EG,Eo,tB,nj,Z8,EF,Ep])
namespace Tm
open PySem PySem.Spec PyProof.Rows L2
def EB(C x l:U)(R:kG)(X:j4)(lv:Nat)(H:Hp)(g:.E (Nat×Mx.R))(Q:VK)(E:XK):.n:=match g with
 |e'=>.uC|O q=>∀L,.cS q.2.1 lv q.2.2 0->.hA->Q (.h q.1) L
def uv(lv c:Nat)(a:Mx.Acc)(us:.aj):.E (Nat×Mx.R):=if lv<30 then Mx.uw (.i1).2 c a us else e'
def EK(C x l:U)(j:Nat)(F:Nat->Mx.Rd):Sp:=λg H Q E=>∃(R:kG)(X:j4)(a:Mx.Acc)(lv:Nat)(us:.aj),g=[.hw,.nf]/\.fa 0/\lv<=30/\31<=lv+j/\.ar (F lv a us) Q E
def PK(C x l:U)(j:Nat):Sp:=λg H Q E=>∃(R:kG)(X:j4)(a:Mx.Acc)(lv:Nat)(us:.aj)(k:iA)(c:Nat),g=[.hw,.nf,@I k]/\.qO=[c]/\c≠37/\.fa 0/\lv<=30/\31<=lv+.bK/\.gN (uv lv c a us) Q E
abbrev zu(C x l:U)(j:Nat):Sp:=.fb λlv=>(.uL).2
abbrev HI(C x l:U)(j:Nat):Sp:=.fb λlv=>.nn
abbrev ZC(C x l:U)(j:Nat):Sp:=.fb λlv=>Mx.uu (.q (lv<30)) (.i1).2
abbrev WR(C x l:U)(j:Nat):Sp:=.fb λlv=>Mx.zD .nn
def yg(lv:Nat)(a:Mx.Acc)(us:.aj):.E Mx.R:=match us with
 |[]=>e'|t::r=>if t.small then if jP 40 r then .Fz else .yK else e'
abbrev Zu(C x l:U)(j:Nat):Sp:=.fb λlv=>yg lv
theorem VP(k:Nat)(h:k<=31):Mx.mE (Mx.jC k).2:=by
 cases k with
 |zero=>intro a ts b us h;cases h|succ m=>rw[(.FA).2];exact Mx.TJ _ _
theorem ae2(k:Nat)(h:k<=31):Mx.mE (Mx.jC k).1:=by
 cases k with
 |zero=>intro a ts b us h;cases h|succ m=>rw[(.FA).1];grind[Mx.Wf,Mx.S4]
theorem km.from{X:j4}(k:.ar g Q E)(u:.cw a):km C x l R X lv a g Q E:=by
 cases g with
 |none=>exact λL v=>k L (u.trans v)|some q=>exact λL B v=>k L B (u.trans v)
theorem km.eq{X:j4}(e:g=yq)(k:.ar yq Q E):.ar g Q E:=.h
abbrev Df:i5:=top 76
abbrev GD:i5:=top 77
abbrev GB:i5:=top 78
abbrev Hw:i5:=top 79
abbrev Hv:i5:=top 81
abbrev Hx:i5:=top 82
abbrev Nf:i5:=top 75
theorem GW:jb ["reader","expression","closing","arguments"] .qQ (i4 Hx):=.J
theorem ajn(F:.D "read_arguments" Hx f fd)(M:.b0 ag C x l)(G:.L ag C "read_whole" m .aF .uM fw ak)(hm:2<=m):@H ag .de .eG f fd .qQ (PK C x l j):=by
 refine .t GW .FB;obtain⟨R,X,a,lv,us,r,c,rfl,aa,ae,B,an,hj,k⟩:=h;have ab:.b8:=.aO;have aj:¬r="end":=λq=>by rw[q,wJ]at aa;exact .Z (.aA yY aa) (by simp[E0])
 refine#[_,iy (.aL GW.nd y @q iY) (iy (jf (IC M ab iI @M)) (iy (jh (.bN (um M ab .ae) .ad .aw) (iy .uN (iy (.aL GW.nd y @q iY) (iE (.bv (kW (r8 M .aO .ae)) (iy .uN (iE (xZ (i:=3) GW.nd y @q iY zK))))))) jn) (iy (jf (O8 M ab iI .ae .ad)) (.mU (O9 M ab @M) (iR .ak))))),?_];ext z;refine B.enter y (λhl H1 u1=>?_) (λhl H1 B1 u1=>?_);.unfold uv at k;rw[il hl]at k;exact k H1 u1
 have ek:uv lv c a us=Mx.uw (.i1).2 c a us:=by unfold uv;rw[ip hl]
 rw[ek]at k;have fw:=VP (30-lv) @h;generalize ah:(.i1).2=g at k fw;have ai:31-(lv+1)=30-lv:=.t
 have fin:∀(n:Nat)(U:Mx.Acc)(p:.aj)(L:Hp),.cS U (lv+1) p 0->.hA->.gN ((.aq c p).bind λvs=>O (n,U,vs)) Q E->Bp C x E 0 2 .qR L λ_ I=>Ox l 1 .qR I λ_ H3=>∃v,(.qR:L2.St)[3]? =.jI v/\Q v H3:=λn U p L u T D=>by
  refine u.Jp y y aj (u.sign aa ae) (λt I B2 u2=>?_) (λt=>?_);.refine B2.leave y λH3 B3 u3=>.cL;unfold Mx.jk at D;rw[ip t]at D;exact D H3 B3.zero (.pb T.trans u2 u3)
  .unfold Mx.jk at D;rw[.jw t]at D;exact D L T
 refine B1.kind y .cA;by_cases ac:jP c us=f';.have e1:.bt=r:=(B1.sign aa ae).mpr ac;rw[iq (show .aa .bt=.aa r by rw[e1])];ext L;refine fin 0 a us H1 B1 u1 ?_;unfold Mx.uw at k;rw[ip ac]at k;exact k
 .have e1:¬.bt=r:=λq=>ac ((B1.sign aa ae).mp q);rw[ir (show¬.aa .bt=.aa r from λq=>e1 .na)];ext aa;unfold Mx.uw at k;rw[il ac]at k;refine#[_,y,_,y,R,X,a,lv+1,us,y,B1,.t,.t,?_];refine km.eq (yq:=g a us) (by show .gO a us=g a us;rw[ai,ah]) ?_;cases hq:g a us with
  |none=>ext aj;exact λL v=>k L (u1.trans v)|some q=>
   ext aj;refine λI B2 u2=>?_;refine#[λmm σ L=>∃(n:Nat)(U:Mx.Acc)(p:.aj),σ=.qR/\mm=.dk/\.cS U (lv+1) p 0/\.hA/\.FC,#[_,1,q.1,q.2,y,y,B2,u1.trans u2,k],?_];rintro mm σ L⟨n,U,p,rfl,rfl,u,T,D⟩;refine u.skip y .E (u.sign (b:=44) .iu .E) (λt H3 B3 u3=>?_) (λt=>?_)
   .refine .gj;refine#[λσ' I=>∃m',m'<.dk/\∃(n:Nat)(U:Mx.Acc)(p:.aj),σ'=.qR/\m'=.dk/\At x l I R X U (lv+1) p 0/\.cw I/\.FC,.kX,?_];refine#[_,y,_,y,R,X,U,lv+1,.d8,y,B3.zero,.t,.t,?_];refine km.eq (yq:=g U .d8) (by show .gO U .d8=g U .d8;rw[ai,ah]) ?_;have es:Mx.oQ g (.dk+1) n U p=(g U .d8).bind λq=>Mx.oQ g .dk .b5 q.1 q.2:=by show(.nu 44 p)=_;rw[ip t]
    rw[es]at D;cases af:g U .d8 with
    |none=>rw[af]at D;exact λH4 v=>D H4 (.pb T.trans u3 v)|some q2=>rw[af]at D;refine λH4 B4 u4=>?_;have ao:=.ms fw af;have ap:=Mx.qF t;have D:.gN ((Mx.oQ g .dk .b5 q2.1 q2.2).bind λq=>(.aq c q.2.2).bind .yJ) Q E:=D;rw[Mx.TQ fw (g:=q2.2.length+1) @h @h]at D;exact#[_,y,_,_,y,y,q2.2.length,.t,n+1,q2.1,q2.2,y,y,B4,.pb T.trans u3 u4,D]
   .ext al;have es:Mx.oQ g (.dk+1) n U p=O (n,U,p):=by show(.nu 44 p)=_;rw[.jw t]
    rw[es]at D;exact fin n U p L u T D
theorem tf:txt a=txt b↔a=b:=by grind[txt]
def Em:.aI:=acX.map λc=>((kR (txt c.1):Key),@Z (c.2.2:Nat))
theorem Ow(g:α->@n)(f:α->V)(b:@n):∀l:.aA,jN (@M λc=>((.jR (g c):Key),f c)) (.jR b)=(l.find? λc=>g c==b).map f
 |[]=>y|c::l=>by
  rw[j6,FG];by_cases h:g c=b;.grind[qJ]
  .rw[rW (λq=>h .uO),Ow g f b l,.fy h]
theorem aiA(b:@n):jN Em (.jR b)=(Mx.arity b).map λn=>@Z .hD:=by unfold Em Mx.arity Vaatta.callOf;rw[Ow (λc:List Nat×Vaatta.Op×Nat=>c.1) (λc=>@Z (c.2.2:Nat)) b acX,Ax,Ax];rfl
theorem Ur:jb ["reader","expression","name"] .aF (i4 Hv):=.J
theorem aja(F:.D "read_name" Hv f fd)(M:.b0 aa C x l)(G:.bx C "read_arguments" m .qQ (PK C x l j) fw ae)(hm:2<=m)(hA:.zo=.ja d)(D:.cP d Em):@H aa .de .eG f fd .aF (Zu C x l .bK):=by
 refine .t Ur .FD;obtain⟨R,X,a,lv,us,rfl,B,ab,hj,k⟩:=h;have k:.ar (yg lv a us) Q E:=k;refine#[_,iy (.ag Ur.nd y @q (nM M .i2 iI .ae)) (iE (jh (vi (kW (r8 M .i2 .ae))) (.jx (.ch .i0 (Y (l7 (Y iY .iP)) iw))) (iE (jh (.bN (iS G I iI (.ke .k1)) (ahs D (.ml d hA) .ad .k4) .aw) .uP jn)))),?_];refine .gQ (λhp L U c=>?_) .nk
 .obtain⟨t,r,rfl,ht⟩:=ta hp;have ev:=AG (s:=r) ht;refine U.skip y .E (U.sign (b:=40) .z .E) (λhd H2 B2 p=>?_) (λhd=>?_)
  .ext al;refine#[_,y,_,y,R,X,a,lv,.fM,_,41,y,.Q,.b0,B2.zero,ab,hj,?_];have e:yg lv a .aC=.Fz:=.FE
   rw[e]at k;cases u:uv lv 41 a .fM with
   |none=>rw[u]at k;exact λH' v=>k H' (.pb c.trans p v)|some q=>
    rw[u]at k;refine λT B3 u3=>#[y,_,y,y,kR .kU,ev,?_];rw[aiA];have k:.ar .FF Q E:=k;cases ha:Mx.arity .ax with
    |none=>rw[ha,il @I]at k;refine#[y,_,y,iQ ?_];exact k T .zp|some n=>
     rw[ha]at k;refine .np;show if(! .q (@Z (q.1:Nat)=@Z .hD))=f' then _ else _;by_cases g:q.1=n;.rw[ip (.j3 g)]at k;subst g;rw[iq y];exact iU (k T B3 .zp)
     .rw[il (λz=>g (pD z))]at k;rw[ir (show¬@Z (q.1:Nat)=@Z .hD from λz=>.m7 g z)];exact iQ (k T .zp)
  .refine .gj;have e:yg lv a .aC=.yK:=.FE
   rw[e]at k;let#[ah,ac,_]:=U.list;refine .rz l M.X.cl M.X.nO ac;refine#[.fd,λq u=>?_];have sm:iu L (.aD q (@L [.fg,mJ .aC])):=@t u;have B4:=U.same sm;let#[qs,hl,g]:=B4.list;refine .Fy;.grind[sizeLine]
   .have h5:.aD q (@L [.fg,mJ .aC]) q=O (@L [.fg,.um]):=by rw[iG,ev]
    have B5:=B4.occ (c:=(0,t.text)) h5 hl;exact k _ B5.zero ((.dF (jY.same sm)).trans jY.occ)
 .have e:yg lv a us=e':=by
   cases us with
   |nil=>rfl|cons t r=>show(if .kM then _ else _)=_;grind
  rw[e]at k;exact k H (jY.refl _ _ _)
theorem aen:jb .aF .aF (i4 Hw):=.J
theorem ajm(F:.D "read_atom" Hw f fd)(M:.b0 aa C x l)(Gw:.bx C "read_whole" m .aF .uM fw ah)(Ga:.bx C "read_arguments" .eG .qQ (PK C x l j) fa ai)(Gn:.bx C "read_name" (m+2) .aF (Zu C x l .bK) fn aj)(Gm:.bx C "read_number" 3 .aF (WO C x l) fm ak)(hm:2<=m):@H aa .de (m+3) f fd .aF (ZC C x l .bK):=by
 refine .t aen λal A am s H vs Q E I h=>?_;obtain⟨R,X,a,lv,us,rfl,B,ag,hj,k⟩:=h;have ab:.b8:=.i2;have af:.i3:=.i2;have k:.ar (.fX us) Q E:=k;refine#[_,iy (jh .uQ (.pT (IC M ab iI @M) (jf (iS Gw .i2 iI .hr)) (iy (.mI M ab) (iy (jf (O9 M ab @M)) (iE YC)))) jn) (iy (jf (ID M ab iI @M)) (iE (jh .uQ (.kq (iS Ga .i2 iI (.ke .k1))) (iE (jh .uQ (iE (ll @M vq y)) (iE (jh (.n4 M ab) (.kq (iS Gm .i2 iI .hr)) (.kq (.ra Gn I 0 1))))))))),?_];refine .fY (.mq B.sign 40) (λD H1 p g=>?_) (λD=>?_)
 .refine .gj;obtain⟨t,r,rfl⟩:.zq:=by
   cases us with
   |nil=>cases D|cons t r=>simp
  have D:.jB 40:=D;have e:.fX .aC=if .q (lv<30)=ij then e' else((.i1).2 a r).bind λq=>(.aq 41 q.2).bind .zr:=by show(.km 40)=_;grind
  rw[e]at k;ext z;refine p.enter y (λhl H2 u=>?_) (λhl H2 L u=>?_);.rw[ip (ir hl)]at k;exact k H2 (.bC u)
  rw[il (by rw[iq hl];decide)]at k;refine#[_,y,_,y,R,X,a,lv+1,r,y,L.zero,.t,.t,?_];refine km.eq (yq:=(.i1).2 a r) @I ?_;cases hq:(.i1).2 a r with
  |none=>ext aj;exact .FG|some q=>
   ext aj;have k:.ar ((.aq 41 q.2).bind .zr) Q E:=k;refine λH3 B3 u3=>?_;ext ak;refine B3.take y .E (.mq B3.sign 41) (λD H4 B4 u4=>?_) (λD=>?_);.rw[ip D]at k;refine B4.leave y λH5 B5 u5=>?_;exact k H5 B5.zero ((.rc g.trans u u3 u4).trans u5)
   .rw[.jw D]at k;exact k H3 (.pb g.trans u u3)
 .ext al;have c:∀{us:.aj}{b:Nat},jP b us=ij->∀{t r},us=t::r->¬.jB b:=λh t r e=>by rw[e]at h;rw[show .bW _=ij from h];decide
  ext z;refine B.count y (λh1 H1 g=>?_) (λU h1 H1 p g=>?_)
  .have e:.fX us=e':=by
    cases us with
    |nil=>rfl|cons t r=>show(.km 40)=_;grind
   rw[e]at k;exact k H1 g
  have e:.fX us=(match us with
    |[]=>e'|t::r=>if .bW 91 then .FH else if .bW 35 then .FI else if .e9 then vC U .aC else yg lv U .aC):=by
   cases us with
   |nil=>rfl|cons t r=>show(.km 40)=_;grind[uv,vC,yg]
  rw[e]at k;refine p.skip y .E (.mq p.sign 91) (λT H2 L u=>?_) (λT=>?_)
  .refine .gj;obtain⟨t,r,rfl⟩:.zq:=by
    cases us with
    |nil=>cases T|cons t r=>simp
   have k:.ar (if .jB 91 then .FH else _) Q E:=k;rw[ip (show .jB 91 from T)]at k;refine#[_,y,_,y,R,X,U,lv,r,_,93,y,.Q,.b0,L.zero,ag,hj,?_];cases hq:uv lv 93 U r with
   |none=>ext aj;exact .FG|some q=>ext aj;exact λH3 B3 u3=>k H3 B3 (.pb g.trans u u3)
  ext al;ext z;refine p.skip y .E (.mq p.sign 35) (λac H2 L u=>?_) (λac=>?_)
  .refine .gj;obtain⟨t,r,rfl⟩:.zq:=by
    cases us with
    |nil=>cases ac|cons t r=>simp
   have k:.ar (if .jB 91 then _ else if .jB 35 then .FI else _) Q E:=k;rw[il (c T y),ip (show .jB 35 from ac)]at k;refine#[_,y,X.x,l,X.dx,_,y,L.ex,M.X.cl,M.X.nA,.qJ,?_];exact k _ (L.put U.parts lv f').zero ((.bC u).trans .qP)
  ext al;ext z;refine p.kind y .np;by_cases hk:.uK;.obtain⟨t,r,rfl,ae⟩:=.la p.ok;have ae:.e9:=.ej ae;rw[.lb (kindS .aC)];ext aa;have k:.ar (if .jB 91 then _ else if .jB 35 then _ else if .e9 then vC U .aC else _) Q E:=k;rw[il (c T y),il (c ac y),ip ae]at k;exact#[_,y,_,y,R,X,U,lv,t,r,y,p,ae,k.from g]
  .rw[.zs];refine iU #[_,y,_,y,R,X,U,lv,us,y,p,ag,hj,?_];refine km.from ?_ g;cases us with
   |nil=>exact k|cons t r=>have k:.ar (if .jB 91 then _ else if .jB 35 then _ else if .e9 then _ else yg lv U .aC) Q E:=k;rw[il (c T y),il (c ac y),il (λq=>hk ((xD p.ok).mpr (beq_iff_eq.mpr q)))]at k;exact k
def Zm(C x:U)(E:XK)(i:Nat):TE:=λσ H Q=>∃(R:kG)(n:Nat),.dj/\.eB/\qN C x E .hv R n H Q
theorem ajF(M:.k0)(c:.jJ 1)(ok:.g9)(k:.hB)(a:.ao (IU x i))(g:.fL:=by rfl)(p:.kA=.fE::.gk:=by rfl)
  (q:.bH (e::[]) .M=.fE::.gk:=by rfl)
  (v:.av (.eu [e] [] T) .M=(do
   let L<-eval o X.env
   standAt t.atName
   let(f,first)<-holding [L] (getMethod L "take" u)
   callWith T f first (backTo T (starEach [e] X.env)) (backToKw T (keywordEach [] X.env))):=by rfl):.H (.eu [e] [] T) (Zm C x E i):=by let#[f,B,G,b,m]:=M.take;ext q;let#[R,n,D,w,r]:=h;exact zA k M.R.cl m G c b .nil (vr ok g) (Y a iw q) p .z v @t s σ H Q I #[_,D,R.r,R.dx,_,y,w.ins,.Q,R,n,D,w,R,n,_,y,w,r]
theorem At.akQ{X:j4}(B:.eF)(t:.dj)(T:¬.bt="end")(D:.uE):Zm C x E i σ H Q:=by ext ai;refine#[R,n,t,m.rd,?_];rw[e];exact B.qN (p:=f') m e T @I (λ_=>D) .i4
theorem HZ(I:.g0)(h:.FJ):kE .ni (I.map λx=>.aa x.1)=I.any λx=>jP x.2 us:=by
 unfold kE;rw[Le];induction I with
 |nil=>rfl|cons x r a=>rw[yT,yT,a (λC m=>h C (nD _ m))];congr 1;show(x.1==.bt)=_;grind
theorem agv(ok:.d7):.bt="remainder"↔jP 37 us=f':=by
 rw[uf,QL];cases us with
 |nil=>ext bE|cons x r=>
  show .eD=_↔x.isSign 37=f';rw[.uA];ext n
  .ext aI;.exact q.2
   .ext a7
    ext ax
    .omega
    .omega
   ext O
   ext O
   ext O
  grind
def va:.g0:=[("-",45),("!",33)]
def wz:.g0:=[("|",124),("&",38)]
def uk:.g0:=[("=",61),("<",60)]
def vl:.g0:=[("+",43),("-",45),("*",42),("/",47),("remainder",37)]
def lM(I:.g0):.L:=I.map λx=>.aa x.1
theorem Jx(ok:.d7)(I:.g0)(h:I.all (λx=>x.1.cps.toList==[x.2]&&x.2 !=37||x.1.cps.toList==EZ&&x.2==37)=f'):.FJ:=λx v=>by
 have q:=xp.mp h x v;rw[yO,qr,qr]at q;rcases q with q|q;.grind[Md]
 .have e:x.1="remainder":=uf.mpr (by grind[QL]);grind[agv]
theorem Lm:jb ["reader","expression","signs"] .aF (i4 GB):=.J
theorem afZ(F:.D "read_signed" GB f fd)(M:.b0 aa C c l)(hB:mg "BEFORE_ONE"=.ja tb)(ab:∀H:Hp,.aJ tb (lM va))(G:.bx C "read_atom" m .aF (ZC C c l .bK) fa ai)(hm:2<=m):@H aa .de .eG f fd .aF (HI C c l .bK):=by
 refine .t Lm .zg;obtain⟨R,X,a,lv,us,rfl,B,ac,hj,k⟩:=h;have t:.b8:=.aO;refine#[_,iy (.ag Lm.nd y @q iY) (iy (.bv (ju ua (um M t .ae) (.ml tb hB) .z) (.pT (ajF M t iI .ae (um M t .ae)) (jf (ID M t iI @M)) (.mU (IC M t iI @M) (xZ (i:=2) Lm.nd y @q iY zK)))) (iy .uN (.jx (ain M t @M .ad)))),?_];let W:.cp:=λm σ L=>∃(g:Nat)(U:Mx.Acc)(p:.aj),σ=[.eH,.nq,.jh g]/\m=.dk/\At c l L R X U (lv+g) p 0/\.hA/\lv+g<=30/\.gR ((Mx.jC (31-(lv+g))).1 U p) Q E;refine .jY #[_,0,a,us,y,y,B,jY.refl _ _ _,ac,k];rintro mm σ L⟨g,U,p,rfl,rfl,B',T,hg,D⟩;let#[d,hd]:∃d,30-(lv+g)=d:=.br;have ae:31-(lv+g)=d+1:=.t
 have af:(Mx.jC (31-(lv+g))).1=Mx.E2 .qS (Mx.jC d).1 (Mx.jC d).2:=.jP ae
 rw[af]at D;have D:.gR (if(jP 45 p||jP 33 p)=f' then U.one.bind λa=>if .qS=ij then e' else(Mx.jC d).1 a .d8 else .zu) Q E:=D;have ag:.zv=(jP 45 p||jP 33 p):=by rw[show lM va=va.map λx=>.aa x.1 from y,HZ va (Jx B'.ok va .z)];show(.pX 45 p 33)=_;simp
 ext z;refine B'.kind y #[tb,lM va,y,@n (ab L),y,y,_,y,?_];show if .zv=f' then _ else _;rw[ag];refine lR (λhs=>?_) λhs=>?_
 .rw[ip hs]at D;refine#[λσ' I=>∃m',m'<.dk/\.cT I,.kX,?_];have ah:¬kindS p="end":=λq=>by
   have hk:.zv=f':=.h
   rw[q]at hk;revert hk;decide+kernel
  ext z;refine B'.akQ y ah λH1 B1 u1=>?_;refine B1.count y (λh1 I r=>?_) (λa2 h1 I B2 r=>?_);.rw[h1]at D;exact D I (.pb T.trans u1 r)
  rw[h1]at D;have D:.gR (if .qS=ij then e' else(Mx.jC d).1 a2 .d8) Q E:=D;refine B2.enter y (λhl H3 u=>?_) (λhl H3 B3 u=>?_);.rw[ip (ir @h)]at D;exact D H3 (.rc T.trans u1 r u)
  rw[.FK]at D;refine#[_,y,_,_,y,y,.mf p.drop 1,by grind[Mx.qF],g+1,a2,.d8,y,y,B3.zero,.rc T.trans u1 r u,.t,?_];grind
 .rw[il hs]at D;refine#[_,y,_,y,R,X,U,lv+g,p,y,B',hg,.t,?_];refine km.eq (yq:=.zu) (by grind[decide]) ?_;cases hq:.zu with
  |none=>rw[hq]at D;exact λI v=>D I (T.trans v)|some q=>rw[hq]at D;refine λI B2 r=>?_;exact B2.akp y y λH3 B3 u=>D H3 B3 (.pb T.trans r u)
theorem akc(ok:.d7):kE .ni .uR=.q (Mx.jE us≠0)/\kE .ni (lM uk)=.q (Mx.jE us=3)/\kE .ni (lM vl)=.q (4<=Mx.jE us):=by
 have C:=HZ wz (Jx ok wz .z);have A:=HZ uk (Jx ok uk .z);have g:=HZ vl (Jx ok vl .z);have D:∀(x:V)(l m:.L),kE x (l++m)=(kE x l||kE x m):=by grind[kE]
 rw[D,D];unfold lM;rw[C,A,g];have u:∀{a b:Nat},a≠b->jP a us=f'->jP b us=ij:=by grind[Mx.sign_one]
 show(((.pX 124 us 38)||(.pX 61 us 60))||.FL)=_/\(.pX 61 us 60)=_/\.FL=_;grind[Mx.jE]
theorem aeA(w:Mx.mE v)(h:.av<f)(D:.av<g):Mx.vk v f c a ts=Mx.vk v g c a ts:=by grind[Mx.VJ]
theorem FV:jb ["reader","expression","compared","operator"] .aF (i4 GD):=.J
theorem agc(F:.D "read_choice" GD f fd)(M:.b0 ac C x l)(hJ:mg "JOINING"=.ja tj)(aj:∀H:Hp,.aJ tj (lM wz))(hC:mg "COMPARING"=.ja r)(ab:∀H:Hp,.aJ r (lM uk))(hR:mg "RECKONING"=.ja tr)(ae:∀H:Hp,.aJ tr (lM vl))(G:.L ac C "read_signed" m .aF (HI C x l .bK) fa ap)(hm:2<=m):@H ac .de .eG f fd .aF (WR C x l .bK):=by
 refine .t FV .FM;obtain⟨R,X,a,lv,us,rfl,B,af,hj,k⟩:=h;have aa:.b8:=.aO;have fs:=ae2 (31-lv) @h;have k:.ar (Mx.zD .nn a us) Q E:=k;refine#[_,iy (.ag FV.nd y @q vq) (iy .uN (iE (.bv (ju ua (um M aa .ae) (lu YK (lu YK (.ml tj hJ) (.ml r hC)) (.ml tr hR)) .z) (iy (.aL FV.nd y @q (um M aa .ae)) (iy (jh (.mT (ju ua .ak (.ml r hC) .z) (Bf (kW .ad))) .uP jn) (iy (jh (ju SS .ak (.ml tr hR) .z) (iE (.ag FV.nd y @q (pG ua .ak (.ml r hC) .z))) jn) (.pT (O8 M aa iI .ae .ak) (jf (ID M aa iI @M)) (.jx (iS G hr iI .hr))))))))),?_];generalize ag:.nn=g at k fs;refine#[_,y,_,y,R,X,a,lv,us,y,B,af,hj,km.eq (yq:=g a us) (by rw[<-ag]) ?_];unfold Mx.zD at k;cases ah:g a us with
 |none=>rw[ah]at k;exact k|some q0=>
 rw[ah]at k;refine λH0 B0 u0=>?_;let W:.cp:=λm σ L=>∃(c:Bool)(v:.aV)(a':Mx.Acc)(U:.aj),σ=[.eH,.nq,.j1 c,v]/\m=.k5/\.cS a' lv U 0/\.hA/\.ar (Mx.vk g (.k5+1) c a' U) Q E;refine .jY #[_,ij,e',q0.1,q0.2,y,y,B0,u0,k];rintro mm σ L⟨c,v,a',U,rfl,rfl,B',u',D⟩;let#[i1,i2,i3]:=akc B'.ok;have D:.ar (if .i5=0 then O (a',U)else if .i5=3/\c=f' then e' else a'.one.bind λa=>(g a (U.drop 1)).bind λq=>.zw) Q E:=D;ext z;refine B'.kind y #[tj,r,_,_,y,y,aj L,ab L,.b0,.jA 4,λz=>(.jr z),λ_ p1 ak=>?_];refine#[p1,tr,_,_,y,y,.uS,ae _,.b0,.jA 9,λz=>(.jr z),λ_ p2 al=>?_];have s2:=(@t ak).trans (@t (o:=@L .uR) al);have B2:=B'.same s2;have u2:.cw _:=.dG (jY.same s2);refine#[p2,_,y,@n .uS,y,.Q,_,y,?_];generalize upd (.aD p1 (@L (lM wz++lM uk))) p2 (@L .uR)=I at B2 u2⊢;show if kE .nt .uR=f' then _ else _;rw[i1];refine lR (λt=>?_) λt=>?_
 .have t:.i5≠0:=.kd t;rw[il t]at D;have au:=Mx.AW t;have am:¬kindS U="end":=λq=>by rw[q]at i1;have:.q (.i5≠0)=f':=iq t;rw[<-i1]at this;revert this;decide+kernel
  refine#[.zx,.kX,?_];ext z;refine B2.kind y ?_;refine .oq r ab;show if kE .nt (lM uk)=f' then _ else _;rw[i2];have ai:¬(.i5=3/\c=f')->(tS (EG (Eo (nj (JS K f') .gm (tC (@h tr)))) (zS (nj (JS K ij) .gm (tC .nu)) (qR 2)) Ep) (tS (BA (Bp C x E 0 3)) (tS (BA (Im C l E 1)) (BA .FN))))
    {nx:=.zx,rt:=Q,bk:=λ_ L=>Q V.iM L,ct:=.zx} [.eH,.nq,.j1 c,O .nt] I:=λan=>by
   rw[il an]at D;refine .oq tr ae;show if(!kE .nt (lM vl))=f' then _ else _;rw[i3];have go:∀T:.ab,T=.FO->Bp C x E 0 3 .uU I λ_ H3=>Im C l E 1 .uU H3 λ_ H4=>(.FN) .uU H4 λ_ H5=>∃u,u<.k5/\W u .uU H5:=λT ao=>by
    refine B2.Jp (p:=f') y y am @I (λ_ H3 B3 u3=>?_) .i4;refine B3.count y (λh1 H4 u4=>?_) (λa2 h1 H4 B4 u4=>?_);.rw[h1]at D;exact D H4 (.pb u2.trans u3 u4)
    rw[h1]at D;have D:.ar ((.zy).bind λq=>.zw) Q E:=D;refine#[_,y,_,y,R,X,a2,lv,U.drop 1,y,B4.zero,af,hj,km.eq (yq:=.zy) (by rw[<-ag]) ?_];cases hq:.zy with
    |none=>rw[hq]at D;exact λL z=>D L (.rc u2.trans u3 u4 z)|some q=>rw[hq]at D;have D:.ar .zw Q E:=D;have av:=.ms fs hq;rw[<-ao,aeA fs (g:=.c2+1) @h @h]at D;exact λH5 B5 u5=>#[.c2,.t,T,O .nt,q.1,q.2,y,y,B5,.rc u2.trans u3 u4 u5,D]
   by_cases h4:4<=.i5;.rw[iq h4];ext L;exact go c (by rw[.ev,.ev])
   .rw[ir h4];ext aa;refine#[_,y,r,_,y,@n (ab _),y,.Q,?_];refine go _ ?_;grind
  by_cases h3:.i5=3;.rw[iq h3];refine iQ .qT;cases c with
   |true=>rw[ip #[h3,y]]at D;exact iQ (D I u2)|false=>exact iU (ai λz=>by cases z.2)
  .rw[ir h3];exact iU (iU (ai λz=>h3 z.1))
 .have t:.i5=0:=.h
  rw[ip t]at D;exact D I B2.zero u2
theorem S9:jb .aF .aF (i4 Df):=.J
theorem afT(F:.D "read_whole" Df f p):.aX .eG f p .aF (zu C x l 0):=by refine .t S9 .cK;obtain⟨R,X,a,lv,us,rfl,B,q,r,k⟩:=h;omega
theorem ahu(F:.D "read_whole" Df f fd)(M:.b0 D C x l)(I:.L D C "read_whole" m .aF .uM fw aj)(Gc:.L D C "read_choice" (m+5) .aF (WR C x l .bK) fc ak):@H D .de (m+6) f fd .aF (zu C x l .bK):=by
 refine .t S9 λal A am s H vs Q E g h=>?_;obtain⟨R,X,a,lv,us,rfl,B,ag,hj,k⟩:=h;have t:.b8:=.k6;have T:jy m _:=.k6;let#[d,hd]:∃d,30-lv=d:=.br;have ah:31-lv=d+1:=.t
 have ai:(.uL).2=Mx.JO .qS (Mx.jC d).2 .nn:=.jP ah
 have k:.ar ((.uL).2 a us) Q E:=k;rw[ai]at k;have k:.ar (if aca AL us=f' then .ce λa=>.lv a else Mx.zD .nn a us) Q E:=k;have aa:∀(a:Mx.Acc)(us:.aj),.gO a us=.c9 a us:=.h
 refine#[_,iy (jh (vi (kW (r8 M .k6 .ae))) (iy (jf (iS Gc g iI .hr)) (iE YC)) jn) (.pT (ID M t iI @M) (jf (IC M t iI @M)) (.gT (iy (.mI M t) (.gT (iy (.mI M t) (.gT (.jx (O9 M t @M)))))))),?_];refine .fY (Mc B.ok (w:=AL) .z .cS) (λhp H1 B1 p=>?_) .nk;ext D;.refine .gj;rw[.jw hp]at k;exact#[_,y,_,y,R,X,a,lv,us,y,B,ag,hj,k]
 ext al;rw[ip hp]at k;ext z;refine B1.count y (λh1 H2 c=>?_) (λa2 h1 H2 B2 c=>?_);.rw[h1]at k;exact k H2 (p.trans c)
 rw[h1]at k;have k:.ar (.lv a2) Q E:=k;refine B2.enter y (λhl H3 r=>?_) (λhl H3 B3 r=>?_);.rw[ip (ir @h)]at k;exact k H3 (.pb p.trans c r)
 rw[.FK]at k;refine#[_,y,_,y,R,X,a2,lv+1,us.drop 1,y,B3.zero,.t,.t,.zz];cases hq:.c9 a2 .cI with
 |none=>ext aj;exact λL v=>k L (.rc p.trans c r v)|some q=>
  ext aj;have k:.ar .FP Q E:=k;refine λH4 B4 u4=>?_;have v4:=.rc p.trans c r u4;refine B4.take y .E (Mc B4.ok (w:=xA) .z .iV) (λab H5 B5 u5=>?_) (λab=>?_);ext D;.unfold Mx.lD at k;rw[.jw ab]at k;exact k H4 v4
  unfold Mx.lD at k;rw[ip ab]at k;have k:.ar ((.c9 q.1 .hk).bind λq=>(Mx.lD uQ q.2).bind λu=>.c9 q.1 u) Q E:=k;refine#[_,y,_,y,R,X,q.1,lv+1,.hk,y,B5.zero,.t,.t,.zz];cases ae:.c9 q.1 .hk with
  |none=>rw[ae]at k;exact λL v=>k L (.pb v4.trans u5 v)|some U=>
   rw[ae]at k;have k:.ar ((Mx.lD uQ U.2).bind λu=>.c9 U.1 u) Q E:=k;refine λH6 B6 u6=>?_;have v6:=.pb v4.trans u5 u6;refine B6.take y .E (Mc B6.ok (w:=uQ) .z .qU) (λac H7 B7 u7=>?_) (λac=>?_);ext D;.unfold Mx.lD at k;rw[.jw ac]at k;exact k H6 v6
   unfold Mx.lD at k;rw[ip ac]at k;have k:.ar (.c9 U.1 (U.2.drop 1)) Q E:=k;refine#[_,y,_,y,R,X,U.1,lv+1,U.2.drop 1,y,B7.zero,.t,.t,.zz];cases af:.c9 U.1 (U.2.drop 1)with
   |none=>rw[af]at k;exact λL v=>k L (.pb v6.trans u7 v)|some q3=>rw[af]at k;refine λH8 B8 u8=>?_;exact B8.leave y λH9 B9 u9=>k H9 B9 (.rc v6.trans u7 u8 u9)
def isTup:HO->Bool
 |.tup _=>f'|_=>ij
def jt(H L:Hp):Hp:=λb=>match H b with
 |e'=>L b|O o=>if isTup o then L b else e'
def Ext(H L:Hp):.n:=∀b,(L b=e'->.be)/\∀o,.cn->∀xs,L b=.dz->o=@L xs
theorem lh(h:.be):.nv=L b:=.uV
theorem amo(h:.cn)(k:isTup o=ij):.nv=e':=.uV
theorem nH(H L:Hp):iu .dl L:=λb o e=>by
 unfold jt at e;split at e;.exact e
 .split at e;.exact e
  .cases e
theorem vU(e:.nv=O o):.e6/\(.be\/.zA):=.uV
theorem NR(h:.e6)(M:.be\/.zA):.nv=O o:=.uV
theorem ajt(x:Ext H L)(h:L b=.dz):.nv=.dz:=by
 refine NR h ?_;cases q:H b with
 |none=>simp|some o=>exact @n #[o,y,by rw[(x b).2 o q xs h];rfl]
theorem qG(x:Ext H B):iu (jt B H') (jt H H'):=λb o e=>by
 let#[D,M]:=vU e;refine NR D ?_;rcases M with q|⟨C,q,t⟩;.exact .n ((x b).1 q)
 .cases l:H b with
  |none=>simp|some z=>
   refine @n #[z,y,?_];cases C with
   |tup xs=>rw[(x b).2 z l xs q];rfl|_=>cases t
theorem Ext.refl(H:Hp):Ext H H:=λb=>#[id,λo h xs M=>by rw[h]at M;exact pD M]
theorem Ext.same(s:.I):Ext H L:=λb=>#[λh=>s.free h,λo h xs M=>by rw[.ae h]at M;grind]
theorem qu(T:H L=O C)(v:.kw C):jt H (upd H' L x)=jt H H':=by grind[jt,iC]
theorem NS(u:∀b o,.e6->(.be\/.zA)->h b=O o):.zB:=λb o e=>by let#[D,M]:=vU e;exact NR (.bw D M) M
theorem qH(s:iu L h):.zB:=NS λb o e _=>.ae e
theorem Hk(c:H r=O C)(v:.kw C)(u:∀b o,.e6->b≠r->h b=O o):.zB:=by grind[NS]
theorem jB.ext(u:.cR L)(h:L r=O C)(v:.kw C):Ext H L:=λb=>by
 by_cases l:b=r;.subst l;exact#[.h,λo _ xs q=>(by rw[h]at q;cases q;cases v)]
 .refine#[.dH,λo k xs q=>?_];.cases g:H b with
   |none=>rfl|some o=>rw[.bw g l]at q;cases q
  .rw[.bw k l]at q;grind
structure Def(K:jd)(mg:iA->Option iB)(x:iA)(st:i5)(ps:List iA)(f:U)(fd:iZ):Prop where
 F:kh K x x st f fd
 E4:mg x=O (.ref f)
 bd:Binds K fd ps []
theorem Def.callee{st:i5}(D:.z x st ps f a)(ok:.aX k f a ps r):.L u C x k ps r f a:=#[ok,D.E4,D.F.kp,D.bd]
structure Z6(K:jd)(mg:iA->Option iB):Prop where
 before:∃tb,mg "BEFORE_ONE"=O (.ref tb)/\∀H:Hp,jz K H tb (lM va)
 join:∃tb,mg "JOINING"=O (.ref tb)/\∀H:Hp,jz K H tb (lM wz)
 comp:∃tb,mg "COMPARING"=O (.ref tb)/\∀H:Hp,jz K H tb (lM uk)
 alx:∃tb,mg "RECKONING"=O (.ref tb)/\∀H:Hp,jz K H tb (lM vl)
theorem U5(M:.b0 u C x l)(T:Z6 K mg)(c:.zo=.ja d)(D:.cP d Em)(Dw:.z "read_whole" Df .aF r m)(a:.z "read_choice" GD .aF t A)(g:.z "read_signed" GB .aF I ds)(Da:.z "read_atom" Hw .aF fa da)(h:.hF fg dg)(k:.z "read_name" Hv .aF fn dn)(B:.z "read_number" GC .aF fm dm):∀j,.aX (3+6*j) r m .aF .uM
 |0=>afT Dw.F|j+1=>by let#[tb,q,s]:=T.before;let#[J,v,L]:=T.join;let#[U,y,H]:=T.comp;let#[Y,r1,r2]:=T.alx;have p:=Dw.callee (U5 M T c D Dw a g Da h k B j);have f:=h.callee (ajn h.F M p @h);have Q:=Da.callee (ajm Da.F M p f (k.callee (aja k.F M f @h c D)) (B.callee (af7 (P:=P) (w:=w) (mg:=mg) (base:=u) (C:=C) (Cr:=x) (Ce:=l) B.F M)) @h);have Gc:=a.callee (agc a.F M v L y H r1 r2 (g.callee (afZ g.F M q s Q @h)) @h);exact ahu Dw.F M p Gc
def BL(l:U)(H:Hp)(x:U)(v:.kZ)(own:.ab):.n:=∃(a t:U)(p:Nat)(qs:@D),.sb H x l a (ef p 0 t own)/\H t=.hz/\.dY v
def PJ(C a l:U):Sp:=λg H Q E=>∃(R:kG)(n:Nat),g=[.hw]/\nW a H R n/\(∀x∈R.ts,.nh)/\.m9<=4000/\match .uW with
 |e'=>∀L,.d9->.a9 L|O q=>∀x L B,nW a L R B->R.ts.drop B=q.2->BL l .dl x q.1.occs q.1.own->.d9->.kh
theorem Us:jb .aF .bE (i4 Nf):=.J
theorem ajg(F:.D "read_expression" Nf f fd)(M:.b0 a C c l)(hE:mg "Expression"=.ja l)(aa:Mk K l fi)(Gi:@H a .de 1 fi ab .eC (Nz l))(bi:.j9 ab)(Gw:.L a C "read_whole" 189 .aF (zu C c l 31) fw ag):@H a .de 190 f fd .bE (PJ C c l):=by
 refine .t Us λah A ai s H vs Q E D h=>?_;obtain⟨R,n,rfl,g,ac,hl,k⟩:=h;refine .md (.aK Us.nd y @q (Xd aa Gi (D.mono @h) y hE bi .nil wx)) (iy (jf (.ra Gw D 0 1)) .zC);intro x U B ae aj;refine#[x,U,y,iG,λt ak=>.iB];have af:x≠t:=.kY
 have r:H t=e':=.Z
 generalize p:upd (upd (upd (.bO (.own x)) x (.ak l U [])) t .ap) x (.ak l U (ef 0 0 t ij))=I;have T:.I I:=λb o e=>by rw[<-p,.mc e B,.mc e r,.mc e B,.mc e ae];exact e
 let X:j4:=#[x,U,t];have B0:qA c l I R X n #[0,[],ij] 0:=#[g.keeps λb o q _=>T _ _ q,by rw[<-p];exact iG,#[[],by rw[<-p,.j5 af];exact iG,y,@E],my (jg g.lst r),jg g.ins B,ac];have v:∀L,jY R X I L->.d9:=λL u b o e hb=>.bw (T _ _ e) hb (jg e B) (jg e r);refine#[_,y,_,y,R,X,_,0,_,y,#[#[n,B0,y],.h],.t,.t,km.eq (yq:=.uW) y ?_];cases hq:.uW with
 |none=>ext aj;exact λL u=>k L (v L u)|some q=>ext aj;refine λL B' u=>.cL;let#[n',m,e1]:=B'.at_;let#[qs,h1,h2]:=m.oc;have xt:=jB.ext (v L u) m.rd.ins y;exact k x L n' m.rd e1 #[U,t,_,qs,.nv B m.ex,by grind[lh],h2.same (by grind[ajt])] (v L u)
inductive iX(P:α->β->Prop):List α->List β->Prop
 |nil:iX P [] []
 |cons{as:List α}(h:P a b)(t:iX P as bs):iX P (a::as) (b::bs)
theorem iX.len{P:.g3}{as:.aA}(h:.i6):.fR=.il:=by
 induction h with
 |nil=>rfl|cons _ _ I=>simp[I]
theorem iX.imp{P:.g3}{as:.aA}(h:.i6)(k:∀a b,P a b->p a b):iX p as f:=by
 induction h with
 |nil=>ext ae|cons h _ I=>exact .J (.a7 h) I
theorem iX.snoc{P:.g3}{as:.aA}(h:.i6)(e:P a b):iX P (as++[a]) (f++[b]):=by
 induction h with
 |nil=>exact .J e .nil|cons h _ I=>exact .J h I
theorem iX.get{P:.g3}{as:.aA}(h:.i6):∀(i:Nat)(a:α),.i8->∃b,f[i]? =O b/\P a b:=by
 induction h with
 |nil=>simp|cons h _ I=>grind
theorem iX.get'{P:.g3}{as:.aA}(h:.i6):∀(i:Nat)(b:β),f[i]? =O b->∃a,.i8/\P a b:=by
 induction h with
 |nil=>simp|cons h _ I=>grind
structure Rs(Cr:U)(H:Hp)(R:kG)(us:List jH):Prop where
 at_:∃n,nW Cr H R n/\R.ts.drop n=us
 wY:∀x∈R.ts,Mx.lJ x
 short:R.ts.length<=4000
def ka(x:U)(H L:Hp):.n:=∀b o,.cn->(∀l w,o≠.ak x l w)->.e6
theorem ka.same(a:.I B):ka Cr H B:=λc o h _=>a c o h
theorem jB.refl(r:U)(H:Hp):.cR H:=λ_ _ h _=>h
theorem jB.trans(a:.cR B)(b:jB r B I):.cR I:=λc o h n=>b c o (a c o h n) n
theorem jB.same(a:.I B):.cR B:=λc o h _=>a c o h
theorem jB.next(x:U)(R:kG)(n:Nat)(H:Hp):jB R.r H .iU:=λb o h l=>.zi
theorem Rs.keepR(B:.ea)(u:.d9):.qV:=λb o h f=>by let#[n,m,_]:=B.at_;exact .bw h λq=>f _ _ (by rw[q,m.ins]at h;exact(pD h).symm)
theorem Rs.ok(B:Rs a H R us):.d7:=by ext ai;intro x v;rw[<-e]at v;exact B.wY x (abl v)
theorem Rs.len(B:.ea):.cQ<=4000:=by ext ai;have:=B.short;grind
theorem Rs.same(B:Rs Cr H R us)(s:.I):Rs Cr L R us:=by ext ai;exact#[#[n,m.keeps λb o q _=>.ae q,e],B.wY,B.short]
theorem Rs.next(B:.ea)(m:.eB)(e:.fe=us)(h:us≠[]):Rs x .iU R .cI:=by exact#[#[n+1,m.go (by grind[Ak]),by rw[<-e,Az]],B.wY,B.short]
theorem Rs.kind(B:.ea)(t:.dj)(q:Q .ni H):IU x i σ H Q:=by obtain⟨n,m,rfl⟩:=B.at_;exact#[R,n,t,m,q]
theorem Rs.skip{k:iA}{p:.ab}(B:.ea)(t:.dj)(T:.fQ)(hk:.hC)(D:p=f'->∀L,Rs x L R .cI->.d9->.eN L)(M:p=ij->.eg H):.zn:=by
 ext ai;refine#[R,n,t,m,T,?_];unfold Qz;rw[e];refine .k2;.exact .gU (jB.next x R n H)
 grind
theorem Rs.qN{k:iA}{p:.ab}(B:.ea)(m:.eB)(e:.fe=us)(T:.fQ)(hk:.hC)(D:.zE)(M:.nj):.uB:=by
 unfold Tm.qN;rw[e];refine .k2;.rw[il T];exact .gU (jB.next x R n H)
 grind
theorem Rs.take{k:iA}{p:.ab}(B:.ea)(t:.dj)(T:.fQ)(hk:.hC)(D:.zE)(M:.nj):Bq C x E i k σ H Q:=by ext a8;exact#[R,n,t,m,.uF]
theorem Rs.Jp{k:iA}{p:.ab}(B:.ea)(t:.dj)(a:.zl)(T:.fQ)(hk:.hC)(D:.zE)(M:.nj):Bp C x E i j σ H Q:=by ext a8;exact#[R,n,k,t,a,m,.uF]
theorem Rs.takeEnd(B:Rs c H R us)(t:.dj)(D:us=[]->.aV H)(M:us≠[]->.a9 H):Bq C c E i "end" σ H Q:=by
 ext ai;refine#[R,n,t,m,?_];unfold Tm.qN;rw[e];cases us with
 |nil=>rw[ip (show kindS []="end"from y),ip y];exact D y|cons x r=>
  rw[il];.grind
  .intro q;have v:=B.ok x jO;have a:.eD=E0:=.FQ
   rw[zc v .E]at a;rcases a with q|q|q|q|q;ext O
   .ext cu
    ext ax
    .omega
    .omega
   ext O
   ext O
   ext O
theorem Rs.sign(B:.ea)(hk:.qO=[b])(l:b≠37):.zk:=Md B.ok hk l
theorem CW(ok:.d7):.bt="great"↔(.dE λx=>x.great)=f':=by
 rw[uf,Za];cases us with
 |nil=>ext bE|cons x r=>
  show .eD=_↔x.great=f';rw[.uA];ext n
  .ext aI;ext O
   .ext a7
    ext ax
    .omega
    .omega
   ext O
   .exact q.2
   ext O
  grind
theorem LI(h:u.great=f'):mJ (u::s)=.jj u.text:=by
 have hk:u.kind=0:=by grind[pW]
 show rY u=_;grind[rY]
def lC(w:.aJ):.L:=.aE λb=>.kx b
def qb(H:Hp)(l:U)(w:.aJ):.n:=H l=.ji (lC w)
def EI(n:V)(dl g:U):.bg:=jx "up" (@h g) (jx "down" (@h dl) (jx "name" n []))
def QB(t:V)(x:U):.bg:=jx "expression" .dP (jx "target" t [])
def prodF(n l h:V)(Q w:U):.bg:=jx "rules" (@h w) (jx "children" (@h Q) (.qs h l n))
def Jy(t x:U):.bg:=jx "productions" .dP (jx "symbols" .ml [])
theorem Ye{n:V}{dl g:U}:.gV ("up":iA)=.ja g:=rfl
theorem Vf{n:V}{dl g:U}:.gV ("down":iA)=O (@h dl):=rfl
theorem AS{n:V}{dl g:U}:.gV .uY=O n:=rfl
theorem SQ:(QB t x).lookup .uZ=O t:=rfl
theorem aes:(QB t x).lookup ("expression":iA)=.fh:=rfl
theorem y9{n:V}:.fc .uY=O n:=rfl
theorem C'{n:V}:.fc ("left":iA)=O l:=rfl
theorem LF{n:V}:.fc ("holds_number":iA)=O h:=rfl
theorem FI{n:V}:.fc ("children":iA)=.ja Q:=rfl
theorem LD{n:V}:.fc ("rules":iA)=.ja w:=rfl
theorem acU:(Jy t x).lookup ("symbols":iA)=.ja t:=rfl
theorem RW:(Jy t x).lookup ("productions":iA)=.fh:=rfl
def yc(m:U)(n:Nat)(v:.L->.bg):Sp:=λg H Q _=>∃(x l:U)(ys:.L),g=.a2::ys/\.e3=n/\H x=O (.ak m l [])/\.aV (@z x (.ak m l (v ys)))
structure nQ(P:kS)(w:jR)(K:jd)(mg:iA->Option iB)(base:jo)(C:U)(x:iA)(Cc:U)(n:Nat)(Fd:List V->List (iA×V)):Prop where
 mgC:mg x=O (.ref Cc)
 made:∃f fd ps,Mk K Cc f/\iN P w K mg base (iP P w C) 1 f fd ps (yc Cc n Fd)/\Binds K fd ps []
def Z9(m:U)(n:Nat)(v:.L->.bg)(t:TA):TE:=λσ H Q=>.ab λg B=>.cZ=n/\∀x l I,B x=e'->B l=e'->iu B I->.sb I x m l (v g)->Q .dP I
theorem qS(w:nQ .bI X.w X.K X.mg .dQ C x m n v)(g:.jJ 2)(k:PA X (e::c) t)(u:.dS:=by rfl)(A:.da:=by decide)(B:.mw e c:=by rfl)(L:.mz T c:=by rfl):.H (.dy (e::c) [] T) (Z9 m n v t):=by let#[f,fd,ps,M,F,J]:=w.made;ext q;refine uJ (zB I u w.mgC ?_ A);refine .gn M.kp (iW (k T @t s σ H _ I h) λus s1#[U,H1,D,r,q]=>.jO D.qj) B L;refine NI M F g J .nil wx D r λa l Y nd ne=>?_;let#[hl,q]:=q;rw[t8];refine#[a,l,U,y,hl,iG,y,q a l _ Y nd .cx iG];ext M
def NY(ys:.L):.bg:=match ys with
 |[M,q,a]=>jx "up" a (jx "down" q (jx "name" M []))|_=>[]
abbrev NZ:i5:=.mn 99 0
theorem ag':jb .u0 .u0 (i4 NZ):=.J
theorem ahR(F:.bb "Symbol.__init__" NZ f a)(t:lS K m)(T:.aY "name")(p:.aY "down")(r:.aY "up"):.ba .u0 (yc m 3 NY):=by
 refine .t ag' .cK;ext au;match ys,L with
 |[M,q,B],_=>refine .FR;ext cv
def Jk(ys:.L):.bg:=match ys with
 |[M,q]=>jx "expression" q (jx "target" M [])|_=>[]
abbrev Qc:i5:=.mn 100 0
theorem aj1:jb .u2 .u2 (i4 Qc):=.J
theorem akg(F:.bb "Rule.__init__" Qc f a)(r:lS K m)(T:.aY "target")(p:.aY "expression"):.ba .u2 (yc m 2 Jk):=by
 refine .t aj1 .cK;ext au;match ys,L with
 |[M,q],_=>ext a9
def Lo(ys:.L):.bg:=match ys with
 |[M,q,a,D,k]=>jx "rules" k (jx "children" D (.qs a q M))|_=>[]
abbrev Lp:i5:=.mn 101 0
theorem ac5:jb .u3 .u3 (i4 Lp):=.J
theorem ada(F:.hG f a)(B:lS K m)(T:.aY "name")(p:.aY "left")(r:.aY "holds_number")(c:.aY "children")(t:.aY "rules"):.ba .u3 (yc m 5 Lo):=by
 refine .t ac5 λD A I s H g Q E U h=>?_;ext au;match ys,L with
 |[M,q,Y,v4,v5],_=>refine .md (.aC @M y) (iy (.aC .ad y) (iy (.aC .ak y) (iy (.aC .cN y) (iE (.aC .cq y)))));refine#[_,y,_,y,x,m,l,_,y,v,B,T,@I,?_];refine#[_,y,_,y,x,m,l,_,y,iG,B,p,.nb,?_];refine#[_,y,_,y,x,m,l,_,y,iG,B,r,.iW,?_];refine#[_,y,_,y,x,m,l,_,y,iG,B,c,(.mX 3 1000),?_];refine#[_,y,_,y,x,m,l,_,y,iG,B,t,.qJ,?_];rw[mz,mz,mz,mz];exact k
def MZ(ys:.L):.bg:=match ys with
 |[M,q]=>jx "productions" q (jx "symbols" M [])|_=>[]
abbrev M0:i5:=.mn 102 0
theorem afC:jb .u4 .u4 (i4 M0):=.J
theorem agf(F:.bb "Grammar.__init__" M0 f a)(r:lS K m)(T:.aY "symbols")(p:.aY "productions"):.ba .u4 (yc m 2 MZ):=by
 refine .t afC .cK;ext au;match ys,L with
 |[M,q],_=>ext a9
def zM(ys:.L):.bg:=match ys with
 |[M,q,a]=>.qt a q M|_=>[]
abbrev Qe:i5:=.mn 37 0
theorem aj2:jb .u5 .u5 (i4 Qe):=.J
theorem akh(F:.bb "Node.__init__" Qe f a)(t:lS K m)(T:.aY "production")(p:.aY "value")(r:.aY "children"):.ba .u5 (yc m 3 zM):=by
 refine .t aj2 .cK;ext au;match ys,L with
 |[M,q,B],_=>refine .FR;ext cv
def zL(ys:.L):.bg:=match ys with
 |[M,q]=>jx "nodes" q (jx "root" M [])|_=>[]
abbrev Qb:i5:=.mn 38 0
theorem aj0:jb .u6 .u6 (i4 Qb):=.J
theorem akf(F:.bb "Tree.__init__" Qb f a)(r:lS K m)(T:.aY "root")(p:.aY "nodes"):.ba .u6 (yc m 2 zL):=by
 refine .t aj0 .cK;ext au;match ys,L with
 |[M,q],_=>ext a9
def O5(ys:.L):.bg:=match ys with
 |[M,q]=>jx "conflicts" q (jx "tree" M [])|_=>[]
abbrev Pc:i5:=.mn 125 0
theorem aiN:jb .u7 .u7 (i4 Pc):=.J
theorem ajo(F:.bb "Merge.__init__" Pc f a)(r:lS K m)(T:.aY "tree")(p:.aY "conflicts"):.ba .u7 (yc m 2 O5):=by
 refine .t aiN .cK;ext au;match ys,L with
 |[M,q],_=>ext a9
structure Gc where
 C:U
 Cr:U
 Ce:U
 Cy:U
 Cu:U
 Cp:U
 Cg:U
structure kM(K:jd)(G:Gc):Prop where
 er:G.Ce≠G.Cr
 yr:G.Cy≠G.Cr
 ur:G.Cu≠G.Cr
 pr:G.Cp≠G.Cr
 gr:G.Cg≠G.Cr
 e:lS K G.Ce
 eO:jV K G.Ce "occurrences"
 eA:jV K G.Ce "asks_number"
 y:lS K G.Cy
 yN:jV K G.Cy "name"
 yD:jV K G.Cy "down"
 yU:jV K G.Cy "up"
 u:lS K G.Cu
 uT:jV K G.Cu "target"
 uX:jV K G.Cu "expression"
 p:lS K G.Cp
 pN:jV K G.Cp "name"
 pL:jV K G.Cp "left"
 pH:jV K G.Cp "holds_number"
 pC:jV K G.Cp "children"
 pR:jV K G.Cp "rules"
 g:lS K G.Cg
 gS:jV K G.Cg "symbols"
 gP:jV K G.Cg "productions"
def rI(G:Gc)(H:Hp)(s:U)(m:.qW):.n:=∃l dl g,H s=O (.ak G.Cy l (EI (.jj .eI) dl g))/\qb H dl m.downs/\qb H g m.ups
def uE(c:.eE):.L:=[.h c.1,@I .qX]
def zN(H:Hp)(v:V)(t:.E .eE):.n:=match t with
 |e'=>v=.iM|O c=>∃q,v=@h q/\H q=.kr c
def x9(G:Gc)(H:Hp)(r:U)(m:Mx.oh):.n:=∃l M x,H r=O (.ak G.Cu l (QB M x))/\zN H M m.target/\BL G.Ce H x m.x.occs m.x.own
def tH(G:Gc)(H:Hp)(p:U)(m:.va):.n:=∃l Q w rs,H p=O (.ak .cr l (prodF (.jj .eI) (.jj m.left) (.bl m.own) Q w))/\qb H Q .i9/\H w=.jT rs.map/\iX (x9 G H) rs m.rules
theorem Jj(h:A≠B):∀q r,HO.ins A l w≠.ak B q r:=.h
theorem ka.lst(k:.qV)(h:.ip):L l=.eZ:=.a7 h @I
theorem ka.tup(k:.qV)(h:H l=.dz):L l=.dz:=.a7 h @I
theorem ka.dict(k:.qV){xs:.aI}(h:H l=.jo xs):L l=.jo xs:=.a7 h @I
theorem BL.keep{os:.kZ}{b:.ab}(h:BL l H x os b)(k:ka a H L)(c:l≠a):BL l L x os b:=by let#[f,t,p,qs,D,M,r]:=h;exact#[f,t,p,qs,.a7 D (Jj c),k.lst M,r.same λp xs q=>k.tup q]
theorem rI.keep{G:Gc}(h:rI G H s m)(k:ka G.Cr H L)(T:.dn):rI G L s m:=by let#[l,dl,g,D,M,r]:=h;exact#[l,dl,g,.a7 D (Jj T.yr),k.lst M,k.lst r]
theorem zN.keep(h:zN H v t)(k:.qV):zN L v t:=by
 cases t with
 |none=>exact h|some c=>let#[q,D,M]:=h;exact#[q,D,k.tup M]
theorem x9.keep{G:Gc}(h:x9 G H r m)(k:ka G.Cr H L)(T:.dn):x9 G L r m:=by let#[l,M,x,D,a,c]:=h;exact#[l,M,x,.a7 D (Jj T.ur),a.keep k,c.keep k T.er]
theorem tH.keep{G:Gc}(h:tH G H p m)(k:ka G.Cr H L)(T:.dn):tH G L p m:=by let#[l,Q,w,rs,D,M,r,B]:=h;exact#[l,Q,w,rs,.a7 D (Jj T.pr),k.lst M,k.lst r,B.imp λa b q=>.bD k T]
theorem Rs.ext(B:Rs x L R us)(u:.d9):Ext H L:=by let#[n,m,_]:=B.at_;exact jB.ext u m.ins y
theorem Rs.news(B:Rs x p R us)(u:.d9):iu (jt p H) (jt p L):=by let#[n,m,_]:=B.at_;exact Hk m.ins y u
theorem jB.Bn(u:.cR a)(T:H L=e'):.cR (upd a L o):=λb x h l=>by rw[.mc h T];exact u b x h l
def oj(C x:U)(R:kG)(H:Hp)(g:.E (α×.aj))(At:Hp->V->α->.n)(Q:VK)(E:XK):.n:=match g with
 |e'=>∀L,.d9->.a9 L|O q=>∀v L,Rs x L R q.2->At .dl v q.1->.d9->Q v L
def Et(G:Gc)(F:.aj->.E (α×.aj))(At:Hp->V->α->.n):Sp:=λg H Q E=>∃(R:kG)(us:.aj),g=[.hw]/\.cj H R us/\.bc (F us) At Q E
def OA(G:Gc):Sp:=λg H Q E=>∃(R:kG)(us:.aj)(k:iA)(f:jH->Bool),.zj/\.cj H R us/\(k="small"/\f=mQ\/k="great"/\f=pW)/\∀l L,.cj L R (.k7).2->qb L l (.k7).1->.dc->.d9->.ez
def nR(b:@n):.n:=K' (txt b)=f'
def IM(m:.qW):.n:=.gn<=4000/\∀a∈m.attrs,nR a
def Ig(m:Mx.oh):.n:=m.x.occs.length<=4000/\∀c,m.target=O c->.ja
def A8(m:.va):.n:=.nw<=4000/\m.rules.length<=4000/\(∀r∈m.rules,Ig r)/\nR m.left/\(∀k∈m.kids,nR k)/\nR .eI/\m.name.length<=12
def JL(G:Gc)(H:Hp)(v:V)(m:.qW):.n:=IM m/\∃s,v=@h s/\rI G H s m
def EA(G:Gc)(H:Hp)(v:V)(m:Mx.oh):.n:=Ig m/\∃s,v=@h s/\x9 G H s m
def yj(G:Gc)(H:Hp)(v:V)(m:.va):.n:=A8 m/\∃s,v=@h s/\tH G H s m
def JB(H:Hp)(v:V)(c:.eE):.n:=zN H v (O c)
def vo(ts:.aj):.E (.eE×.aj):=(match .zF with
  |O q=>(.aq 46 q.2).bind λr=>O (uR .iI,r)|e'=>O (0,ts)).bind .FS
theorem Ub(ts:.aj):Mx.zt ts=if jP 63 ts then O (e',.kI)else(vo ts).bind λp=>(.aq 61 p.2).bind λr=>O (O p.1,r):=by grind[Mx.zt,vo]
abbrev WL(G:Gc):Sp:=Et G Mx.qe (JL G)
abbrev WK(G:Gc):Sp:=Et G vo JB
abbrev Zr(G:Gc):Sp:=Et G Mx.rF (EA G)
abbrev Zs(G:Gc):Sp:=Et G Mx.rG .jb
abbrev Mr:i5:=top 104
abbrev LN:i5:=top 105
abbrev Nb:i5:=top 106
abbrev Na:i5:=top 107
abbrev LM:i5:=top 108
theorem xQ(h:(.dE f)=ij):Mx.kL f us=e':=by
 cases us with
 |nil=>rfl|cons t r=>grind[Mx.xV]
theorem tu(h:.aq b ts=O us):.df:=by grind[Mx.jk,Mx.qF]
theorem Bh(h:Mx.kL f ts=O (t,us)):.df:=by
 cases ts with
 |nil=>cases h|cons x r=>grind[Mx.qw,Mx.xV]
theorem bind_some(h:m.bind f=O b):∃a,m=O a/\f a=O b:=by
 cases m with
 |none=>cases h|some a=>grind
theorem afr(h:vo ts=.qh):.df:=by
 ext cw;have:=Bh a;have:p.2.length<=.av:=by
  cases k:.zF with
  |none=>grind|some x=>rw[k]at D;let#[r,T,L]:=.jy D;cases L;have:=tu T;have:=Bh k;grind
 omega
theorem adB(h:Mx.zt ts=.qh):.cQ<=.av:=by
 rw[Ub]at h;by_cases q:jP 63 ts=f';.grind
 .rw[il q]at h;let#[p,D,M]:=.jy h;let#[r,a,B]:=.jy M;cases B;have:=afr (c:=p.1) (us:=p.2) D;have:=tu a;omega
theorem MN(h:Mx.rF ts=O (m,us)):.df:=by unfold Mx.rF at h;let#[t,D,M]:=.jy h;let#[x,a,B]:=.jy M;let#[r,T,L]:=.jy B;cases L;have:=adB (c:=t.1) (us:=t.2) D;have:=VP 31 @h _ _ x.1 x.2 a;have:=tu T;omega
theorem Uu:.rB f g Mx.o5 ts
 |0,_,_,h,_=>.Z h @h|_,0,_,_,h=>.Z h @h|f+1,g+1,ts,D,M=>by
  show .FT=.FT;split;.rfl
  .cases a:Mx.rF ts with
   |none=>rfl|some x=>have:=MN (m:=x.1) (us:=x.2) a;show .p7 Mx.o5 f g;rw[Uu f g x.2 @h @h]
theorem Ut:∀(f:Nat)(ts us:.aj)(s:.qY),Mx.o5 f ts=O (s,us)->.df
 |0,_,_,_,h=>.b4|f+1,ts,us,s,h=>by
  have h:(if jP 125 ts=f' then O ([],.kI)else(Mx.rF ts).bind λx=>(Mx.o5 f x.2).bind λC=>O (x.1::C.1,C.2))=O (s,us):=h;by_cases q:jP 125 ts=f';.grind[Mx.qF]
  .rw[il q]at h;let#[x,D,M]:=.jy h;let#[C,r,B]:=.jy M;cases B;have:=MN (m:=x.1) (us:=x.2) D;have:=Ut f x.2 C.2 C.1 r;omega
theorem HY:∀ts:.aj,(.aM f ts).2.length<=.av
 |[]=>.bV|t::r=>by
  show(if f t=f' then .zG else([],t::r)).2.length<=_;split;.have:=HY (f:=f) r;grind
  simp
theorem WE(h:Mx.qe ts=O (m,us)):.df:=by ext cx;have:=.zH;have:=HY (f:=mQ) t.2;have:=tu a;have:=HY (f:=mQ) r;have:=tu T;omega
theorem VD(h:Mx.rG ts=O (m,us)):.df:=by
 unfold Mx.rG at h;let#[t,D,M]:=.jy h;let#[l,g,B]:=.jy M;let#[r,T,L]:=.jy B;let#[u,H,Q]:=.jy L;let#[rs,f,c]:=.jy Q;cases c;have:=.zH;have:=Bh (t:=l.1) (us:=l.2) g;have a:=tu T;have k:(if jP 35 l.2=f' then l.2.drop 1 else l.2).length<=l.2.length:=.h
 have:=HY (f:=pW) r;have:=tu H;have:=Ut _ _ rs.2 rs.1 f;omega
theorem GX:.rB f g Mx.mC ts
 |0,_,_,h,_=>.Z h @h|_,0,_,_,h=>.Z h @h|f+1,g+1,[],D,M=>y|f+1,g+1,t::r,D,M=>by
  show .FU=.FU;split;.cases a:Mx.qe .aC with
   |none=>rfl|some x=>have:=WE (m:=x.1) (us:=x.2) a;show .p7 Mx.mC f g;rw[GX f g x.2 @h @h]
  .cases a:Mx.rG .aC with
   |none=>rfl|some x=>have:=VD (m:=x.1) (us:=x.2) a;show .p7 Mx.mC f g;rw[GX f g x.2 @h @h]
theorem Nt(t:@n):∀(n i:Nat)(ts:.aj),.aS-i<=n->Mx.o (Mx.mZ i .iQ)=O ts->.av<=.aS-i
 |n,i,ts,f,h=>by
  by_cases a:i<.aS;.have l:=mP a;generalize t[i]=b at l;match n,f with
   |0,f=>omega|n+1,f=>
    by_cases c:acq b=f';.rw[Mx.Vb l c]at h;have:=Nt t n .ah ts @h h;omega
    .rw[Mx.Wy l (.j0 c)]at h;let#[q,D,M]:=.jy h;let#[us,r,B]:=.M M;let#[_,_,s,k]:=Mx.WB l D;have:=Nt t n q.2 us @h r;grind
  .rw[Ak @h]at h;cases h;simp
theorem T7(h:.iR=O ts):.av<=.aS:=by have:=Nt t .aS 0 ts @h h;omega
mutual
theorem YM:∀x:adu,x.occs.length<=.hb
 |.num _=>.au|.own=>.au|.occ _ _=>.bV|.app _ M=>by have:=UC M;show(Si M).length<=1+Sa M;omega
theorem UC:∀xs:@q adu,(Si xs).length<=Sa xs
 |[]=>.au|x::xs=>by have D:=YM x;have M:=UC xs;grind[Si,Sa]
end
theorem afM(h:Mx.uo ts=O (a,us)):a.occs.length<=4000:=by have p:(Mx.jC 31).2 #[0,[],ij] ts=O (a,us):=h;rw[(Mx.Jg 0 31 0 y @h).2]at p;have u:=Mx.akL (Mx.S0 p).1;rw[Mx.W5 0]at h;grind[YM]
theorem adJ(h:oz b=f'):b<1114112:=by grind[oz,uO,pE,vP,ri]
theorem Iz(h:Mx.lJ t)(hk:.b6=0):nR .ax:=by
 rcases h with⟨h,_⟩|⟨h,_⟩|⟨h,_⟩|⟨_,_,_,h,_⟩;.omega
 .omega
 .omega
 grind[nR,K',txt,adJ]
theorem ahV(h:Mx.lJ t)(hk:.b6=0):.hp<=12:=by
 rcases h with⟨h,_⟩|⟨h,_⟩|⟨h,_⟩|⟨_,_,h,_⟩;.omega
 .omega
 .omega
 .exact h
theorem Me{t:jH}(h:t.great=f'):.b6=0:=by grind[pW]
theorem DX(Q:∀t,f t=f'->.b6=0):∀(us:.aj),.d7->(∀a∈(.k7).1,nR a)/\(.k7).1.length+(.k7).2.length=.cQ/\∀x∈(.k7).2,x∈us
 |[],_=>#[λa h=>.b4,y,λx h=>h]|t::r,ok=>by
  by_cases h:f t=f';.rw[aeZ h];let#[D,M,c]:=DX Q r .q;grind[Iz]
  grind[Mx.jS]
where
 aeZ{f:jH->Bool}{t:jH}{r:.aj}(h:f t=f'):.aM f .aC=.zG:=.nZ f t
theorem Y6(h:.aq b ts=O us):.vb:=by grind[Mx.jk]
theorem ON(h:Mx.kL f ts=O (t,us)):f t=f'/\t∈ts/\.vb:=by
 cases ts with
 |nil=>cases h|cons x r=>grind[Mx.qw,Mx.xV]
theorem afs(ok:∀x∈ts,.nh)(g:.av<=4000)(h:Mx.qe ts=O (m,us)):IM m:=by ext cx;have c:=.zH;have f:=ON (t:=t.1) (us:=t.2) D;let#[k,H,p]:=DX (λt h=>Mx.xH h) t.2 λx v=>ok x (f.2.2 x v);have l:=tu a;grind[Y6,DX,Mx.xH,IM,Mx.jv.attrs]
theorem ag3(ok:∀x∈ts,.nh)(h:vo ts=.qh):.ja:=by
 ext cw;have m:=ON (t:=q.1) (us:=q.2) a;have Q:∀x∈p.2,x∈ts:=by
  cases k:.zF with
  |none=>grind|some y=>rw[k]at D;let#[r,T,L]:=.jy D;cases L;exact λx v=>(ON (t:=y.1) (us:=y.2) k).2.2 x (Y6 T x v)
 exact Iz (ok _ (Q _ m.2.1)) (Mx.xH m.1)
theorem GV:jb ["reader","target","expression"] .bE (i4 Na):=.J
theorem ai8{G:Gc}(F:.D "read_rule" Na f fd)(M:.ky C)(T:.dn)(Gt:.L C G.C "read_target" 2 .bE (WK G) ft ai)(Ge:.L C G.C "read_expression" 190 .bE (PJ G.C G.Cr G.Ce) fe aj)(Rc:.dH C G.C "Rule" G.Cu 2 Jk):@H C .dL 191 f fd .bE (Zr G):=by
 refine .t GV λak A al s H vs Q E hr h=>?_;ext aJ;have af:.b8:=.aO;have aa:.i3:=.aO;refine#[_,iy (.aK GV.nd y @q pJ) (iy (jh (vi (.m6 M aa)) (iy (.aK GV.nd y @q (.pe Gt aa 0)) (.jx (.mH M af))) jn) (iy (.ag GV.nd y @q (.pe Ge hr 0)) (iy (.mI M af) (.pv Rc aa (.mb 1 2))))),?_];have k:.bc (Mx.rF us) (EA G) Q E:=k;unfold Mx.rF at k;rw[Ub]at k;have fin:∀(tv:V)(l:.E .eE)(ab:.aj)(L:Hp),.cj L R ab->zN .dl tv l->.d9->.bc ((Mx.uo ab).bind λx=>(.aq 59 x.2).bind λr=>O (#[l,x.1],r)) (EA G) Q E->(∀c,l=O c->.ja)->(tS (zS (rE (PJ G.C G.Cr G.Ce) [] E (jW (i9 0) ma)) (qR 2)) (tS (BA (Bq G.C G.Cr E 0 ";")) (EF (Z9 G.Cu 2 Jk (.mY 1 2))))) {nx:=λx L=>Q V.iM L,rt:=Q} [.eH,O tv,e'] L:=λtv l ab L p hT u' D ag=>by
  have ah:∀(q:Mx.R)(m:Mx.oh)(ts:.aj),Mx.uo ts=O q->m=#[l,q.1]->Ig m:=λq m ts g hm=>by subst hm;exact#[afM (a:=q.1) (us:=q.2) g,ag]
  obtain⟨n,u,rfl⟩:=p.at_;refine#[_,y,R,n,y,u,p.wY,p.short,?_];cases g:.uW with
  |none=>rw[g]at D;exact λI U=>D I (.dG U)|some q=>
   rw[g]at D;have D:.bc ((.aq 59 q.2).bind λr=>O (#[l,q.1],r)) (EA G) Q E:=D;refine λx I n2 B2 e2 hx U=>?_;have Bs:.cj I R q.2:=#[#[n2,B2,e2],p.wY,p.short];ext z;refine Bs.take y .E (.mq Bs.sign 59) (λa H3 B3 u3=>?_) (λa=>?_);.unfold Mx.jk at D;rw[ip a]at D;refine#[_,y,_,y,y,λac dy H4 ny am sm hy=>?_];have v3:=(.dG U).trans u3;have kp:=.fZ ((B.news u3).trans (qH sm));exact D (@h ac) H4 (B3.same sm) #[.cx _ g y,ac,y,dy,tv,x,.nv ((B3.ext v3 ac).1 ny) hy,(hT.keep (.fZ (B.news U))).keep kp,(hx.keep (.fZ (qG (p.ext u'))) T.er).keep kp T.er] (v3.trans (.da sm))
   .unfold Mx.jk at D;rw[.jw a]at D;exact D I (.dG U)
 ext z;refine .fY (.mq B.sign 63) (λa H1 u u1=>?_) (λa=>?_);.rw[ip a]at k;exact#[_,y,iU (fin .iM e' .cI H1 u y u1 k λc hc=>.jr hc)]
 .rw[.jw a]at k;refine .gj;refine#[_,y,R,us,y,B,?_];cases g:vo us with
  |none=>rw[g]at k;exact k|some q=>
   rw[g]at k;have k:.bc (((.aq 61 q.2).bind λr=>O (O q.1,r)).bind λt=>(Mx.uo t.2).bind λx=>(.aq 59 x.2).bind λr=>O (#[t.1,x.1],r)) (EA G) Q E:=k;refine λv H1 u hT u1=>?_;ext z;refine u.take y .E (.mq u.sign 61) (λae I B2 U=>?_) (λae=>?_);.ext ak;rw[ip ae]at k;exact fin v (O q.1) .hk I B2 (zN.keep (t:=O q.1) hT (.fZ (B.news U))) (u1.trans U) k λc hc=>by cases hc;exact ag3 (c:=q.1) (us:=q.2) B.ok g
   .ext ak;rw[.jw ae]at k;exact k H1 u1
theorem Rs.Bn(m:.ea)(B:Rs x f R p)(T:H L=e')(a:f L=.eZ):Rs x (.pa f L ys) R p:=by
 let#[w,c,_]:=m.at_;let#[n,g,D]:=B.at_;refine#[#[n,g.keeps λb o q l=>?_,D],B.wY,B.short];rw[iC];.exact q
 .ext bF;.subst l;rw[c.ins]at T;cases T
  .rw[l,c.lst]at T;cases T
  grind
theorem Rs.ak1{k:iA}{p:.ab}(B:.ea)(t:.dj)(T:.fQ)(hk:.hC)(h:∀L,Rs x L R (if p=f' then us.drop 1 else us)->.d9->.pc Q p L):.zn:=by
 refine B.skip t T hk (λa L f c=>?_) (λa=>?_);.grind
 grind[jB.refl]
theorem Ext.trans(a:Ext H B)(b:Ext B I):Ext H I:=λc=>#[λq=>(a c).1 ((b c).1 q),λo k xs q=>by
 cases D:B c with
 |none=>rw[(a c).1 D]at k;cases k|some z=>have:=(b c).2 z D xs q;ext Y;exact(a c).2 o k xs D]
theorem Ext.upd(k:isTup o=ij):Ext H (@z L o):=λc=>by
 by_cases B:c=L;.subst B;exact#[.kY,λx _ xs q=>(by rw[iG]at q;cases q;cases k)]
 ext M
theorem AN:jb ["reader","name","left","holds_number","children","rules"] .bE (i4 Nb):=.J
theorem ai9{G:Gc}(F:.D "read_production" Nb f fd)(M:.ky ac)(T:.dn)(Gn:.L ac G.C "read_names" 2 .qZ (OA G) fn aG)(Gu:.L ac G.C "read_rule" 191 .bE (Zr G) fu aH)(Rc:.dH ac G.C "Production" .cr 5 Lo):@H ac .dL 192 f fd .bE (Zs G):=by
 refine .t AN λaI A aJ s H vs Q E hr h=>?_;ext aJ;have ae:.b8:=.aO;have af:.i3:=.aO;refine#[_,iy (.aK AN.nd y @q (.mH M ae)) (iy (.ag AN.nd y @q (.mH M ae)) (iy (.aL AN.nd y @q (r8 M af .ae)) (iy (.mI M ae) (iy (.bE AN.nd y @q (n8 Gn af (Y .ae .k1))) (iy (.mI M ae) (iy (.db AN.nd y @q .dJ) (iy (.bv (vi .uQ) (.kq (.ch .cq (Y (.pe Gu hr 0) iw)))) (.pv Rc af (Y @M (Y .ad (Y .ak (.mb 4 5)))))))))))),?_];have k:.bc (Mx.rG us) .jb Q E:=k;unfold Mx.rG at k;refine .gQ (λhp H1 B1 u1=>?_) .nk;ext D;.rw[xQ hp]at k;exact k H .k8
 obtain⟨t,r,rfl,ht⟩:=ta hp;rw[Mx.qw ht]at k;have ev:=AG (s:=r) ht;have an:nR .ax/\.hp<=12:=#[Iz (B.ok t jO) (Mx.xH ht),ahV (B.ok t jO) (Mx.xH ht)];have B1:.cj H1 R r:=B1;have k:.bc ((Mx.kL pW r).bind λl=>(.aq 58 (if jP 35 l.2 then l.2.drop 1 else l.2)).bind λr=>.p8 123 (.aM pW r) #[.ax,l.1.text,jP 35 l.2,(.aM pW r).1,rs.1]) .jb Q E:=k;ext z;refine B1.take y .E (CW B1.ok) (λag H2 B2 u2=>?_) (λag=>?_);ext D;.rw[xQ ag]at k;exact k H1 u1
 obtain⟨C,r2,rfl,ah⟩:=ta ag;rw[Mx.qw ah]at k;have ay:=LI (s:=r2) ah;have B2:.cj H2 R r2:=B2;have k:.bc ((.aq 58 (if jP 35 r2 then r2.drop 1 else r2)).bind λr=>.p8 123 (.aM pW r) #[.ax,C.text,jP 35 r2,(.aM pW r).1,rs.1]) .jb Q E:=k;ext z;refine B2.ak1 y .E (.mq B2.sign 35) λH3 B3 u3=>?_;have v3:=.pb u1.trans u2 u3;generalize jP 35 r2=bh at k B3⊢;generalize(if bh=f' then r2.drop 1 else r2)=az at k B3⊢;rw[ev,ay];ext z;refine B3.take y .E (.mq B3.sign 58) (λai H4 B4 u4=>?_) (λai=>?_);ext D;.ext ak;rw[.jw ai]at k;exact k H3 v3
 ext ak;rw[ip ai]at k;have v4:=v3.trans u4;generalize az.drop 1=g at k B4;have k:.bc (.p8 123 .q0 #[.ax,C.text,bh,(.q0).1,rs.1]) .jb Q E:=k;refine#[_,y,R,g,_,pW,y,B4,@n #[y,y],λc H5 B5 hc nc u5=>?_];have v5:=v4.trans u5;have aA:=(B4.ext v4 c).1 nc;have ao:(.q0).1.length<=4000:=by have:=(.FV).2.1;have:=B4.len;omega
 have ap:=(.FV).1;generalize(.q0).1=aa at k hc ao ap;generalize(.q0).2=aB at k B5;ext z;refine B5.take y .E (.mq B5.sign 123) (λaj I B6 u6=>?_) (λaj=>?_);ext D;.ext ak;rw[.jw aj]at k;exact k H5 v5
 ext ak;rw[ip aj]at k;have v6:=v5.trans u6;have aq:qb I c aa:=(B5.keepR u6).lst hc;generalize aB.drop 1=aC at k B6;refine#[.au,λL hL=>?_];have ar:=(B6.ext v6 L).1 hL;have aD:c≠L:=jg aq hL;have s7:iu I (.az L .ap):=@t hL;have B7:=B6.same s7;have v7:jB R.r H (.az L .ap):=v6.trans (.da s7);have au:qb (.az L .ap) c aa:=s7 _ _ aq;have ak:.az L .ap L=O .ap:=iG;generalize .az L .ap=H7 at B7 v7 au ak⊢;let W:.cp:=λm σ H'=>∃(as:@D)(ms:.qY)(p:.aj),σ=[.eH,O .um,O (.jj C.text),.j1 bh,.ja c,.ja L]/\m=.dk/\.cj H' R p/\jB R.r H H'/\Ext H7 H'/\qb H' c aa/\H' L=.jT as.map/\.fR+.dk<=4000/\iX (x9 G (jt H7 H')) as ms/\(∀r∈ms,Ig r)/\.bc ((.zI).bind .FW) .jb Q E;refine .jY #[_,[],[],aC,y,y,B7,v7,.q1,au,ak,by have:=B7.len;grind,.nil,@E,k];rintro mm σ H'⟨as,ms,p,rfl,rfl,B',u',x',av,al,aK,am,aE,D⟩;ext z;refine B'.skip y .E (.mq B'.sign 125) (λaF H8 B8 u8=>?_) (λaF=>?_)
 .ext al;have e8:.zI=O ([],.d8):=.nw 125 p
  rw[e8]at D;have D:.bc (O (#[.ax,C.text,bh,aa,ms++[]],.d8)) .jb Q E:=D;rw[t8]at D;have v8:=.dG u8;refine#[_,y,_,y,_,y,_,y,_,y,y,λx dx H9 nx aL sm hx=>?_];refine D .dP H9 (B8.same sm) #[#[ao,by rw[<-am.len];omega,aE,Iz (B1.ok C jO) (Me ah),ap,an.1,an.2],x,y,dx,c,L,as,.nv ((B8.ext v8 x).1 nx) hx,?_,?_,am.imp (.mO (((B7.news u8).trans (qH sm)).trans (qG (B7.ext v7))) T)] (v8.trans (.da sm));.show jt H H9 c=_;rw[lh aA];exact .bz ((B'.keepR u8).lst av)
  .rw[lh ar];exact .bz ((B'.keepR u8).lst al)
 .refine#[_,y,iQ #[λσ' H2=>∃m',m'<.dk/\.cT H2,.q2,?_]];have e8:.zI=(Mx.rF p).bind λx=>(Mx.o5 .dk x.2).bind λab=>O (x.1::ab.1,ab.2):=.nw 125 p
  rw[e8]at D;refine#[_,y,.jl al,_,y,R,p,y,B',?_];cases hq:Mx.rF p with
  |none=>rw[hq]at D;exact λH2 z=>D H2 (.dG z)|some q=>
   rw[hq]at D;have aw:=MN (m:=q.1) (us:=q.2) hq;have D:.bc (((Mx.o5 .dk q.2).bind λab=>O (q.1::ab.1,ab.2)).bind .FW) .jb Q E:=D;rw[Uu .dk (.c2+1) q.2 aw @h,Mx.mV]at D;refine .zJ;obtain⟨aM,a,rfl,ha⟩:=hv;have ax:H9 L=.jT as.map:=.fd al;refine .m5 L ax;.grind[sizeLine]
   have nu:=qu (H:=H7) (H':=H9) (x:=@E (as.map .bZ++.ms)) ak y;refine#[.c2,aw,as++[a],ms++[q.1],q.2,y,y,B6.Bn B9 hL ax,(.dG u9).Bn ar,.m0 x'.trans (B9.ext u9),?_,?_,.sZ,?_,?_,?_];.show upd _ L _ c=_;rw[iC aD];exact .fd av
   ext ac
   .rw[nu];exact(.rb am.imp z.keep (B7.news u9) T).snoc (ha.keep (.dc (qG x')) T)
   .grind
   grind
def D1(C:U)(c:.n)(H:Hp)(Q:VK)(E:XK):.n:=(c->∀L,.I->.aV L)/\(¬c->.zh)
def A3(C:U):Sp:=λg H Q E=>∃b,g=[.bl b]/\if b=f' then .aV H else .a9 H
def OD(G:Gc):Sp:=λg H Q _=>∃(s:U)(m:Mx.jv),g=[@h s]/\rI G H s m/\.gn<=8000/\∀l L,.dc->.I->qb L l m.attrs->.ez
def NA:Sp:=λg H Q _=>∃(l:U)(w:.aJ),.ny/\qb H l w/\.bJ<=4000/\∀b,b=.q w.Nodup->.pc Q b H
def wK(G:Gc)(H:Hp)(u:U)(s:.cg):.n:=∃k:@D,H u=.jT k.map/\iX (rI G H) k s
def ajP(G:Gc)(H:Hp)(p:U)(b:.ab):.n:=∃a n l Q w,H p=O (.ak .cr a (prodF n l (.bl b) Q w))
def Zy(G:Gc):Sp:=λg H Q E=>∃(x p u:U)(v:.kZ)(own b:Bool)(s:.cg),g=[.a2,.e5,.fS]/\BL G.Ce H x v own/\ajP G H p b/\wK G H u s/\(∀m∈s,.gn<=8000)/\.d2<=4000/\D1 G.C ((b=f'\/own=ij)/\∀c∈v,Mx.Jv s c) H Q E
theorem wK.keep{G:Gc}(h:wK G H u c)(s:.I)(T:.dn):wK G L u c:=by let#[k,D,M]:=h;exact#[k,.ff,M.imp (.mO s T)]
abbrev Pt:i5:=top 89
abbrev Pq:i5:=top 90
abbrev Qq:i5:=top 91
abbrev Od:i5:=top 92
abbrev Nk:i5:=top 93
abbrev Qg:i5:=top 94
abbrev LR:i5:=top 95
abbrev QK:i5:=top 96
abbrev Nj:i5:=top 97
theorem we(w:.aJ):(lC w).length=.bJ:=by grind[lC]
theorem aiF(b:@n)(w:.aJ):kE (.jj b) (lC w)=.q (b∈w):=by
 unfold kE lC;rw[Le];induction w with
 |nil=>rfl|cons n r I=>rw[yT,I];show((txt n==txt b)||_)=_;grind[txt]
theorem afv(w:.aJ):(lC w).all uq=f':=by unfold lC;rw[SG];exact xp.mpr λ_ _=>y
theorem take_snoc:∀{l:.aA}{i:Nat}{x:α},.kO->.bY .ah=.bY i++[x]
 |[],i,x,h=>.mi|a::l,0,x,h=>.h|a::l,i+1,x,h=>by have I:=.a2 (l:=l) (i:=i) (x:=x) h;grind
theorem ahj:jb .q3 .q3 (i4 Pt):=.cJ
theorem agb(F:.D "demand" Pt f a)(T:.kS):.ba .q3 (A3 C):=by
 refine .t ahj .cK;obtain⟨b,rfl,k⟩:=h;refine#[_,iE (jh (vi (kW .ae)) (.ko T) jn),?_];refine .qT;cases b with
 |true=>exact iU k|false=>grind
theorem aiV:jb .nD .nD (i4 Qq):=.cJ
theorem ahQ{G:Gc}(F:.D "attributes_of" Qq f a)(T:.dn):@H u .dL 1 f a .nD (OD G):=by
 refine .t aiV λt A I s H v Q E c h=>?_;obtain⟨b,m,rfl,⟨l,dl,g,D,M,r⟩,L,k⟩:=h;refine .jW (lu vj .cM .cM);refine#[_,y,b,G.Cy,l,_,_,y,D,T.y,T.yD,Vf,_,y,b,G.Cy,l,_,_,y,D,T.y,T.yU,Ye,dl,g,_,_,y,y,M,r,?_,λp q=>?_];.rw[we,we];unfold Mx.jv.attrs at L;rw[j9]at L;exact .ju L
 .have e:lC m.downs++lC m.ups=lC m.attrs:=by grind[lC,Mx.jv.attrs]
  rw[e];exact k p _ q (@t q) iG
theorem PN:jb ["expression","production","places","place","name"] .vc (i4 QK):=.J
theorem ajj{G:Gc}(F:.D "check_expression" QK f fd)(T:.dn)(ag:.fO)(t:.rj ac 1 al am)(Ga:.L ac G.C "attributes_of" 1 .nD (OD G) fa an):@H ac .dL 2 f fd .vc (Zy G):=by
 refine .t PN λao A ap s H vs Q E g h=>?_;obtain⟨x,p,u,v,own,b,a,rfl,⟨r,ol,pt,qs,C,x2,D⟩,⟨dp,pn,aq,cl,rl,p1⟩,⟨ss,s1,s2⟩,hm,ho,k⟩:=h;refine#[_,iy (.pu t g (Jt .fj (Ee (aj' .aE)))) (iE (.bo (kJ .aE) (zG y (rr (.a3 PN.nd y @q) (rr (.ev PN.nd y @q) zz))) (iy (.pu t g (pG Eu .ak (.mu ag 2) .aw)) (.jx (.py t g (pG ua (J 4) (n8 Ga g (Y (.ax .ad .ak .ai) iw)) .z)))))),?_];refine#[_,y,p,.cr,dp,_,_,y,p1,T.p,T.pH,LF,_,y,?_];have ah:(b=f'\/(b=ij/\own=ij))\/(b=ij/\own=f'):=.h
 rcases ah with(rfl|⟨rfl,rfl⟩)|⟨rfl,rfl⟩;rotate_left 2;.refine iU #[_,y,x,G.Ce,r,_,_,y,C,T.e,T.eA,Y5 _ _ _ _,_,y,_,y,iU ?_];exact k.2 @I H λb o h=>h
 all_goals first
  |refine iQ .gj|refine iU #[_,y,x,G.Ce,r,_,_,y,C,T.e,T.eA,Y5 _ _ _ _,_,y,_,y,iQ ?_]
 all_goals
  refine#[_,y,x,G.Ce,r,_,_,y,C,T.e,T.eO,O6 _ _ _ _,ol,y,.jd x2,.d0 (a:=ol) (xs:=.hE) (λi σ L=>∃I M:.aV,σ=[.fh,.ja p,.ja u,I,M]/\.I/\∀c∈v.take i,Mx.Jv a c) #[e',e',y,(λb o h=>h),@E] (λi σ L _#[_,_,_,U,_]=>@D (.bF x2)) ?_ ?_]
  .rintro i ar σ L hi⟨I,M,rfl,U,aa⟩;rw[jI]at hi;obtain⟨q,hq,rfl⟩:=.M hi;have ai:i<.d2:=by rw[<-D.1];grind
   have B:=mP ai;generalize v[i]=c at B;refine#[q,_,y,.bM (.bF (D.2 i q c hq B)),y,_,_,y,_,_,y,y,?_];have sl:=.bF s1;refine#[_,y,_,y,u,_,y,.jD sl,_,_,y,y,_,y,?_];have aj:(.vd).length=.c1:=by rw[i0,s2.len]
   rw[aj];by_cases au:c.1<.c1
   .rw[iq (show .q4<(a.length:Int)by omega)];ext aa;let#[m,ae]:∃m,a[c.1]? =O m:=.aW
    let#[sa,av,ak]:=s2.get' c.1 m ae;refine#[_,y,_,y,_,y,u,_,_,@h sa,y,y,@D sl,.tx,sa,m,y,ak.keep (.dc U) T,.h,λl H2 nl sm hS=>?_];refine#[l,_,y,.jD hS,y,afv _,_,y,?_];show if kE (@I .qX) (lC m.attrs)=f' then _ else _;rw[aiF];by_cases ab:c.2∈m.attrs
    .rw[iq ab];refine iQ #[_,_,y,.dI sm,λc' af=>?_];rw[.a2 B]at af;rcases k8.mp af with z|z;.grind
     .rw[uK.mp z];exact#[m,ae,ab]
    .rw[ir ab];ext L;refine k.2 .f9 H2 (.dI sm);let#[m',e1,e2]:=z.2 c (kO B);grind
   .rw[ir (show¬.q4<(a.length:Int)by omega)];ext L;refine k.2 .f9 L U;let#[m',e1,e2]:=z.2 c (kO B);grind
  .rintro σ L⟨I,M,rfl,U,aa⟩;rw[i0,D.1,pB]at aa;refine k.1 #[?_,aa] L U;simp
end Tm
namespace L2
open PySem PySem.Spec PyProof.Rows
abbrev Item:=Int⊕@n
def tU(s:.ew):Nat->.L->.E .nE
 |_,[]=>O []|i,.int n::r=>.ot s r|i,.str x::r=>if .k9 then(tU s .ah r).map (kR .kV::·)else e'|_,_::_=>e'
theorem Hq:∀{ys:.L}{us:.Y}(i:Nat),.ac ys us->∀k,tU s i ys=O k->tupItems s i us=O k
 |_,_,i,.nil,k,h=>h|C::ys,u::us,i,.cons r v,k,h=>by
  cases C with
  |int n=>
   ext E;have h:(.ot s ys)=O k:=h;show(if .k9 then e' else(tupItems s .ah us).map .zK)=O k;by_cases w:.k9;.grind
   .rw[.bL]at h⊢;let#[l,D,M]:=.M h;rw[Hq .ah v l D];grind|str x=>
   ext E;have h:(if .k9 then(tU s .ah ys).map (kR .kV::·)else e')=O k:=h;show(if .k9 then(tupItems s .ah us).map (kR .kV::·)else e')=O k;by_cases w:.k9;.rw[.bD]at h⊢;let#[l,D,M]:=.M h;rw[Hq .ah v l D];grind
   grind|_=>cases h
def Ab(a b:.nE):.n:=lexLt itemOrd b a=ij
def ahp(K:jd)(s:.ew):.pi:=λc H Q=>∃(a:U)(ps:@D)(g:U->.nE),c=.ms/\.aB a .eu/\(∀p∈ps,∃y ys,.aJ p (y::ys)/\tU s 0 (y::ys)=O (g p))/\.bh<=@Q/\∀(qs:@D)(p:U),qs.Perm ps->qs.Pairwise (λa b=>Ab (g a) (g b))->.dZ->.bU (.bu p (qs.map .bZ))
theorem MC:.Du
 |[],_,r=>by ext ad|p::ps,_,r=>by
  cases r with
  |cons r v=>cases r;rw[MC v];rfl
theorem MO:∀ps:@D,.ac .eu .eJ
 |[]=>.nil|p::ps=>.J y (MO ps)
theorem UH(h:tU s 0 (C::ys)=O k):(s 0=ij/\∃n,C=.cd)\/(s 0=f'/\∃x,C=@I x):=by
 cases C with
 |int n=>grind[tU]|str x=>grind[tU]|_=>cases h
def addrOf:iB->U
 |.ref a=>a|_=>0
theorem VI(h:l.Perm .eJ):∃qs:@D,qs.Perm ps/\l=.hF:=by
 refine#[@M addrOf,?_,?_]
 .have:=h.map addrOf;rw[kQ]at this;have e:ps.map (addrOf∘jj)=ps:=by rw[show(addrOf∘jj)=id from y,xF]
  grind
 .rw[kQ];have:∀v∈l,(jj∘addrOf) v=v:=λv L=>by have:=h.mem_iff.mp L;obtain⟨p,_,rfl⟩:=@Q .bM;rfl
  rw[oM .bM,acZ]
theorem Mv:sx X .ve (ahp X.K shape):=by
 intro pins s σ H vs us Q I r h;obtain⟨a,ps,g,rfl,hs,hk,hz,q⟩:=h;let#[ae,rv,hl,_]:=.aQ hs;rw[Vals.aac r];have ei:=MC rv;subst ei;have aa:∀p∈ps,zd .O shape .hG=O (g p)/\∃f,TupOf .O shape .hG f:=λp J=>by
  let#[af,ys,D,M]:=hk p J;let#[ag,A,#[o,ho,hc,n,hd],_]:=.bS D;have B:=Hq 0 A _ M;refine .m0;.grind[zd,T2,tupKey]
  .cases A with
   |cons r1 r2=>
    rename_i u ah;refine#[u,p,o,_,n,y,ho,hc,hd,y,.f9,.f9]
    .rcases UH M with⟨_,m,rfl⟩|⟨z2,_⟩;.let#[t,e]:=r1;grind
     grind
    .rcases UH M with⟨z2,_⟩|⟨_,m,rfl⟩;.grind
     .let#[t,e]:=r1;grind
 have Y:∀l:@D,(∀p∈l,p∈ps)->∃w,TupsOf .O shape (@M jj) w:=by
  intro l;induction l with
  |nil=>exact λ_=>#[[],.nil]|cons p l ih=>intro C;let#[w,D]:=ih λp J=>C p (nD _ J);let#[f,M]:=(aa p (C p jO)).2;exact#[f::w,.J M D]
 let#[w,Y]:=Y ps λ_ h=>h;refine G.sorted_tups (shape:=shape) hl.isList Y (λv hv=>?_) .q λk a1 a2 _=>?_;.grind
 let#[ep,ai]:=PyProof.Rows.sortedAll_at .O .eJ .zL;have p1:(.fT).toList.Perm ((.eJ).zip .eJ):=.lw a1
 have p2:((.fT).toList.map .bC).Perm .eJ:=by grind[acw]
 let#[qs,c,L]:=VI p2;have aj:(.zL).toList=.hF:=.aW
 have ab:(.hE).length<=@Q:=by rw[i0,c.length_eq];exact hz
 have ak:∀x∈(.fT).toList,x.1=x.2:=.h
 refine#[@h _,@z .bW (@E .hE),.gq (λ_ _=>PyProof.Rows.sortedAll_old) (Lx _) #[ab,.hF,ep,MO qs,?_],y,q qs _ c ?_ (.ef (Lx _))]
 .have e:.zL=(.hF).toArray:=.h
  grind
 .rw[Fg];intro i j B hj ac;have al:.zM=.d6:=.FX
  have:=a2 i j (vS ac) @h;have T:∀(m:Nat)(hm:m<.d6),KK (LX .O shape) .fT m=g qs[m]:=λm hm=>by
   have am:(.fT).toList.length=.d6:=.lx L
   have an:m<(.fT).toList.length:=.t
   have e1:.fT[m]? =O (.fT).toList[m]:=@E
   have e2:(.fT).toList[m].2=jj qs[m]:=by
    have h3:((.fT).toList.map .bC)[m]? =.hF[m]? :=.j3 L
    grind
   grind[KK]
  rw[T i B,T j hj]at this;ext Q
end L2
namespace PyProof.Rows
open PySem PySem.Spec
abbrev Zf(H:kS)(w:jR)(g:oR->.n)(d:U)(n:Nat)(P:Nat->iB->.n)(k:Nat->.ih):.n:=∀(i:Nat)(m:oR)(c:.cX)(s:iV)(v:iB)(Q:Bool->.dA),g m->i<n->P i v->k i .O->(∀b D x,vT d .O D->k .ah D->.dW<=x->Q b .ka)->wpAny (model H w) m (setAdd d v) Q c s
theorem agJ{R:Result->.dA}{t f:@D}{G:.aN GenState->.aN GenState->.n}{P:Nat->iB->.n}{St:Nat->.dA}{g:oR->.n}(l:g A.in1)(W:WalksS H w A.in1 C t f G n P St)(d:U)(ab:d∉t)(k:Nat->.ih)(h:∀(i:Nat)(s a:iV),Moved f G s a->k i .O->k i a.heap)(one:Zf H w g d n P k):∀(m i:Nat)(s:iV),n-i=m->i<=n->St i s->k i .O->(∀a,Moved (d::f) G s a->k n a.heap->R (.ok (.ret .none)) a)->.eS A (.aj "set.update.loop" #[[.aD,@h C],[]]) R s:=by
 have up:∀b∈f,b∈d::f:=.h
 intro m;induction m with
 |zero=>
  intro i s Y r st j fin;obtain rfl:i=n:=.t
  refine yJ aa4 ?_;rw[Am Rr _];show .np C s;exact iH (W.done s _ _ st λa M=>i6 (fin a (M.mono up) (h _ _ _ M j)))|succ m I=>
  intro i s Y r st j fin;have T:i<n:=.t
  refine yJ aa4 ?_;rw[Am Rr _];show .np C s;refine iH (W.item i s _ _ T st λv J p u M=>?_);show .dA (holding [v] (setAdd d v)>>=_) _ _ J;refine iH (sT (one i _ _ J v _ l T p (h _ _ _ M j) λb D tk sb L x=>?_));have ac:∀c o,c≠d->J.heap.get? c=O o->.b6 c=O o:=λc o B q=>by rw[sb.2 c B];exact q
  refine i6 #[CJ Rr _,I .ah _ @h T (W.frame _ J _ _ u x .q) L λQ aa j3=>?_];exact fin Q (Moved.trans W.gtrans ((M.mono up).then_heap x .q) aa) j3
end PyProof.Rows
namespace PySem
open PyProof.Rows
def uW(led:.ab):jA:={cls:=.q5,dict:=e',data:=.set .cU 0 (.fresh 0 0 led)}
theorem aha(a:iB)(h:Q₁ .db {s with heap:=.a8 (uW (! .hH))}):.eS A (.call (.aj "set.__new__") .zN) (wants Q₁ E) s:=by refine codeAny_of_tree (show .dA (checkBuiltinCall "set.__new__" .zN>>=λ_=>again (.aj "set.__new__" .zN)) _ _ s from ?_);refine iH (CZ (F.newCall_set_1 a) (i6 #[CJ aci _,yJ F.entry_set_new ?_]));rw[Am aci _];have own:=sub_set_self;let#[Q,g,d,x,os]:=s;unfold Builtin.«set.__new__»amf;ext h;wp_walk;refine Fu .cH;ext h;simp only[newObj];exact iH (wpAny_alloc (i6 (i6 h)))
set_option maxHeartbeats 3200000 in
theorem XN{E:.cX}{xs:.gT}{Q:.cX}{U:oR->.n}(u:U A.in1.in1.in1)(k:Nat->.ih)(B:.dY)(L:.gs xs)(j0:∀(led:.ab)(D:jo),led=(! .hH)->.vf->.b6 @L=O .zO->k 0 D)(T:∀(i:Nat)(h D:jo),(∀b o,b<=@L->.jH b->.h7)->k i h->k i D)(one:Zf aa w U @L .cO (λi v=>.mA i v) k)(fin:∀(D:jo)(x:Nat),k .cO D->(∀b o,b<@L->.pa)->Q .db .ka):wpAny (model aa w) A (call .q5 [.cw]) Q E s:=by
 let#[c,tl,af]:=yW.mro;have made:=yW.made;have sub:=yW.sub;refine TV (codeAny_of_tree ?_);show .aw (callAny .q5 _) _ _ _;refine i6 #[Code.quiet_builtin _ @I,yJ F.entry_type_call ?_];rw[Around.under_plain (weight_type_call_type "set" [.cw] []) y];have f1:=yW.notType;have f2:=yW.canCreate;have f3:=F.typeCall_set_1 .d0;ext aY
 refine CP (aha .d0 (E:=E) (Q₁:=λv m=>∃led:Bool,led=(! .hH)/\v=.fF/\m={s with heap:=.la}) #[_,y,y,y]) λr m J=>?_;match r,J with
 |.error e,J=>exact J
 |.ok (.ret v),J=>
  obtain⟨led,ag,rfl,rfl⟩:=J;have g0:(.la).get? @L=O .zO:=.cG;have ty:Shared.TypeIs {s with heap:=.la} .db "set":=#[_,g0,y];have g1:=yW.init.lookup;have g2:=yW.init.bind .db;ext aY
  refine CP (codeAny_call_builtin (R:=wants (λv g=>v=.none/\∃D x,g=.ph s D x/\k .cO D/\∀b o,b<@L->.pa) E) yW.init.plain F.entry_set_init (check_set_init_1 ty ?_)) λr2 g H=>?_
  .let#[#[oc,od,ot,os],Y,C,I,a]:=L;simp only at C a;subst C;subst a;have g4:(.la).get? l=O {cls:=.dU,dict:=od,data:=.seq xs I,slots:=os}:=kZ _ Y;have ah:=F.sub_list_set;have ai:=F.sub_list_frozenset;have aj:(.p5==vV "dict")=ij:=.b0
   have p:(.la).IsList l xs:=#[_,g4,y,I,y];unfold Builtin.«set.__init__»noKeywords ame;generalize ab:pyIter=PI;wp_walk;subst ab;refine Kp p (iH (wpAny_runValue ?_));have lt:l<@L:=jZ Y;have f:(.la).objs.size=@L+1:=uP _ _;have nI:l≠(.la).objs.size:=.h
   refine agJ u ((Walks.list (by simp[B]:A.in1.in1.in1.handled=e') _ l nI xs).toS) @L (by rw[f];simp only[kc,uK,R5,or_false,not_or];exact#[mT (Aq _),yV lt]) k (λi m g M q=>T i _ _ (λb o t e=>M.heap b o (by rw[f];simp only[kc,R5,or_false];exact mT (Nat.lt_succ_of_le t)) e) q) one (.cO-0) 0 _ @h .au #[.es,p.push _] .bU λs' M j=>?_;let#[D,g',d',ac,ae]:=s';obtain rfl:g'=s.gens:=M.gens;obtain rfl:d'=s.drawn:=M.drawn;obtain rfl:ae=s.os:=M.os;show .aw _ _ _ _;refine .cH;show .aw (ret pX) _ _ _;refine i6 #[y,D,ac,y,j,λb o t e=>M.heap b o ?_ .bU];grind
  .match r2,H with
   |.error e,H=>exact H
   |.ok (.ret v),H=>
    obtain⟨rfl,D,x,rfl,j,ak⟩:=H;ext aY
    grind
   |.ok .next,H=>omega
   |.ok .brk,H=>omega
   |.ok .cont,H=>omega
 |.ok .next,J=>omega
 |.ok .brk,J=>omega
 |.ok .cont,J=>omega
end PySem
namespace L2
open PySem PySem.Spec PyProof.Rows
def SJ(P:kS)(w:jR)(d:U)(a:.bX)(i:Nat)(h:jo):.n:=∃(S:iA->Bool)(n:Nat),h.SetOf (FL P w) d S n/\(∀k,S k=f'↔k∈a.take i)/\n<=i/\(n=i↔(a.take i).Nodup)
theorem G7{α:Type}{l:.aA}{x:α}(h:.kO):.bY .ah=.bY i++[x]:=by rw[RU,h];rfl
theorem Yh:∀{w:.bX}{us:.Y},.ac (.aE V.str) us->.cQ=.bJ/\∀(i:Nat)(u:iB),us[i]? =O u->∃x t,w[i]? =O x/\u=@I x t
 |[],_,r=>by cases r;simp|n::w,_,r=>by
  cases r with
  |cons r v=>ext E;let#[D,M]:=Yh v;grind
theorem afP{e:.aB}{L:TE}{p1 r M c:Pos}(hc:.en)(ac:X.mg "len"=e')(ae:X.mg "set"=e')(he:.ao L)(af:Gl X "len":=by rfl)(ag:Gl X "set":=by rfl)(T:.bH [.vg] .M=(ij,.av .vg .M)::.gk:=by rfl)(aa:.kA=.fE::.gk:=by rfl):.H (.an (.Name "len" p1) [.vg] [] M) (λσ H Q=>L σ H λv B=>∃(l:U)(w:.bX),v=.cw/\iD X.K B l (.aE V.str)/\.bJ+1<scanBound/\∀m:Nat,(m=.bJ↔w.Nodup)->Q (.h m) B):=by
 ext q;refine uJ (uj I af ac lN ?_ .E .E);refine J6 ?_ T .z;rw[T];show .mR ((ij,.av .vg .M)::.c2 M .gk) s;refine uL ?_;refine .qu I ag ae;refine Ai ?_ aa .z;rw[aa];show .mR (.fE::.c2 c .gk) s;refine uL (iW (he @t s σ H _ I h) λu s1#[x,B,D,r1,q1]=>vM ?_);obtain⟨l,w,rfl,hs,hb,q⟩:=q1;cases r1;let#[ah,rv,hl,_]:=D.list hs;let#[ai,aj]:=Yh rv;refine PySem.XN (U:=λ_=>True) .dE (SJ .bI X.w s1.heap.objs.size w) (D.ok.hd hc) hl.isList (λled g _ _ hg=>?_) (λi h1 h2 hk#[S,n,Y,a,f,J]=>#[S,n,?_,a,f,J]) (λi A' E' s2 v Q' _ hi hv#[S,n,Y,a,f,J]fin=>?_) λg tk#[S,n,Y,a,f,J]an=>?_;.refine#[λ_=>ij,0,(PyProof.Rows.setObjOf_fresh (knd:=.vh) led).setOf hg @h,@E,.bV,@E]
 .let#[o,es,ep,t,p,ak]:=Y;exact#[o,es,ep,t,hk _ _ .ba p,ak]
 .obtain⟨C,t,A,rfl⟩:=aj i v (by rw[<-hv];simp);have ao:i<.bJ:=.jQ A;unfold setAdd;have ab:(.vh).is C (@I C t)=f':=by show KY C (@I C t)=f';simp[KY]
  refine sT (iH ((.vh).pyHash (k:=C) ab ?_));refine wpAny_setAddHashed_of (knd:=.vh) (s:={s2 with toks:=s2.toks+1}) ab y Y @h λg sb b1=>?_;refine fin _ g _ sb #[_,_,b1,λk=>?_,?_,?_] (Lx _);.rw[G7 A,k8,uK,yO,decide_eq_true_iff,a]
  .grind
  .rw[G7 A];grind
 .have al:ah.toArray.size=.bJ:=by simp[ai]
  rw[al]at a f J;rw[pB]at J;let#[o,es,ep,t,p,am,hd,_,_,ap,hf,hn]:=Y;refine vM ?_;subst hn;refine PySem.call_len_set p am hd hf (by grind[scanBound]) ?_;exact#[.h _,B,(D.kept (by grind[jZ])).tok _,.br,q _ J]
end L2
namespace Tm
open PySem PySem.Spec PyProof.Rows L2
def cut(D:U)(H:Hp):Hp:=λb=>if b=D then e' else H b
theorem rD(h:b≠D):.be H b=H b:=.zP
theorem tA(D:U)(H:Hp):iu .lb H:=λb o e=>by
 unfold cut at e;split at e;.cases e
 .exact e
theorem DK(s:.I):iu .lb (.be L):=λb o e=>by
 unfold cut at e⊢;split at e;.cases e
 .rename_i h;rw[il h];exact s b o e
theorem Pw:.be (@z D o)=.be H:=by grind[cut,iC]
theorem GA{α:Type}{l:.aA}{x:α}(p:α->Bool)(h:.kO):(.bY .ah).filter p=(.bY i).filter p++(if p x=f' then[x]else[]):=by rw[.a2 h,RK];grind
def Made(R:.nF)(p:.gW)(D:U)(B:Hp)(xs:.L)(i:Nat)(H:Hp):.n:=iu B H/\∃ys,.q6/\iX (R .lb) ((xs.take i).filter p) ys
theorem Made.zero(r:.gc):.dd xs 0 (.bI D .ap):=#[@t r,[],iG,.nil]
theorem Made.yes{D:U}{B:Hp}{R:.nF}{p:.gW}(f:.nH)(r:.gc){H T:Hp}{x C:V}(M:.dd xs i H)(v:.fv)(s:.I T)(Q:p x=f')(g:.zQ)(c:.fw):∃acc,T D=O (@E acc)/\.kz<@Q/\.dd xs .ah (.pa T D (acc++[C])):=by
 let#[m,ys,h,a]:=M;refine#[ys,.ae h,?_,.cx,ys++[C],iG,?_];.rw[<-a.len];grind
 .rw[.mc e r];exact .pd s m e
 .rw[Pw,GA p v,ip Q];exact(a.imp .vi).snoc g
theorem Made.no{D:U}{B:Hp}{R:.nF}{p:.gW}(f:.nH){H T:Hp}{x:V}(M:.dd xs i H)(v:.fv)(s:.I T)(Q:p x=ij):.dd xs .ah T:=by let#[m,ys,a,c]:=M;refine#[m.trans s,ys,.ae a,?_];rw[GA p v,.jw Q,t8];exact c.imp .vi
theorem Made.all(M:.dd xs .ag H):iu B H/\∃ys,.q6/\iX (R .lb) (xs.filter p) ys:=by grind[Made]
theorem oP{a D:U}{g:TG}{w:TT}{q:TE}{c:@n}{σ:L2.St}{B:Hp}{t:.aq}(R:.nF)(p:.gW)(r:.nH)(u:.gc)(hl:.s2)(hz:.fw)(step:∀(i:Nat)(x:V)(L:Hp)(A:.gQ)(Kn:.aq),.fv->iu B L->.vj->(∀C T,iu L T->p x=f'->.zQ->A C T)->.FY->.f0 λl I=>.mx l c/\w l I λb h=>if b=f' then q l h A else Kn h)(hd:∀f ys,iu B f->f D=.ji ys->iX (R (.be f)) (xs.filter p) ys->t f):∃W:.gY,.gZ/\.FZ:=by
 refine OX (.dd xs) (Made.zero u) .F0 (λi x H v M=>?_) λH M=>?_;.exact step i x H _ _ v M.1 (by let#[_,ys,y,_]:=M;grind) (λC T s Q J=>M.yes r u v s Q J hz) (λh s Q=>M.no r v s Q)
 .let#[Y,ys,y,h2]:=M.all;grind
def Yj(G:Gc):Sp:=λg H Q _=>∃(u:U)(a:Mx.jv)(s:.cg),g=[.fS]/\wK G H u (a::s)/\(∀m∈a::s,.gn<=4)/\.bw<=1000/\∀l qs L,.I->L l=.hz->o7 L qs (Mx.rp (a::s))->.dc->.ez
def BJ(c:Nat)(H:Hp)(x C:V):.n:=∃(q:U)(p:@n),x=.jj p/\C=@h q/\H q=.kr (c,p)
theorem BJ.mono(c:Nat)(H L:Hp)(x C:V)(s:.I)(h:BJ c H x C):BJ c L x C:=by let#[q,p,D,M,r]:=h;exact#[q,p,D,M,.ae r]
theorem UA:∀{ns:.aJ}{ys:.L},iX (BJ c H) (lC ns) ys->∃qs:@D,ys=.hE/\.dY (ns.map λa=>(c,a))
 |[],_,h=>by cases h;exact#[[],y,y,@E]|n::ns,_,h=>by
  cases h with
  |cons h t=>
   obtain⟨q,g,D,rfl,r⟩:=h;obtain⟨qs,rfl,B⟩:=UA (ns:=ns) t;have:n=g:=.vl;ext Y;refine#[q::qs,y,by simp[B.1],λi p k Q f=>?_];cases i with
   |zero=>cases Q;cases f;exact r|succ i=>exact B.2 i p k Q f
theorem o7.append(h:o7 H ps v)(k:.dY a):o7 H (ps++qs) (v++a):=by
 refine#[by simp[h.1,k.1],λi p c Q B=>?_];by_cases t:i<.bh;.rw[Aj t]at Q;rw[.Fd]at B;exact h.2 i p c Q B
 .rw[xh @h]at Q;rw[xh (by rw[<-h.1];omega),<-h.1]at B;exact k.2 _ p c Q B
theorem mU(l:.aA):l.filter .bF=l:=@E
theorem UU(k:Nat)(m:.qW):∀l:.cg,Mx.o4 k (l++[m])=Mx.o4 k l++m.downs.map λa=>(k+.ac,a)
 |[]=>by simp[Mx.o4]|x::l=>by show Mx.o4 k (x::(l++[m]))=_;unfold Mx.o4;rw[UU .a4 m l,rP,lH,show k+1+.ac=k+(.ac+1)by omega]
theorem Bc:jb ["places","occurrences","place","name"] .vm (i4 Qg):=.J
theorem ahw{G:Gc}(F:.D "to_be_defined" Qg f fd)(T:.dn)(ak:.fO)(al:mg "range"=e'):@H az .dL 1 f fd .vm (Yj G):=by
 refine .t Bc λaA A aB s H vs Q E hr h=>?_;obtain⟨u,m0,M,rfl,⟨ss,s1,r⟩,hm,hl,k⟩:=h;refine#[_,iy (ue (i:=1) y Bc.nd y y .z (kJ (iL .fc y)) (.kE 3) .F1 .bA (λ_ _ _ _ _=>l7 (Y iY .nI))) (iy (.bo (afO .z al (Y iY (Y (.mu ak 0) iw))) (.bZ Bc.nd y .fH) (.kq (.f1 @M (Y (lX y Bc.nd (kJ (iL (.ax .ae .ad .ai) y)) (.kE 3) .F1 .bA (λ_ _ _ _ _=>l7 .q7)) iw)))) .zC),?_];cases r with
 |cons am r=>
 rename_i s0 ss;let#[dx,dl,ul,h1,h2,h3]:=am;have a0:m0.ups.length<=4:=by grind[jO,Mx.jv.attrs]
 have ag:∀(c:Nat)(cv:V)(B:Hp)(I:U)(ns:.aJ)(σ:L2.St)(te:TE)(Qd:U->.aq),cv=.h c->qb B I ns->ns.length<=4->(∀(x:V)(L:Hp)(l:.gQ),(∀t,L t=e'->l .ml (.aD t (@L [cv,x])))->te ((.aW [3]).set 3 (O x)) L l)->(∀D v qs,.gc->iu B v->v D=.hz->o7 (.be v) qs (ns.map λa=>(c,a))->Qd D v)->σ.length=4->∀D,.gc->∃W:.gY,.gZ/\∀i m H,.ko->((ql K I).stop i H/\Qd D H)\/((ql K I).go i H/\∃Nx:.aq,(∀L,Nx L->.zR)/\∀x L,(ql K I).pq i H x L->qR 3 x (.aW [3]) L λσ2 H2=>wipe σ2 [3]=.aW [3]/\QS σ2 H2 λb H3=>if b=f' then te σ2 H3 λan H4=>.rm H4 D Nx (acc++[an])else Nx H3):=λc cv B I ns σ te Qd ao hS ap aq aC hσ D hD=>by
  subst ao;refine oP (BJ c) .bF (BJ.mono c) hD (@D hS) (.lc ap) (λi x L l Kn hx g ah hy hn=>?_) λv ys sf ai hA=>?_
  .unfold lC at hx;rw[jI]at hx;obtain⟨nm,aD,rfl⟩:=.fU;let#[ys,ah]:=ah;refine .m0;.match σ,hσ with
    |[a,b,c,d],_=>rfl
   .show if f'=f' then te _ L l else Kn L;refine iQ (aq _ L l λt C=>?_);have ar:t≠D:=.h
    exact hy .ml _ (@t C) y #[t,nm,y,y,by rw[rD ar,iG];rfl]
  grind[mU,UA]
 refine#[_,y,u,_,_,@h s0,y,y,@D s1,.fP,s0,G.Cy,dx,_,_,y,h1,T.y,T.yU,Ye,ul,y,.jd h3,ag 0 .fg H ul m0.ups [.ja u,e',e',e'] _ _ y h3 a0 (λx L l kt=>#[_,y,.fd,λt C=>kt t C]) (λD v qs hD sf ai ho=>?_) y];refine#[_,y,u,_,y,.jD (sf _ _ s1),1,_,y,#[.b0,.b0,.t,?_],agI (lo:=1) (n:=_) (λi σ L=>∃(v2:.aV)(qs:@D),σ=[.ja u,.ja D,v2,e']/\.I/\L D=.hz/\o7 (.be L) qs (m0.ups.map (λa=>(0,a))++Mx.o4 1 (M.take i))/\.d6<=4+4*i) #[e',qs,y,sf,ai,by grind[Mx.o4],by rw[ho.1,i0];omega] (λi σ L hi P=>?_) λσ L P=>?_];.have:=r.len;grind
 .ext cy
  rw[hn]at hi;let#[m,ac]:∃m,M[i]? =O m:=.aW
  let#[si,aE,av,aj,aF,g1,g2,g3]:=r.get' i m ac;have e1:(1+.m8)=((1+i:Nat):Int):=.t
  rw[e1];have b0:m.downs.length<=4:=by have:=hm m (nD _ (kO ac));unfold Mx.jv.attrs at this;rw[j9]at this;omega
  refine#[_,y,.jl aa,_,y,_,y,u,_,_,@h si,y,y,.mv g s1,at_of (j:=i+1) @h .q,si,G.Cy,av,_,_,y,.b1 g1,T.y,T.yD,Vf,aj,y,.jd (.b1 g2),ag (1+i) (.jn (1+i:Nat)) L aj m.downs [.ja u,.ja D,O (.jn (1+i:Nat)),e'] _ _ y (.b1 g2) b0 (λx L l kt=>#[_,y,_,y,.fd,λt C=>kt t C]) (λD2 aG aw aH ae ax af=>?_) y];have ay:=ae _ _ aa;refine#[D,D2,_,_,y,y,ay,ax,?_,_,qs++aw,y,.cx,?_,?_,by rw[j9,af.1,i0];omega];.rw[i0,i0,af.1,i0];exact ja (show .d6+m.downs.length<=8000 by omega) .E
  .rw[.mc e hD];exact .pd ae g e
  ext ac
  .rw[Pw,.a2 ac,UU,<-rP,Fy,Nat.min_eq_left (vS hi)];exact(ab.same λp xs q=>DK ae _ _ q).append (af.same λp xs q=>by have:=.nJ;grind[rD])
 .ext cy
  rw[hn,pB]at ab;refine .cL;exact k D qs L g aa (ab.same λp xs q=>.nJ) hD
def aap:.L->.eE
 |[.int n,.str x]=>(n.toNat,x.cps.toList)|_=>(0,[])
theorem aio(c:.eE):aap (uE c)=c:=.Q
def vA(H:Hp)(p:U):.eE:=match H p with
 |O (.tup ys)=>aap ys|_=>(0,[])
theorem Jo(h:H p=.kr c):vA H p=c:=by grind[vA,aio]
theorem o7.map(h:.dY v):v=.d1 (vA H)/\.F2:=by
 have a:∀(i:Nat)(p:U),qs[i]? =O p->∃c,v[i]? =O c/\H p=.kr c:=λi p Q=>by
  have t:i<.d2:=by rw[<-h.1];grind
  exact#[v[i],@E,h.2 i p _ Q @I]
 ext n;.ext ay;rw[jI];cases g:qs[i]? with
  |none=>
   have:.d2<=i:=by rw[<-h.1];grind
   grind|some p=>grind[Jo]
 .intro p Q;let#[i,t]:=.aG Q;grind[Jo]
def yt(c:.eE):.nE:=[iO .q4,kR c.2]
theorem ah5(h:yt a=yt b):a=b:=by grind[yt]
def Rf:.ew:=λi=>i==1
theorem Xt(c:.eE):tU Rf 0 (uE c)=O (yt c):=.Q
theorem adf(D:Ab a b)(M:Ab b a):a=b:=lex_total (O:=itemOrd) a b (show lexLt itemOrd a b=ij from M) (show lexLt itemOrd b a=ij from D)
theorem Su{α:Type}{r:α->α->.n}(A:∀a b,r a b->r b a->a=b):∀{l m:.aA},l.Perm m->l.Pairwise r->m.Pairwise r->l=m
 |[],m,p,_,_=>.aW|a::l,[],p,_,_=>.aW|a::l,b::m,p,D,M=>by
  have e:a=b:=by
   have c:a∈b::m:=.h
   have f:b∈a::l:=.h
   rcases kc.mp c with rfl|c;.rfl
   .rcases kc.mp f with rfl|f;.rfl
    .exact A a b .aW .aW
  subst e;rw[Su A (List.Perm.cons_inv p) (An.mp D).2 (An.mp M).2]
def o9(c:.eE):wt:=.tuple [.h .q4,@I .qX]
theorem XO:∀v Q:.kZ,CO .jd (Q.map o9)=.q (v=Q)
 |[],[]=>y|[],d::Q=>.Q|c::v,[]=>.Q|c::v,d::Q=>by
  rw[j6,j6];show(GI (o9 c) (o9 d)&&CO .jd (Q.map o9))=_;rw[XO v Q];have e:GI (o9 c) (o9 d)=.q (c=d):=by show(((.q4==(d.1:Int))&&((txt c.2==txt d.2)&&f')))=_;grind[tf]
  grind
theorem Xr:∀v:.kZ,(∀c∈v,.ja)->CA .jd=f'/\CF .jd<=1
 |[],_=>#[y,.au]|c::v,h=>by
  let#[D,M]:=Xr v .q;rw[j6];refine .m0;.show(PyData.canLay0 (o9 c)&&CA .jd)=f';rw[D,Bool.and_true];show(f'&&(K' .qX&&f'))=f';rw[h c jO];rfl
  grind[PyData.depth,o9,CF]
theorem S6(v:.kZ)(h:∀c∈v,.ja):CT (.list .jd)=f':=by let#[D,M]:=Xr v h;show(CA .jd&&.q (CF .jd+1<=64))=f';grind
theorem O':∀qs:@D,.F2->yn K H .hE ((.d1 (vA H)).map o9)
 |[],_=>.nil|q::qs,h=>.J (@L (.bM (h q jO)) (.ld (@I _))) (O' qs .q)
theorem V6:∀(l:.cg)(k:Nat),(∀m∈l,.gn<=4)->(Mx.o4 k l).length<=4*.ac
 |[],_,_=>.au|m::l,k,h=>by have D:=V6 l .a4 .q;grind[jO,Mx.jv.attrs,Mx.o4]
theorem ae9(h:∀m∈Q::s,.gn<=4)(L:.bw<=1000):.mf Mx.rp (Q::s)<=@Q:=by have D:=V6 s 1 .pZ;have M:=h Q jO;unfold Mx.jv.attrs at M;rw[j9]at M;show(Q.ups.map (λa=>(0,a))++Mx.o4 1 s).length<=_;rw[j9,i0];exact .jL 8000
def En(H:Hp):V->V
 |.ref r=>match H r with
  |O (.ins _ _ w)=>(.cs .uZ).getD .iM
  |_=>.iM
 |_=>.iM
def pT(H:Hp)(x:V):.ab:=! .q (En H x=.iM)
theorem SI{G:Gc}:∀{rs:@D}{g:.qY},iX (x9 G H) rs g->∃qs:@D,((.bP .bZ).filter (pT H)).map (En H)=.hE/\.dY .zS
 |_,_,.nil=>#[[],y,y,@E]|r::rs,m::g,.cons h t=>by
  let#[qs,D,a]:=SI t;let#[l,M,x,g1,w,u]:=h;have e:En H .nu=M:=by show(match H r with|O (.ins _ _ k)=>(k.lookup .uZ).getD .iM|_=>.iM)=M;rw[g1];rfl
  rw[j6,R6];cases v:m.target with
  |none=>rw[v]at w;have w:M=.iM:=w;grind[pT]|some c=>
   rw[v]at w;obtain⟨q,rfl,f⟩:=w;have ep:pT H .nu=f':=by grind[pT]
   rw[ep,xj,v];refine#[q::qs,?_,?_];.grind
   .refine#[by simp[a.1],λi p s Q B=>?_];cases i with
    |zero=>cases Q;cases B;exact f|succ i=>exact a.2 i p s Q B
theorem DM:∀{l:.aA}{ys:.ei},iX (λx C=>C=f x) l ys->ys=@M f
 |_,_,.nil=>y|_,_,.cons h t=>by rw[j6,<-DM t,h]
def ajN(G:Gc)(H:Hp)(p:U)(g:.qY):.n:=∃a n l h Q w rs,H p=O (.ak .cr a (prodF n l h Q w))/\H w=.jT rs.map/\iX (x9 G H) rs g
def Zz(G:Gc):Sp:=λf H Q E=>∃(p u:U)(g:.qY)(a:Mx.jv)(s:.cg),f=[.e5,.fS]/\ajN G H p g/\.cZ<=4000/\wK G H u (a::s)/\(∀m∈a::s,.gn<=4)/\.bw<=1000/\(∀c∈.zS,.ja)/\(∀c∈Mx.rp (a::s),.ja)/\D1 G.C ((.zS).Perm (Mx.rp (a::s))) H Q E
theorem boot_sorted:.b8 "sorted"=O .ve:=.Q
theorem PQ:jb ["production","places","targets","rule"] .vn (i4 LR):=.J
theorem ajk{G:Gc}(F:.D "check_targets" LR f fd)(T:.dn)(ab:mg "sorted"=e')(Gd:.rj ac 1 aE aF)(Gt:.L ac G.C "to_be_defined" 1 .vm (Yj G) ft aG):@H ac .dL 2 f fd .vn (Zz G):=by
 refine .t PQ λaH A aI s H vs Q E hr h=>?_;obtain⟨p,pl,aa,m0,ms,rfl,⟨dx,pn,aJ,ph,cl,rl,rs,h1,h2,h3⟩,hl,hS,hm,am,an,ao,k⟩:=h;refine#[_,iy (.ew (tt:=tB (ZU (nh K .gm "target"))) (te:=nh K .gm "target") y PQ.nd y y .z (kJ .aE) (.jK ("rule",3)) (λ_ _ _ _ _=>.a3 PQ.nd y @q) (.kG (OM (.jg 3))) (.kU 3)) (.jx (.py Gd hr (pG (akb hr.units) (.hH .iP) (.hH (Y (n8 Gt hr .dI) iw)) .z))),?_];let#[qs,e1,e2]:=SI h3;refine#[_,y,p,.cr,dx,_,_,y,h1,T.p,T.pR,LD,rl,y,.jd h2,λD hD=>oP (λ_ x ap=>ap=En H x) (pT H) .b9 hD (@D h2) (.m8 h3.len hl) (λi x L Ky Kn hx sm aK hy hn=>?_) λv ys sf aq hA=>?_]
 .rw[jI]at hx;obtain⟨r,ar,rfl⟩:=.fU;let#[m,aL,ae,tv,xx,g1,g2,g3]:=h3.get i r ar;have e:En H .nu=tv:=by show(match H r with|O (.ins _ _ fs)=>(fs.lookup .uZ).getD .iM|_=>.iM)=tv;rw[g1];rfl
  refine#[y,_,y,r,G.Cu,ae,_,_,y,.bz g1,T.u,T.uT,SQ,_,y,?_];by_cases ht:tv=.iM;.grind[iu.refl,pT]
  .rw[ir ht];refine iQ #[_,y,r,G.Cu,ae,_,_,y,.bz g1,T.u,T.uT,SQ,.d2 ?_ e.symm];grind[pT]
 .have af:=DM hA;rw[e1]at af;subst af;let#[m1,m2]:=e2.map;have hq:∀(L:Hp),.I->∀p∈qs,L p=.kr (vA H p):=λL s p g=>.ae (m2 p g);refine#[_,y,D,qs,λp=>yt (vA H p),y,@D aq,λp g=>#[_,_,.bM (hq v sf p g),Xt _],?_,λt C aM au av=>?_]
  .have aw:.d6<=aa.length:=by grind[List.length_filterMap_le]
   exact ja aw (.ju hl)
  have s1:iu v .zT:=@t av;have ag:wK G .zT pl (m0::ms):=hS.keep (sf.trans s1) T;have ah:upd v C (@E (t.map .bZ)) C=.jT t.map:=iG;have ai:=sf.trans s1;generalize .zT=H1 at ag ah ai⊢;refine#[_,y,pl,m0,ms,y,ag,hm,am,λl ax I aj ay az nl=>?_];obtain⟨n1,n2⟩:=az.map;refine#[l,ax,λp=>yt (vA I p),y,@D ay,λp g=>#[_,_,.bM (n2 p g),Xt _],?_,λu M aA aB aC=>?_];.grind[ae9]
  have s3:iu I .zU:=@t aC;have ak:.az M (@E (u.map .bZ)) M=.jT u.map:=iG;have sA:.I .zU:=.pb ai.trans aj s3;have al:=.pd s3 aj ah;generalize .zU=U at s3 ak sA al⊢;have v1:.qv t p H:=by grind[Jo]
  have v3:.qv u p I:=λp g=>by have h5:=s3 _ _ (n2 p (aA.mem_iff.mp g));grind[Jo]
  have c1:(.vo).Perm .F3:=by grind[oM]
  have c3:(.vp).Perm (Mx.rp (m0::ms)):=by grind[oM]
  refine#[_,_,@E (@D al) (O' t λp g=>(v1 p g).1),@E (@D ak) (O' u λp g=>(v3 p g).1),S6 _ λc B=>an c (c1.mem_iff.mp B),S6 _ λc B=>ao c (c3.mem_iff.mp B),?_];refine .cL;show if CO ((.vo).map o9) ((.vp).map o9)=f' then _ else _;rw[XO];have aD:.vo=.vp↔(.F3).Perm (Mx.rp (m0::ms)):=by
   ext n;.grind
   .intro q;refine Su (r:=λa b=>Ab (yt a) (yt b)) (by grind[ah5,adf]) .q ?_ ?_;.rw[vL];refine au.imp_of_mem λha hb h=>?_;grind
    .rw[vL];refine aB.imp_of_mem λha hb h=>?_;grind
  by_cases B:.vo=.vp;.rw[iq B];exact iQ (k.1 (aD.mp B) U sA)
  .rw[ir B];exact iU (k.2 .q U sA)
theorem mY{f:TE}{σ:L2.St}{H:Hp}{q:.gQ}{k:.aq}(h:.c3 q):QS σ H λb a=>if b=f' then f σ a q else k a:=(iQ h:if f'=f' then .c3 q else k H)
def vn(F:.aJ):.aI:=F.map λn=>((.jR n:Key),V.bl f')
theorem V0(F:.aJ)(n:@n):(jN (vn F) .nK).isSome=.q (n∈F):=by unfold vn;rw[Ow (λc:List Nat=>c) (λ_=>V.bl f') n F,Ao,yP,List.find?_isSome,decide_eq_true_iff];simp
theorem agH{F:.aJ}{n:@n}(h:n∉F):putK (vn F) .nK (.bl f')=vn (F++[n]):=by
 unfold putK;rw[il];.grind[vn]
 .intro q;let#[m,D,M]:=Fz.mp q;unfold vn at D;obtain⟨x,v,rfl⟩:=@Q D;have:=.kd M;rw[tf.mp (C0 .bM)]at v;exact h v
def InR(F:.aJ)(_:Hp)(x C:V):.n:=∃p,x=.jj p/\C=.j6 (p∈F)
theorem in_list{F:.aJ}:∀{ns:.aJ}{ys:.L},iX (InR F H) (lC ns) ys->ys=(ns.map λn=>.q (n∈F)).map V.bl
 |[],_,h=>.ge|n::ns,_,h=>by
  cases h with
  |cons h t=>obtain⟨p,D,rfl⟩:=h;rw[in_list (ns:=ns) t,<-.vl];rfl
def Ze(P:.aP)(F:.aJ):.n:=∀p∈P,(∀k∈p.kids,k∈F)->p.left∈F
theorem afa{P:.aP}{F:.aJ}(h:Ze P F){n:@n}(t:Mx.wq P n):n∈F:=by
 induction t with
 |node p Q _ I=>exact h p Q I
theorem Dm{F N:.aJ}(v:F.Nodup)(w:∀n∈F,n∈N):F.length<=.mj:=by
 induction F generalizing N with
 |nil=>simp|cons a F I=>have p:=w a jO;let#[k,h]:=rg.mp v;have D:=I (N:=N.erase a) h λn f=>(List.mem_erase_of_ne (λq:n=a=>k (.my q f))).mpr (w n (nD _ f));have M:=List.length_erase_of_mem p;have r:0<.mj:=List.length_pos_of_mem p;rw[lH];omega
theorem aeR{F N:.aJ}(v:F.Nodup)(w:∀n∈F,n∈N)(g:N.Nodup):F.length=.mj↔∀n∈N,n∈F:=by
 ext n;.intro h n f;apply Rp;intro a;have:=Dm (F:=n::F) (N:=N) .q .q;grind
 .intro h;exact acd (Dm v w) (Dm g h)
def ZO(G:Gc)(H:Hp)(u:U)(P:.aP):.n:=∃ps:@D,H u=.hu/\iX (tH G H) ps P
def Yp(G:Gc):Sp:=λg H Q E=>∃(u t:U)(P:.aP)(v:.aJ)(kvs:.aI),g=[.fS,@h t]/\ZO G H u P/\H t=O .c0/\.aN=.d2/\v.Nodup/\(∀p∈P,p.left∈v)/\(∀p∈P,.dG<=4000)/\.d2<=4000/\P.length<=4000/\D1 G.C (∀n∈v,Mx.wq P n) H Q E
theorem boot_all:.b8 "all"=O (.aj "all"):=.Q
theorem xS:jb ["productions","symbols","found","grows","production","name"] .jf (i4 Nj):=.J
theorem ahJ{w:jR}{ae:jo}{G:Gc}{f an:U}{fd ao:iZ}(F:.D "check_trees" Nj f fd)(T:.dn)(af:.fO)(ap:mg "all"=e')(Gd:.rj ae 1 an ao):@H ae .dL 2 f fd .jf (Yp G):=by
 refine .t xS λaD A aE s H vs Q E hr h=>?_;obtain⟨u,t,r,v,kvs,rfl,⟨ps,ag,ah⟩,aq,ar,hN,aF,au,av,aG,k⟩:=h;ext am;refine#[_,iy (.ag xS.nd y .fH DE) (iy .zV (iy (.bv (kW .ak) (iy .zV (iE (.bo .kW (.ev xS.nd y @q) (iE (jh (.mT (tF (AV hu (.jg 4) .ad)) (Bf (kW (kA (Qr y) .z ap boot_all (Y (lX (te:=EH (i9 5) (i9 2)) y xS.nd (kJ (.jg 4)) (.kE 5) (λ_ _ _ _ _=>.dJ xS.nd y @q) .bA (λ_ _ _ _ _=>Je (Jf hu .cq .ad))) iw))))) (iy (zx hu .ad (.jg 4) vq y) (iE .zV)) jn)))))) (.jx (.py Gd hr (pG mH (.d3 af lN .iP) (.d3 af lN .dI) .aw))))),?_];intro d hd;let I:.aJ->.aq:=λa L=>.I/\L d=.jo (vn a)/\a.Nodup/\(∀n∈a,Mx.wq r n)/\(∀n∈a,n∈v);let W:.cp:=λm σ L=>∃(b:Bool)(a:.aJ)(g:.aV),.F4/\m=2*(.d2-.c1)+(if b=f' then 1 else 0)/\I a L/\(b=ij->Ze r a);refine .jY #[_,f',[],e',y,y,#[@t hd,iG,yR,@E,@E],.i4];rintro m σ L⟨b,a,g,rfl,rfl,⟨sm,aw,aH,aI,aJ⟩,aK⟩;refine .qT;cases b with
 |false=>
  ext L;refine#[_,y,d,_,y,aw,_,y,t,_,y,.bz aq,y,_,y,?_];have ax:.c1=.d2↔∀n∈v,Mx.wq r n:=by grind[aeR,afa]
  have e1:(vn a).length=.c1:=by grind[vn]
  rw[e1,ar];by_cases hc:.c1=.d2;.rw[iq (show .F5 by rw[hc])];exact iQ (k.1 (ax.mp hc) L sm)
  .rw[ir (show¬.F5 from λq=>.m7 hc q)];exact iU (k.2 .q L sm)|true=>
  refine iQ #[λσ' c=>∃m',m'<_/\.cT c,λσ' c q=>q,?_];refine#[_,y,u,y,.jd (.bz ag),.d0 (a:=u) (xs:=.eu) (λi σ c=>∃(b:Bool)(M:.aJ)(g:.aV),.F4/\I M c/\(b=ij->M=a/\∀p∈.b2 i,.F6)/\(b=f'->.c1<.mq)) #[ij,a,g,y,.h,@E,.i4] (λi σ c _#[_,_,_,_,#[l,_],_]=>.mv l ag) ?_ ?_]
  .rintro i aL σ c hi⟨b,M,ai,rfl,⟨l,C,aa,aj,ab⟩,c1,c2⟩;rw[jI]at hi;obtain⟨p,hp,rfl⟩:=.M hi;let#[B,ak,dx,cl,rl,rs,g1,g2,g3,g4]:=ah.get i p hp;have al:=kO ak;have ac:=l _ _ g1;have am:qb c cl B.kids:=l _ _ g2;refine#[_,y,p,.cr,dx,_,_,y,ac,T.p,T.pL,C',_,y,d,_,y,lZ.k (k:=.jR .jg) C,_,y,?_];rw[V0];have skip:∀H3,iu c H3->(.zW->.jg∈M)->∃(b':Bool)(F3:.aJ)(g:.aV),([.ja u,.ja t,.ja d,.j1 b,.ja p,e']:L2.St)=[.ja u,.ja t,.ja d,.j1 b',g,e']/\I F3 H3/\(b'=ij->F3=a/\∀p∈.b2 .ah,.F6)/\(b'=f'->.c1<F3.length):=λH3 s3 hh=>by refine#[b,M,_,y,#[l.trans s3,s3 _ _ C,aa,aj,ab],λhb=>#[(c1 hb).1,λp' ay=>?_],c2];rw[.a2 ak]at ay;grind
   by_cases hl:.jg∈M;.rw[iq hl];exact iU (iU (skip c .bN λ_=>hl))
   .rw[ir hl];refine iQ #[_,y,p,.cr,dx,_,_,y,ac,T.p,T.pC,FI,cl,y,.jd am,λD hD=>oP (InR M) .bF .b9 hD (@D am) (by rw[we];exact ja (au B al) .E) (λj x H3 Ky Kn hx s3 aM hy hn=>?_) λHf ys sf az hA=>?_];.unfold lC at hx;rw[jI]at hx;obtain⟨nm,aN,rfl⟩:=.fU;refine .iB;refine mY #[_,y,_,y,d,_,y,.gW (s3 _ _ C),.F7];rw[V0]
    .rw[mU]at hA;have aA:=in_list hA;subst aA;refine#[D,_,y,@D az,_,y,?_];have aB:((B.kids.map λn=>.q (n∈M)).all id)=.q .zW:=.F8
     rw[aB];by_cases hk:.zW
     .rw[iq hk];refine iQ #[_,y,_,y,p,.cr,dx,_,_,y,sf _ _ ac,T.p,T.pL,C',d,_,y,uG.k (k:=.jR .jg) (sf _ _ C) ?_,?_];.have:=Dm aa ab;unfold vn;rw[i0];exact qp (ja .bM av) .E
      .rw[agH hl];have aC:(M++[.jg]).Nodup:=.h
       refine#[f',M++[.jg],.ja p,y,#[.cx,iG,aC,?_,?_],λz=>(.jr z),λ_=>?_];.rw[.mc e hd];exact .pd sf l e
       .intro n hn;rcases k8.mp hn with z|z;.grind
        .rw[uK.mp z];exact .bX B al .q
       .grind
       grind[j9,Cf]
     .rw[ir hk];exact iU (skip Hf sf λz=>.Z z hk)
  .rintro σ c⟨b,M,ai,rfl,⟨l,C,aa,aj,ab⟩,c1,c2⟩;have aO:=Dm aa ab;refine#[_,?_,b,M,ai,y,y,.h,λhb=>?_];.grind
   .let#[e,h]:=c1 hb;subst e;rw[i0,ah.len,pB]at h;exact h
def JC(C:U)(f:iA)(p:Hp)(_:Hp)(x c:V):.n:=∃(a l:U)(w:.bg),.cv/\.sb p a C l w/\.cs f=O c
def Yq(G:Gc):Sp:=λg H Q E=>∃(l:U)(S:.cg),.ny/\wK G H l S/\.qp<=4000/\(∀m∈S,.gn<=4000)/\D1 G.C (Mx.PY S) H Q E
theorem Vd{G:Gc}:∀{c:@D}{S:.cg}{ys:.L},.m1 H c->iX (JC G.Cy "name" H L) (c.map .bZ) ys->ys=lC .q8
 |_,_,_,.nil,h=>.ge|_,_,_,.cons h t,k=>by
  cases k with
  |cons k I=>let#[l,dl,f,D,_]:=h;let#[a,q,w,C,A,g]:=k;cases C;rw[D]at A;cases A;rw[AS]at g;cases g;rw[Vd t I];rfl
theorem Iu:jb ["symbols","symbol"] .vq (i4 Od):=.J
theorem ahK{G:Gc}(F:.D "check_symbols" Od f fd)(T:.dn)(ac:.fO)(ai:mg "MOST_SYMBOLS"=.mi 12 au)(aj:mg "MOST_ATTRIBUTES"=.mi 4 av)(t:.rj B 1 aw ax)(Ga:.L B G.C "attributes_of" 1 .nD (OD G) fa ay)(Gf:.L B G.C "all_differ" 1 .nM NA ff az):@H B .dL 2 f fd .vq (Yq G):=by
 refine .t Iu λaA A aB s H vs Q E c h=>?_;obtain⟨l,S,rfl,⟨ss,p,g⟩,hl,ak,k⟩:=h;refine#[_,iy (.pu t c (HV su su iY (.mu ac 0) (.mP 12 ai))) (iy (.pu t c (n8 Gf c (Y (lX (te:=nh K .fV "name") y Iu.nd .kW (.jK ("symbol",1)) (λ_ _ _ _ _=>.fe Iu.nd y @q) .bA (.kU 1)) iw))) (iE (.bo .kW (.fe Iu.nd y @q) (iy (.pu t c (.ro ac (Y (n8 Ga c .dI) iw) 4 aj)) (.jx (.py t c (n8 Gf c (Y (n8 Ga c .dI) iw)))))))),?_];have am:((.vd).length:Int)=.vr:=by rw[i0,g.len]
 refine#[_,y,l,_,y,.jD p,_,_,y,y,_,y,?_];rw[am];by_cases h1:1<=.qp;ext D;.rw[ir (show¬(1:Int)<=.vr by omega)];exact iU #[_,y,.F9]
 rw[iq (show(1:Int)<=.vr by omega)];refine iQ #[_,_,y,y,_,y,?_];by_cases h2:.qp<=12;ext D;.rw[.mS (S.length:Int) 12];exact iU (k.2 (λz=>h2 z.2.1) H .bN)
 rw[iq (show .vr<=12 by omega)];ext aa;refine#[_,y,l,y,.jd p,λD hD=>oP (JC G.Cy "name" H) .bF .b9 hD (@D p) (.m8 g.len hl) (λi x L Ky Kn hx sm aC hy hn=>?_) λHf ys C an hA=>?_];.rw[jI]at hx;obtain⟨a,I,rfl⟩:=.fU;let#[m,_,dx,dl,ul,g1,_]:=g.get i a I;exact .jF #[_,y,a,G.Cy,dx,_,_,y,.bz g1,T.y,T.yN,AS,.d2 y #[a,dx,_,y,g1,AS]]
 rw[mU]at hA;have ao:=Vd g hA;subst ao;refine#[D,.q8,y,an,.h,λb hb=>?_];refine#[b,y,?_];by_cases r:(.q8).Nodup;ext D;.rw[hb,ir r];exact iU (k.2 (λz=>r z.2.2.1) Hf C)
 rw[hb,iq r];ext aa;refine#[_,y,l,y,.jd (C _ _ p),.d0 (a:=l) (xs:=.vd) (λi σ L=>∃M:.aV,σ=[.ja l,M]/\.I/\∀m∈S.take i,Mx.Ju m) #[e',y,C,@E] (λi σ L _#[_,_,U,_]=>@D (.bF p)) ?_ ?_]
 .rintro i aD σ L hi⟨M,rfl,U,aa⟩;rw[jI]at hi;obtain⟨a,I,rfl⟩:=.M hi;let#[m,ae,hm]:=g.get i a I;have ab:=kO ae;have af:=hm.keep (.dc U) T;refine#[_,y,a,m,y,af,.h,λal H2 nl v ap=>?_];refine#[al,_,y,.jD ap,_,_,y,y,_,y,?_];rw[we];by_cases h4:.gn<=4;ext D;.rw[.mS (m.attrs.length:Int) 4];exact iU (k.2 (λz=>h4 (z.2.2.2 m ab).1) H2 (.dI v))
  rw[.ny m.attrs.length 4];refine iQ #[_,y,a,m,y,af.keep (.dc v) T,.t,λaq H3 aE s7 ar=>?_];refine#[aq,m.attrs,y,ar,ak m ab,λb2 ag=>#[b2,y,?_]];by_cases u:m.attrs.Nodup;ext D;.rw[ag,ir u];exact iU (k.2 (λz=>u (z.2.2.2 m ab).2) H3 ((.dI v).trans s7))
  rw[ag,iq u];refine iQ #[_,y,(.dI v).trans s7,λm' ah=>?_];rw[.a2 ae]at ah;rcases k8.mp ah with z|z;.grind
  .rw[uK.mp z];exact#[h4,u]
 .rintro σ L⟨M,rfl,U,aa⟩;rw[i0,g.len,pB]at aa;exact k.1 #[h1,h2,r,aa] L U
def uz(k:@D)(S:.cg):.aI:=(k.zip S).map λx=>((kR (txt x.2.name):Key),.ap x.1)
theorem Nu(n:@n):∀{k:@D}{S:.cg},iX Q k S->(Mx.oU S n=e'/\.zY=e')\/∃m s,Mx.oU S n=O m/\.zY=.ja s/\Q s m
 |_,_,.nil=>.q9|s::k,m::S,.cons h t=>by
  by_cases e:.eI=n
  .refine @n #[m,s,?_,?_,h];.show(m::S).find? _=_;grind
   .show jN (((s,m)::k.zip S).map _) _=_;grind[qJ]
  .have C:Mx.oU (m::S) n=Mx.oU S n:=by show(m::S).find? _=S.find? _;grind
   have A:jN (uz (s::k) (m::S)) .nK=.zY:=.n5 ((s,m)::k.zip S) (λq=>e .uO)
   rw[C,A];exact Nu n t
def aaw(S:.cg)(_:Hp)(x C:V):.n:=∃p,x=.jj p/\C=.bl (Mx.oU S p).isSome
theorem has_list{S:.cg}:∀{ns:.aJ}{ys:.L},iX (aaw S H) (lC ns) ys->ys=(ns.map λn=>.vs).map V.bl
 |[],_,h=>.ge|n::ns,_,h=>by
  cases h with
  |cons h t=>obtain⟨p,D,rfl⟩:=h;rw[has_list (ns:=ns) t,<-.vl];rfl
def PlR(G:Gc)(S:.cg)(a:Hp)(_:Hp)(x C:V):.n:=∃p s m,x=.jj p/\Mx.oU S p=O m/\C=@h s/\rI G a s m
theorem YD{G:Gc}{S:.cg}:∀{ns:.aJ}{ys:.L},iX (PlR G S p H) (lC ns) ys->∃k:@D,ys=k.map .bZ/\iX (rI G p) k (ns.filterMap (Mx.oU S))/\.dd=ns.length
 |[],_,h=>by cases h;exact#[[],y,.nil,y]|n::ns,_,h=>by
  cases h with
  |cons h t=>obtain⟨a,s,m,D,M,rfl,r⟩:=h;obtain⟨k,rfl,B,T⟩:=YD (ns:=ns) t;rw[<-.vl]at M;refine#[s::k,y,?_,by simp[T]];rw[xj,M];exact .J r B
theorem Ux{G:Gc}:∀{c:@D}{S:.aP}{ys:.L},iX (tH G H) c S->iX (JC .cr "name" H L) (c.map .bZ) ys->ys=lC (S.map .nQ)
 |_,_,_,.nil,h=>.ge|_,_,_,.cons h t,k=>by
  cases k with
  |cons k I=>let#[l,Q,w,rs,D,_]:=h;let#[a,q,f,C,A,g]:=k;cases C;rw[D]at A;cases A;rw[y9]at g;cases g;rw[Ux t I];rfl
structure Zd(S:List Mx.jv)(P:List Mx.MProd):Prop where
 sn:S.length<=4000
 sa:∀m∈S,m.attrs.length<=4000
 sk:∀m∈S,∀a∈m.attrs,nR a
 pn:P.length<=4000
 pk:∀p∈P,p.kids.length<=4000
 pr:∀p∈P,p.rules.length<=4000
 po:∀p∈P,∀r∈p.rules,r.x.occs.length<=4000
 pt:∀p∈P,∀c∈p.targets,nR c.2
def Yr(G:Gc):Sp:=λg H Q E=>∃(u t:U)(P:.aP)(S:.cg)(k:@D),g=[.fS,@h t]/\ZO G H u P/\H t=.jo (uz k S)/\.m1 H k/\(∀m∈S,.gn<=4)/\Zd S P/\D1 G.C (Mx.OO S P) H Q E
theorem Yd{S:.cg}{n:@n}(h:Mx.oU S n=O m):m∈S:=sI h
theorem ag1{S:.cg}(h:∀m∈S,∀a∈m.attrs,nR a)(w:∀m∈ps,m∈S):∀c∈Mx.rp ps,.ja:=λc B=>by let#[s,D,M]:=(Mx.UY ps c.1 c.2).mp B;refine h s .q c.2 ?_;grind[Mx.jv.attrs]
theorem vc:jb ["productions","symbols","production","names","places","rule","name"] .jf (i4 Nk):=.J
theorem ahL{G:Gc}(F:.D "check_productions" Nk f fd)(T:.dn)(ag:.fO)(aF:mg "all"=e')(aG:mg "MOST_PRODUCTIONS"=.mi 24 a5)(aH:mg "MOST_CHILDREN"=.mi 3 a6)(aI:mg "MOST_RULES"=.mi 24 a7)(Gd:.rj ab 1 a8 a9)(Gf:.c8 G.C "all_differ" 1 .nM NA ff ba)(Gt:.c8 G.C "check_targets" 2 .vn (Zz G) ft bb)(Gx:.c8 G.C "check_expression" 2 .vc (Zy G) fx bc):@H ab .dL 3 f fd .jf (Yr G):=by
 refine .t vc .Ga;obtain⟨t,sd,g,S,ss,rfl,⟨ps,aa,C⟩,am,aJ,bf,hB,k⟩:=h;ext am;have M:.b8:=.aO;refine#[_,iy (.pu Gd M (pG su (.mu ag 0) (.mP 24 aG) .aw)) (iy (.pu Gd M (n8 Gf M (Y (lX (te:=nh K (i9 2) "name") y vc.nd .kW (.jK ("production",2)) (λ_ _ _ _ _=>.bZ vc.nd y @q) .bA (.kU 2)) iw))) (iE (.bo .kW (.bZ vc.nd y @q) (iy (.pu Gd M (.ro ag .vu 3 aH)) (iy (.pu Gd M (.ro ag .vu 24 aI)) (iy (.aL vc.nd y @q (lu vj (jF .vu) .jh)) (iy (.pu Gd M (kA (Qr y) .z aF boot_all (Y (lX (te:=EH (i9 6) .fV) y vc.nd (kJ .ak) (.kE 6) .Gb .bA (λ_ _ _ _ _=>Je (Jf hu .dM @M))) iw))) (iy (ue (i:=4) (te:=BB .fV (i9 6)) y vc.nd y y .z (kJ .ak) (.kE 6) .Gb .bA (λ_ _ _ _ _=>.ff .dM .ai)) (.mU (.ra Gt hr 2 4) (.bo (kJ .jh) (.dJ vc.nd y @q) (.jx (iS Gx hr iI (Y (.jg 5) (.mb 2 4)))))))))))))),?_];have aK:((.eu).length:Int)=(g.length:Int):=by rw[i0,C.len]
 refine#[_,y,t,_,y,.jD aa,_,_,y,y,_,y,?_];rw[aK];by_cases h1:.cZ<=24;ext D;.rw[.mS (g.length:Int) 24];exact .F9
 rw[.ny g.length 24];ext aa;refine#[_,y,t,y,.jd aa,λD hD=>oP (JC .cr "name" H) .bF .b9 hD (@D aa) (.m8 C.len hB.pn) (λi x L Ky Kn v sm an hy hn=>?_) λHf ys sf aL hA=>?_];.rw[jI]at v;obtain⟨sa,aM,rfl⟩:=.M v;let#[m,_,l,cl,rl,rs,g1,_]:=C.get i sa aM;exact .jF #[_,y,sa,.cr,l,_,_,y,.bz g1,T.p,T.pN,y9,.d2 y #[sa,l,_,y,g1,y9]]
 rw[mU]at hA;have aN:=Ux C hA;subst aN;refine#[D,g.map .nQ,y,aL,.h,λb hb=>?_];refine#[b,y,?_];by_cases h3:(g.map .nQ).Nodup;ext D;.rw[hb,ir h3];exact iU (k.2 (λz=>h3 z.2.1) Hf sf)
 rw[hb,iq h3];ext aa;refine#[_,y,t,y,.jd (sf _ _ aa),.d0 (a:=t) (xs:=.eu) (λi σ L=>∃v2 v3 v4 v5:.aV,σ=[.ja t,.ja sd,v2,v3,v4,v5,e']/\.I/\∀p∈g.take i,Mx.Bx S p) #[e',e',e',e',y,sf,@E] (λi σ L _#[_,_,_,_,_,U,_]=>@D (.bF aa)) ?_ ?_];ext D;.rintro σ L⟨v2,v3,v4,v5,rfl,U,ah⟩;rw[i0,C.len,pB]at ah;exact k.1 #[h1,h3,ah] L U
 rintro i aO σ L hi⟨v2,v3,v4,v5,rfl,U,ah⟩;rw[jI]at hi;obtain⟨p,hp,rfl⟩:=.M hi;let#[B,ao,l,cl,rl,rs,g1,g2,g3,g4]:=C.get i p hp;have u:=kO ao;have ac:=.bF g1;have ap:qb L cl B.kids:=.bF g2;refine#[_,y,p,.cr,l,_,_,y,ac,T.p,T.pC,FI,cl,_,y,.jD ap,_,_,y,y,_,y,?_];rw[we];by_cases h4:B.kids.length<=3;ext D;.rw[.mS (B.kids.length:Int) 3];exact iU (k.2 (λz=>h4 (.ra).1) L U)
 rw[.ny B.kids.length 3];ext aa;refine#[_,y,p,.cr,l,_,_,y,ac,T.p,T.pR,LD,rl,_,y,.jD (.bF g3),_,_,y,y,_,y,?_];rw[i0,g4.len];by_cases h5:B.rules.length<=24;ext D;.rw[.mS (B.rules.length:Int) 24];exact iU (k.2 (λz=>h5 (.ra).2.1) L U)
 rw[.ny B.rules.length 24];ext aa;refine#[_,y,p,.cr,l,_,_,y,ac,T.p,T.pL,C',@Z,λl1 aP=>?_];have s6:iu L (.aD l1 (@E [.jj .jg])):=@t aP;refine#[_,y,p,.cr,l,_,_,y,s6 _ _ ac,T.p,T.pC,FI,l1,cl,_,_,y,y,iG,s6 _ _ ap,?_,λI aQ=>?_];.rw[we];exact ja (show _<=4 by simp;omega) .E
 have s7:=(.dI s6).trans (.m2 ([.kx .jg]++lC B.kids) aQ);have hN:qb .Gc I B.names:=iG;generalize .Gc=H7 at s7 hN⊢;have aq:B.names.length<=4:=by grind[Mx.MProd.names]
 refine#[_,y,I,y,.jd hN,λD2 aR=>oP (aaw S) .bF .b9 aR (@D hN) (.lc aq) .Gd λar bg au aS av=>?_];.ext cz;refine .jF #[_,y,_,y,sd,_,y,.gW (.pd s3 s7 am),.F7];grind[Nu]
 rw[mU]at av;have aU:=has_list av;subst aU;refine#[D2,_,y,@D aS,?_];have s8:=s7.trans au;have aV:((B.names.map λn=>.vs).all id)=.q (∀n∈B.names,.vs=f'):=.F8
 rw[aV];refine .cL;by_cases h6:∀n∈B.names,.vs=f';ext D;.rw[ir h6];exact iU (k.2 (λz=>h6 (.ra).2.2.1) ar s8)
 rw[iq h6];ext aa;have aw:qb ar I B.names:=au _ _ hN;refine#[_,y,I,y,.jd aw,λD3 aW=>oP (PlR G S H) .bF .b9 aW (@D aw) (.lc aq) .Gd λaX bh aY aZ ax=>?_]
 .ext cz;rcases Nu nm aJ with⟨e1,e2⟩|⟨m,sa,e1,e2,e3⟩;.grind
  .have dg:=.gW (.pd s3 s8 am);rw[e2]at dg;exact .jF #[_,y,_,y,sd,_,y,dg,hy _ H3 .bN y #[nm,sa,m,y,e1,y,e3]]
 rw[mU]at ax;obtain⟨sl,rfl,ay,a0⟩:=YD ax;have s9:=s8.trans aY;have ai:wK G aX D3 .zZ:=#[sl,aZ,ay.imp (.mO s9 T)];have az:∀m∈.zZ,m∈S:=λm hm=>by let#[n,_,e]:=t6.mp hm;exact Yd e
 let#[m0,ms,em]:∃m0 ms,.zZ=m0::ms:=by grind[Mx.places,Mx.MProd.names]
 rw[em]at ai az;refine#[_,y,_,y,p,D3,B.rules,m0,ms,y,#[l,_,_,_,cl,rl,rs,s9 _ _ g1,s9 _ _ g3,g4.imp (.mO s9 T)],hB.pr B u,ai,.h,by have h7:=ay.len;rw[a0,show B.names.filterMap (Mx.oU S)=m0::ms from em,lH]at h7;omega,hB.pt B u,ag1 hB.sk az,λa1 H4 ae=>?_,λaj H4 ae=>?_];ext D;.refine k.2 (λz=>aj ?_) H4 (s9.trans ae);have:=(.ra).2.2.2.1;rw[em]at this;ext Q
 have ak:=s9.trans ae;refine#[_,y,p,.cr,l,_,_,y,ak _ _ g1,T.p,T.pR,LD,rl,y,.jd (ak _ _ g3),.d0 (a:=rl) (xs:=.bP .bZ) (λj σ H5=>∃v5:.aV,σ=[.ja t,.ja sd,.ja p,.ja I,.ja D3,v5,e']/\.I H5/\iu H4 H5/\∀r∈B.rules.take j,Mx.Bw B (m0::ms) r) #[_,y,ak,iu.refl _,@E] (λj σ H5 _#[_,_,c,_]=>.mv c g3) ?_ ?_]
 .rintro j aO σ H5 hj⟨a2,rfl,c,al,aA⟩;rw[jI]at hj;obtain⟨r,a3,rfl⟩:=.M hj;let#[rm,aB,du,tv,xa,q1,q2,q3]:=g4.get j r a3;have aC:=kO aB;refine#[_,y,r,G.Cu,du,_,_,y,c _ _ q1,T.u,T.uX,aes,_,y,_,y,xa,p,D3,rm.x.occs,rm.x.own,B.own,m0::ms,y,q3.keep (by grind[ka.same]) T.er,#[l,_,_,cl,rl,c _ _ g1],ai.keep (ae.trans al) T,.h,hB.po B u rm aC,λa4 H6 af=>?_,λaj H6 af=>?_]
  .refine#[_,y,.dF af,al.trans af,λr' aD=>?_];rw[.a2 aB]at aD;rcases k8.mp aD with z|z;.grind
   .rw[uK.mp z];exact a4
  .refine k.2 (λz=>aj ?_) H6 (.dF af);have:=(.ra).2.2.2.2 rm aC;rw[em]at this;ext Q
 .rintro σ H5⟨a2,rfl,c,al,aA⟩;rw[i0,g4.len,pB]at aA;refine#[_,_,_,_,y,c,λp' aE=>?_];rw[.a2 ao]at aE;rcases k8.mp aE with z|z;.grind
  .rw[uK.mp z];refine#[h4,h5,h6,?_,?_];.rw[em];exact a1
   grind
def qO(p:α->@n)(as:@D)(xs:.aA):.aI:=(as.zip xs).map λx=>((.jR (p x.2):Key),.ap x.1)
theorem aft(k:@D)(S:.cg):uz k S=qO .z0 k S:=rfl
abbrev wF(ps:@D)(P:.aP):.aI:=qO .nQ ps P
theorem C5:∀(kvs acc:.aI),((acc++kvs).map .bS).Nodup->oG acc kvs=acc++kvs
 |[],acc,_=>by simp[oG]|m::kvs,acc,h=>by
  have L:jN acc m.1=e':=by grind[jN]
  show oG (putK acc m.1 m.2) kvs=_;rw[A4 _ L];have e:acc++m::kvs=(acc++[(m.1,m.2)])++kvs:=@E
  rw[C5 kvs (acc++[(m.1,m.2)]) .q,<-e]
theorem UE:∀{as:@D}{xs:.aA},.fR=.ag->(.rb).map .bS=.a4 λx=>(.jR (p x):Key)
 |[],[],_=>y|[],_::_,h=>.b4|_::_,[],h=>.b4|a::as,x::xs,h=>by show(.jR (p x):Key)::(.rb).map .bS=_;rw[UE (as:=as) (xs:=xs) .q];rfl
theorem VM{xs:.aA}(h:.fR=.ag):(.rb).length=.ag:=by grind[qO]
theorem Tn{xs:.aA}(h:.fR=.ag)(f:(.a4 p).Nodup):oG [] .rb=.rb:=by
 rw[C5 _ [] ?_];.rfl
 .rw[KH,UE h];rw[GN,vL]at f⊢;exact f.imp λc q=>c .uO
def yy(C:U)(p:Hp)(H:Hp)(x f:V):.n:=∃(a q l:U)(w:.bg)(c:V),.cv/\f=@h q/\.sb p a C l w/\.cs .uY=O c/\H q=O (@L [c,.aX])
theorem yy.mono(C:U)(p H L:Hp)(x f:V)(s:.I)(h:yy C p H x f):yy C p L x f:=by let#[a,q,l,w,c,D,M,r,B,T]:=h;exact#[a,q,l,w,c,D,M,r,B,.ae T]
theorem OQ{α:Type}{nm:α->@n}{C:U}{K:jd}{f H:Hp}{Q:U->α->.n}(u:∀a x,Q a x->∃l w,.sb f a C l w/\.cs .uY=O (.jj (nm x))):∀{as:@D}{xs:.aA}{ys:.L},iX Q as xs->iX (yy C f H) (as.map .bZ) ys->∃qs:@D,ys=.hE/\.cH (λp m=>.aJ p [kV m.1,m.2]) qs (qO nm as xs)
 |_,_,_,.nil,h=>by cases h;exact#[[],y,.nil]|a::as,x::xs,_,.cons h t,k=>by
  cases k with
  |cons k I=>obtain⟨v,q,M,r,c,s,rfl,g,D,L⟩:=k;cases s;let#[l,w,g1,A]:=u a x h;rw[g1]at g;cases g;rw[A]at D;cases D;obtain⟨qs,rfl,B⟩:=OQ (K:=K) u t I;exact#[q::qs,y,.J (.bM L) B]
def Qu(G:Gc)(H:Hp)(g:U)(S:.cg)(P:.aP):.n:=∃l t x k ps,H g=O (.ak G.Cg l (Jy t x))/\H t=.jo (uz k S)/\.m1 H k/\H x=.jo (wF ps P)/\iX (tH G H) ps P
def Zw(K:jd)(G:Gc):Sp:=λc H Q E=>∃(a:U)(t:@n),c=.dX/\.m3/\.m4/\match(.iR).bind Mx.wC with
 |e'=>.Ge|O g=>.Gf
abbrev Nd:i5:=top 103
theorem agw(ok:.d7):.bt="end"↔us=[]:=by
 cases us with
 |nil=>exact#[.cY,.cY]|cons x r=>
  refine#[.dH,λq=>.jr q];exfalso;have v:=ok x jO;have a:.eD=E0:=.FQ
  rw[zc v .E]at a;rcases a with q|q|q|q|q;ext O
  .ext cu
   ext ax
   .omega
   .omega
  ext O
  ext O
  ext O
theorem boot_dict:.b8 "dict"=O .ky:=.Q
theorem vW:jb ["text","reader","symbols","productions","declared","symbol","production"] .iS (i4 Nd):=.J
theorem aje{G:Gc}(F:.D "read_grammar" Nd f fd)(M:.ky aa)(T:.dn)(aK:mg "dict"=e')(aX:mg "Reader"=O (@h G.Cr))(aY:Mk K G.Cr fi)(Gi:@H aa .dL 5 fi aZ .hy (HM K G.C G.Cr))(bi:.aT aZ .hy [])(Gy:.bx G.C "read_symbol" 3 .bE (WL G) fy bm)(Gp:.bx G.C "read_production" 192 .bE (Zs G) fp bn)(G1:.bx G.C "check_symbols" 2 .vq (Yq G) f1 d1)(G2:.bx G.C "check_productions" 3 .jf (Yr G) f2 d2)(G3:.bx G.C "check_trees" 2 .jf (Yp G) f3 d3)(Rc:.dH aa G.C "Grammar" G.Cg 2 MZ):@H aa .dL 193 f fd .iS (Zw K G):=by
 refine .t vW λbo A bp s H vs Q E hr h=>?_;obtain⟨a,t,rfl,hL,hl,k⟩:=h;have aL:.b8:=.aO;have ar:.i3:=.aO;have aM:jy 3 _:=.aO;refine#[_,iy (.aK vW.nd y @q (OL aY Gi .aO y aX bi .nil (vr iI y) .ji)) (iy (.ag vW.nd y @q .dJ) (iy (.aL vW.nd y @q .dJ) (iy (.bv (.bN (um M aL @M) n6 .aw) (iE (jh (ju mH (um M aL @M) n6 .aw) (iE (.kV (.pe Gy aM 1))) (.kq (.ch .ak (Y (.pe Gp hr 1) iw)))))) (iy (jf (.pe G1 ar 2)) (iy (.bE vW.nd y @q (wb (My y) .z aK .rc (Y (lX (te:=.ly 5) y vW.nd .rf (.jK ("symbol",5)) (λ_ _ _ _ _=>.dJ vW.nd y @q) .bA (.lz 5)) iw))) (iy (jf (.ra G2 aM 3 4)) (iy (jf (.ra G3 ar 3 4)) (.pv Rc ar (Y (J 4) (Y (wb (My y) .z aK .rc (Y (lX (te:=.ly 6) y vW.nd (kJ .ak) (.kW ("production",6)) (λ_ _ _ _ _=>jK (i:=6) vW.nd y @q) .bA (.lz 6)) iw)) iw)))))))))),?_];refine .cL;intro r dx nr a0 bq;have sM:.I (upd (@z dx (.own r)) r (.ak G.Cr dx [])):=.qa e nr a0
 refine#[r,dx,a,t,y,iG,sM.seq hL,hl,?_];cases aj:.iR with
 |none=>rw[aj]at k;exact .Gg
 |some ts=>
 rw[aj]at k;refine λR H1 eR eT br bs u1=>.iB;subst eR;have au:.I H1:=.Gh;have B1:.cj H1 R ts:=.st eT Mx.MH Mx.Eg aj hl;refine#[.au,λI av=>?_];have ak:iu H1 (.bL I .ap):=@t av;refine#[.au,λLb al=>?_];have ac:iu (.bL I .ap) (.f2 .ap):=@t al;have B2:=B1.same ak;have B3:=B2.same ac;have a1:.bL I .ap I=O .ap:=iG;have aw:.f2 .ap I=O .ap:=ac _ _ iG;have ax:.f2 .ap Lb=O .ap:=iG;have ay:=.pb au.trans ak ac;generalize .f2 .ap=H3 at ac B3 aw ax ay⊢;generalize .bL I .ap=H2 at ak ac B2 a1 al;have a2:H I=e':=au.free av;have a3:H Lb=e':=(au.trans ak).free al;let Fin:.E (.cg×.aP)->.n:=λa4=>match a4 with
  |e'=>.Ge
  |O g=>.Gf;let W:.cp:=λm σ L=>∃(ss ps:@D)(S:.cg)(B:.aP)(ab:.aj),σ=[.fz,.eH,.ja I,.ja Lb,e',e',e']/\m=ab.length/\.cj L R ab/\.I/\Ext H3 L/\L I=.jT ss.map/\L Lb=.hu/\.m1 .vv ss/\iX (tH G .vv) ps B/\(∀m∈S,IM m)/\(∀p∈B,A8 p)/\ss.length+.bh+ab.length<=4000/\Fin ((Mx.mC (ab.length+1) ab).map .Gi);refine .jY #[_,[],[],[],[],ts,y,y,B3,ay,.q1,aw,ax,.nil,.nil,@E,@E,by have:=B1.len;grind,by grind[Mx.wC]];rintro mm σ L⟨ss,ps,S,B,ab,rfl,rfl,B',sm,xt,ae,am,hS,hP,fS,fP,bt,k'⟩;have an:∀az,jB R.r L az->.I az:=λaz u b o e=>.bw (.bz e) (jg e nr);ext z;refine B'.kind y .np;cases ab with
 |cons l C=>
  have a5:¬.nR="end":=λq=>by have:=(agw B'.ok).mp q;cases this
  rw[.oo .nR a5];refine iQ #[λσ' H2=>∃m',m'<.jj/\.cT H2,.q2,?_];ext z;refine B'.kind y .np;by_cases hg:l.great=f'
  .have hk:.nR="great":=(CW B'.ok).mpr hg;rw[iq (show .aa .nR=.aa "great"by rw[hk])];ext aa;have e8:Mx.mC (.jj+1) (l::C)=(Mx.qe (l::C)).bind λx=>(Mx.mC .jj x.2).bind λg=>O (x.1::g.1,g.2):=.Gj
   rw[e8]at k';refine#[_,y,.jl ae,_,y,R,_,y,B',?_];cases hq:Mx.qe (l::C)with
   |none=>rw[hq]at k';exact .Gk
   |some q=>
    rw[hq]at k';have af:=WE (m:=q.1) (us:=q.2) hq;have k':Fin (.nD (Mx.mC .jj q.2) (q.1::g.1,g.2)):=k';ext cA;refine .m5 I aA;.grind[sizeLine]
    have nu:=qu (H:=H3) (H':=H9) (x:=@E (.vd++[.ap sa])) aw y;have n9:=B3.news u9;refine#[.c2,af,ss++[sa],ps,S++[q.1],B,q.2,y,y,B1.Bn B9 av aA,.cx,.z1,?_,?_,?_,?_,?_,fP,.h,?_];.rw[.mc e a2];exact an H9 u9 b o e
    ext ac
    .ext M
    .rw[nu];exact(.Gl).snoc .Gm
    .rw[nu];exact .Gn
    .grind
    .have e9:((.nU).map λg=>((S++[q.1])++g.1,B++g.2))=(.nD .nU (q.1::g.1,g.2)):=by
      cases .nU with
      |none=>rfl
      |some g=>simp
     grind
  .have hk:¬.nR="great":=λq=>hg ((CW B'.ok).mp q);rw[ir (show¬.aa .nR=.aa "great"from λq=>hk .na)];ext L;have e8:Mx.mC (.jj+1) (l::C)=(Mx.rG (l::C)).bind λx=>(Mx.mC .jj x.2).bind λg=>O (g.1,x.1::g.2):=.Gj
   rw[e8]at k';refine#[_,y,.jl am,_,y,R,_,y,B',?_];cases hq:Mx.rG (l::C)with
   |none=>rw[hq]at k';exact .Gk
   |some q=>
    rw[hq]at k';have af:=VD (m:=q.1) (us:=q.2) hq;have k':Fin (.nD (Mx.mC .jj q.2) (g.1,q.1::g.2)):=k';ext cA;refine .m5 Lb aB;.grind[sizeLine]
    have nu:=.rh H3 H9 (.eu++[.ap sa]) ax;have n9:=B3.news u9;refine#[.c2,af,ss,ps++[sa],S,B++[q.1],q.2,y,y,B2.Bn B9 al aB,.cx,.z1,?_,?_,?_,?_,fS,?_,.h,?_];.rw[.mc e a3];exact an H9 u9 b o e
    .ext M
    ext ac
    .rw[nu];exact .Gl
    .rw[nu];exact(.Gn).snoc .Gm
    .grind
    .have e9:((.nU).map λg=>(S++g.1,(B++[q.1])++g.2))=(.nD .nU (g.1,q.1::g.2)):=by
      cases .nU with
      |none=>rfl
      |some g=>simp
     grind
 |nil=>
  rw[iq (show .aa (kindS [])=.aa "end"from y)];ext L;have k':Fin (O (S++[],B++[])):=k';rw[t8,t8]at k';have hB:Zd S B:=#[by rw[<-hS.len];omega,λm hm=>(fS m hm).1,λm hm=>(fS m hm).2,by rw[<-hP.len];omega,λp hp=>(fP p hp).1,λp hp=>(fP p hp).2.1,λp hp r hr=>((fP p hp).2.2.1 r hr).1,λp hp c hc=>by let#[r,hr,e]:=t6.mp hc;exact((fP p hp).2.2.1 r hr).2 c e];have aN:.m1 L ss:=.rb hS.imp z.keep (nH _ _) T;let#[kY,kN]:=k';refine#[_,y,I,S,y,#[ss,ae,aN],hB.sn,hB.sa,λao H4 s4=>?_,λno H4 s4=>kN (λz=>no z.1) H4 (.d4 s4)];have aC:.m1 H4 ss:=.rb aN.imp z.keep s4 T;have aO:=s4 _ _ ae;refine#[_,y,I,y,.jd aO,λD hD=>oP (yy G.Cy H4) .bF (yy.mono G.Cy H4) hD (@D aO) (.m8 hS.len hB.sn) (λi x H5 Ky Kn hx s5 ag hy hn=>?_) λH5 ys s5 a7 hA=>?_];.rw[jI]at hx;obtain⟨sa,a8,rfl⟩:=.fU;let#[m,_,dy,dl,ul,g1,_]:=aC.get i sa a8;obtain⟨ys,ag⟩:=ag;refine .jF #[_,y,sa,G.Cy,dy,_,_,y,s5 _ _ g1,T.y,T.yN,AS,_,y,@Z,λq hq=>hy _ _ (@t hq) y #[sa,q,dy,_,_,y,y,g1,AS,?_]];grind[rD,iG]
  rw[mU]at hA;obtain⟨qs,rfl,a9⟩:=OQ (nm:=Mx.jv.name) (K:=K) (λa x aD=>by let#[dy,dl,ul,g1,_]:=aD;grind[AS]) aC hA;refine#[D,qs,_,y,@D a7,Paired.EU a9 λp kv q=>by
   ext aK;.exact .n (.n .nJ)
   .exact .kj #[o,.nJ]
   .exact @n q,λsd aP=>?_];rw[Tn hS.len ao.2.2.1];have s6:iu H5 .Go:=@t aP;have ap:.pJ H5 sd (qO .z0 ss S)=.jo (uz ss S):=iG;generalize .Go=H6 at s6 ap⊢;have ah:=s5.trans s6;have aE:=.gX ah;have ba:H sd=e':=(.gX s5).free aP;have aF:=.pd ah s4 am;have aG:iX (tH G H6) ps B:=(.rb hP.imp z.keep (nH _ _) T).imp λa b z=>z.keep (.dc (s4.trans ah)) T;refine#[_,y,_,y,Lb,sd,B,S,ss,y,#[ps,aF,aG],ap,.rb aC.imp z.keep ah T,λm hm=>(ao.2.2.2 m hm).1,hB,λaH H7 s7=>?_,λno H7 s7=>kN (λz=>no z.2.1) H7 (aE.trans s7)];have bb:∀p∈B,p.left∈.q8:=λp hp=>by have:=(aH.2.2 p hp).2.2.1 p.left jO;let#[m,hm]:=.bV .bM;have hb:=CH (show S.find? (λs=>.cz==p.left)=O m from hm);grind[Yd]
  refine#[_,y,_,y,Lb,sd,B,.q8,_,y,#[ps,s7 _ _ aF,.rb aG.imp z.keep s7 T],s7 _ _ ap,by rw[aft,VM hS.len,i0],ao.2.2.1,bb,hB.pk,.kk hB.sn,hB.pn,λbc H8 s8=>?_,λno H8 s8=>kN (λz=>no λn hn=>by obtain⟨m,hm,rfl⟩:=@Q hn;exact z.2.2 m hm) H8 (.pb aE.trans s7 s8)];have ai:=s7.trans s8;have aQ:=aE.trans ai;have aR:=ai _ _ aF;have aS:iX (tH G H8) ps B:=.rb aG.imp z.keep ai T;refine#[_,y,_,y,Lb,y,.jd aR,λD2 bd=>oP (yy .cr H8) .bF (yy.mono .cr H8) bd (@D aR) (.m8 hP.len hB.pn) (λi x H9 Ky Kn hx s9 ag hy hn=>?_) λH9 ys s9 be aT=>?_];.rw[jI]at hx;obtain⟨pa,bf,rfl⟩:=.fU;let#[m,_,dy,cl,rl,rs,g1,_]:=aS.get i pa bf;let#[ys,ag]:=ag;refine .jF #[_,y,pa,.cr,dy,_,_,y,s9 _ _ g1,T.p,T.pN,y9,_,y,@Z,λq hq=>hy _ _ (@t hq) y #[pa,q,dy,_,_,y,y,g1,y9,?_]];grind[rD,iG]
  rw[mU]at aT;obtain⟨bg,rfl,bh⟩:=OQ (nm:=Mx.MProd.name) (K:=K) (λa x aD=>by let#[dy,cl,rl,rs,g1,_]:=aD;grind[y9]) aS aT;refine#[D2,bg,_,y,@D be,Paired.EU bh λp kv q=>by
   ext aK;.exact .n (.n .nJ)
   .exact .kj #[o,.nJ]
   .exact @n q,λpd aU=>?_];rw[Tn hP.len aH.2.1];have aq:iu H9 .Gp:=@t aU;have aV:.pJ H9 pd (qO .nQ ps B)=.jo (wF ps B):=iG;generalize .Gp=bu at aq aV⊢;have bj:H pd=e':=(aQ.trans s9).free aU;refine#[y,λg dg aI ng bv aJ hg=>?_];have s':iu L aI:=(.rc s4.trans ah ai s9).trans (aq.trans aJ);have aW:iu .vv (jt H aI):=.nE s' ay;have bk:H g=e':=(.pb aQ.trans s9 aq).free ng;refine kY (#[ao,aH,λm hm=>bc .eI (.mB m hm)]) g aI (.d4 s') #[dg,sd,pd,ss,ps,?_,?_,?_,?_,?_] fP;.rw[lh bk];exact hg
  .rw[lh ba];exact .pd aJ aq (s9 _ _ (ai _ _ ap))
  .exact .rb hS.imp z.keep aW T
  .rw[lh bj];exact aJ _ _ aV
  .exact .rb hP.imp z.keep aW T
theorem Ek{g:TG}{M:TS}{D:Ends}{J:It}(Pv:.cp)(a:.l5)(q:∀σ H,Pv n σ H->J.stop n H)(k:∀i σ H,i<n->.fD->.l3)(w:∀i σ H x L,i<n->.fD->.l4->g x σ L .l6)(T:.CJ):∃W:Nat->.cp,.l7/\∀i m σ H,.kb->(.s5/\.fB)\/(.l3/\∃N:.m6,.kc/\∀x L,.l4->.kd):=by
 ext bT;.exact @n #[k i σ H s p,Pv .ah,λr L v=>.s8,.h]
 grind
theorem aif{d:U}{o:jA}{g:TG}{M:TS}{D:Ends}(Pv:.cp)(a:.l5)(c:.z2)(w:∀(i:Nat)(k:Key)(v:V)σ H,.iv->.fD->g (kV k) σ H .l6)(T:.z3):∃W:Nat->.cp,.l7/\∀i m σ H,.kb->((.pV).stop i H/\.fB)\/((.pV).go i H/\∃N:.m6,.kc/\∀x L,(.pV).pq i H x L->.kd):=.gY (λi σ H x L t p C=>by obtain⟨rfl,k,v,e,rfl⟩:=C;grind) T
theorem UM{d:U}{o:jA}{g:TG}{M:TS}{D:Ends}(Pv:.cp)(a:.l5)(c:.z2)(w:∀(i:Nat)(k:Key)(v:V)σ H,.iv->.fD->g v σ H .l6)(T:.z3):∃W:Nat->.cp,.l7/\∀i m σ H,.kb->((.pX).stop i H/\.fB)\/((.pX).go i H/\∃N:.m6,.kc/\∀x L,(.pX).pq i H x L->.kd):=.gY (λi σ H x L t p C=>by obtain⟨rfl,k,e⟩:=C;grind) T
theorem MY{d:U}{o:jA}{g:TG}{M:TS}{D:Ends}(Pv:.cp)(a:.l5)(c:.z2)(w:∀(i:Nat)(k:Key)(v:V)σ H(T:U),.iv->.fD->H T=e'->g (@h T) σ (@z T .pT) .l6)(f:.z3):∃W:Nat->.cp,.l7/\∀i m σ H,.kb->((.pY).stop i H/\.fB)\/((.pY).go i H/\∃N:.m6,.kc/\∀x L,(.pY).pq i H x L->.kd):=.gY (λi σ H x L t p C=>by obtain⟨T,k,v,e,rfl,h,rfl⟩:=C;grind) f
theorem xN(T:H d=O u)(s:iu (@z d v) L):.I .mD:=λb o e=>by
 by_cases h:b=d;ext ac
 .rw[iC h];exact s b o .Z
theorem QF{D:U}{g:TG}{w:TT}{f:TE}{r:@n}{σ:L2.St}{B:Hp}{t:.aq}{J:It}(Pv:Nat->.aq)(a:.x9)(q:∀H,Pv n H->J.stop n H)(k:∀i H,i<n->Pv i H->.l3)(M:∀i H x L,i<n->Pv i H->.l4->g x (.aW r) L λl I=>.mx l r/\.ya)(Q:∀H,Pv n H->t H):∃W:.gY,.gZ/\∀i m H,.ko->(.s5/\t H)\/(.l3/\∃c:.aq,.ti/\∀x L,.l4->.sg g x r L l):=by
 refine .Dk;rintro i m H⟨rfl,Y,p⟩;by_cases s:i<n;.exact @n #[k i H s p,Pv .ah,λL v=>.s8,.h]
 grind
def vu(kvs:.aI):.L:=.cu .vw
theorem Bk{a D:U}{o:jA}{g:TG}{w:TT}{r:TE}{c:@n}{σ:L2.St}{B:Hp}{t:.aq}(R:.nF)(p:.gW)(u:.nH)(A:.gc)(hl:B a=O (.cJ .c0))(hz:.aN<=@Q)(step:∀(i:Nat)(x:V)(L:Hp)(Ky:.gQ)(Kn:.aq),(vu kvs)[i]? =O x->iu B L->.vj->(∀C T,iu L T->p x=f'->.zQ->Ky C T)->.FY->.f0 λl I=>.mx l c/\w l I λb h=>if b=f' then r l h Ky else Kn h)(hd:∀f ys,iu B f->f D=.ji ys->iX (R (.be f)) ((vu kvs).filter p) ys->t f):∃W:.gY,.gZ/\∀i m H,.ko->((yz a o kvs).stop i H/\t H)\/((yz a o kvs).go i H/\∃q:.aq,(∀L,q L->.zR)/\∀x L,(yz a o kvs).pq i H x L->.f0 λl I=>.mx l c/\w l I λb h=>if b=f' then r l h λC T=>.rm T D q (acc++[C])else q h):=by
 have aa:(vu kvs).length=.aN:=by grind[vu]
 refine QF (n:=kvs.length) (.dd (vu kvs)) (Made.zero A) (λH M=>#[M.1 _ _ hl,.bV]) (λi H Y M=>#[M.1 _ _ hl,Y]) (λi H x L Y M C=>?_) λH M=>?_
 .obtain⟨rfl,k,v,e,rfl⟩:=C;have J:(vu kvs)[i]? =O (kV k):=by grind[vu]
  exact step i _ L _ _ J M.1 (by let#[_,ys,h1,_]:=M;grind) (λC T s Q hR=>M.yes u A J s Q hR @h) (λh s Q=>M.no u J s Q)
 .rw[<-aa]at M;let#[s1,ys,h1,h2]:=M.all;grind
end Tm
namespace Tm
open PySem PySem.Spec PyProof.Rows L2
open Vaattx(Rec Flat)
def yf(p:V)(v:V)(Q:V):.bg:=.qt Q v p
def oS(r:V)(k:V):.bg:=jx "nodes" k (jx "root" r [])
theorem vX:.gZ ("production":iA)=O p:=rfl
theorem yZ:.gZ ("value":iA)=O v:=rfl
theorem qt:.gZ ("children":iA)=O c:=rfl
theorem rR{n:V}:(oS r n).lookup ("root":iA)=O r:=rfl
theorem kI{n:V}:(oS r n).lookup ("nodes":iA)=O n:=rfl
structure Tc where
 g:Gc
 Cn:U
 Ct:U
 i7:List U
 P:List Mx.MProd
def Tc.own(t:Tc)(i:Nat):.ab:=(.f3 Mx.MProd.own).getD ij
def Tc.left(t:Tc)(i:Nat):@n:=(.f3 Mx.MProd.left).getD []
def Tc.want(t:Tc)(i:Nat):.aJ:=(.f3 Mx.MProd.kids).getD []
def Tc.name(t:Tc)(i:Nat):@n:=(.f3 .nQ).getD []
structure kb(K:jd)(t:Tc):Prop where
 G:kM K t.g
 nc:lS K t.Cn
 nP:jV K t.Cn "production"
 nV:jV K t.Cn "value"
 nC:jV K t.Cn "children"
 tc:lS K t.Ct
 tR:jV K t.Ct "root"
 tN:jV K t.Ct "nodes"
 nr:t.Cn≠t.g.Cr
 tr:t.Ct≠t.g.Cr
def valOf(t:Tc)(r:Rec):V:=if .eb=f' then .h r.num else .iM
def iK(l:@n):.L:=@M λ(n:Nat)=>@Z .aY
def kC(t:Tc)(H:Hp)(a:U)(r:Rec):.n:=∃I Q p,H a=.qb I (.as r) (@h Q)/\t.i7[r.prod]? =O p/\H Q=.nW/\.bO<.rg/\.cs<=4000
def iF(as:@D)(rs:.cP):.aI:=(as.zip rs).map λx=>.Gq
def vg(t:Tc)(H:Hp)(k:U)(rs:.cP):.n:=∃as,Rd H k (.dK .dN)/\.ey rs/\(.bP .al).Nodup/\rs.length<=4000
def sj(t:Tc)(H:Hp)(x:U)(F:@H):.n:=∃g k,.vx/\vg t H k .dq
def pI(t:Tc)(H:Hp):.n:=iX (tH t.g H) t.i7 t.P
theorem kC.keep(h:.aH H a r)(s:.I):.aH L a r:=by let#[I,Q,p,D,M,c,B]:=h;exact#[I,Q,p,.ff,M,.ae c,B]
theorem vg.keep(h:vg t H k rs)(s:.I):vg t L k rs:=by
 let#[as,D,M,r]:=h;refine#[as,?_,.mJ M.imp s,r];rcases D with D|⟨o,D⟩;.exact .n .ff
 .exact @n #[o,.ff]
theorem sj.keep(h:.nX)(s:.I):sj t L x F:=by let#[g,k,D,M]:=h;exact#[g,k,.ff,M.keep s]
theorem pI.keep(h:.gp)(s:.I)(T:kM K t.g):pI t L:=iX.imp h (.mO s T)
theorem pI.get(h:.gp)(Q:t.i7[i]? =O p):∃m,t.P[i]? =O m/\tH t.g H p m:=iX.get h i p Q
theorem ub(z:Int):∀{as:@D}{rs:.cP},.rh->(.z4=e'/\(∀r∈rs,.hI≠z))\/∃r a,.z4=.fz/\.hI=z/\.ez .vy=O r/\r∈rs/\Q a r
 |_,_,.nil=>.n #[y,@E]|a::as,r::rs,.cons h q=>by
  by_cases e:.hI=z
  .refine @n #[r,a,?_,e,?_,jO,h];.show jN (((a,r)::as.zip rs).map _) _=_;grind[qJ]
   grind
  .have A:jN (iF (a::as) (r::rs)) (iO z)=.z4:=.n5 ((a,r)::as.zip rs) (λq=>e (C2 q))
   have g:(r::rs).find? .vy=.ez .vy:=.h
   rw[A,g];rcases ub z q with⟨D,M⟩|⟨m,v,D,M,c,B,T⟩;.grind
   grind
theorem Ib(F:@H)(n:Nat):F.recs.find? (λr=>.hI==.aY)=jq F n:=by grind[jq]
theorem vg.at(h:vg t H k .dq)(c:.fW):∃a,.Gr:=by
 let#[as,D,M,_]:=h;rcases ub (n:Int) M with⟨C,A⟩|⟨m,a,C,_,g,_,L⟩
 .have:=sI c;have f:.hI=n:=by have:=CH c;grind
  grind
 .rw[Ib,c]at g;cases g;exact#[a,.n #[_,.ec,D,y,C.symm],L]
theorem kC.lock(h:.aH H a r)(f:.ri\/∃o,.pS):.aH (@z d v) a r:=by
 let#[I,Q,p,D,M,c,B]:=h;have T:∀{b:U}{o:HO},.cn->.z5->(∀q x,o≠.iT q x)->b≠d:=.h
 exact#[I,Q,p,.ma (T D .rj .z6) D,M,.ma (T c .rj .z6) c,B]
theorem vg.lock(h:vg t H k rs)(T:.ri):vg t (@z d (.iT od .c0)) k rs:=by
 let#[as,D,M,r]:=h;refine#[as,?_,M.imp λa b q=>q.lock (.n T),r];by_cases e:k=d
 .subst e;rcases D with D|⟨o,D⟩;.rw[T]at D;cases D;exact @n #[od,iG]
  grind
 .rcases D with D|⟨o,D⟩;.exact .n (.ma e D)
  .exact @n #[o,.ma e D]
theorem sj.lock(h:.nX)(T:.ri):sj t (@z d (.iT od .c0)) x F:=by let#[g,k,D,M]:=h;exact#[g,k,.Z,M.lock T]
def DQ(t:Tc):Sp:=λg H Q _=>∃(x:U)(F:Flat)(n:Nat)(r:Rec),g=[.a2,.cd]/\.nX/\.gp/\.fW/\Q (.jj (t.left r.prod)) H
abbrev Qh:i5:=top 39
theorem aiQ:jb .ch .ch (i4 Qh):=.J
theorem ahx(F:.D "symbol_of" Qh f v)(T:.az):.fg 1 f v .ch (DQ t):=by
 refine .t aiQ λab A ac s H vs Q E c h=>?_;obtain⟨x,F',n,r,rfl,⟨g,C,D,M⟩,u,B,k⟩:=h;let#[a,U,I,cl,p,Y,l,g5,g6,_]:=M.at B;let#[m,q1,q,ae,rl,rs,L,_]:=u.get l;refine .jW (iL (iL (qx (og c) .cM @M .ai) y) y);have e:.nY=m.left:=by grind[Tc.left]
 rw[e]at k;exact#[_,y,x,.ar,g,_,_,y,D,.as,.bb,kI,_,y,C,_,y,U,a,.aQ,I,_,_,y,Y,.aT,T.nP,vX,p,t.g.Cp,q,_,_,y,L,T.G.p,T.G.pL,C',k]
def j7(t:Tc)(H:Hp)(x:U)(F:@H):.n:=∃g k as,.vx/\H k=.jo (iF as .dq)/\.ey .dq/\.lc/\.rk<=4000
theorem j7.at(h:.gq):.nX:=by let#[g,k,as,D,M,r]:=h;exact#[g,k,D,as,.n M,r]
theorem j7.keep(h:.gq)(s:.I):j7 t L x F:=by let#[g,k,as,D,M,r,B]:=h;exact#[g,k,as,.ff,.ae M,.mJ r.imp s,B]
theorem zk(h:.dN[i]? =O (k,v)):∃a r,.i8/\rs[i]? =O r/\k=.jf r.id/\v=.aX:=by grind[iF]
theorem oB(h:.rh):(.dN).length=rs.length:=by unfold iF;rw[i0,ace,h.len,Nat.min_self]
theorem ints_in(n:Nat)(l:@n):kE .cd (iK l)=l.contains n:=by unfold kE iK;rw[Le,List.contains_eq_any_beq];congr 1;funext m;show((m:Int)==.aY)=(n==m);grind
theorem agB(l:@n):(iK l).all uq=f':=by unfold iK;rw[SG];exact xp.mpr λ_ _=>y
theorem lj(l:@n):(iK l).length=.ac:=.ld
def mG(F:@H)(n:Nat):.gs:=F.recs.find? λr=>.vA
def idV:.gs->V
 |e'=>.iM|O r=>.h .am
def Ny(t:Tc):Sp:=λg H Q _=>∃(x:U)(F:Flat)(n:Nat),g=[.a2,.cd]/\.gq/\∀L,.I->Q (idV (mG F n)) L
abbrev Pn:i5:=top 48
abbrev Pe:i5:=top 49
theorem NF:jb ["tree","number","other","node"] .ch (i4 Pn):=.J
theorem af6(F:.D "parent_of" Pn f fd)(T:.az):@H ai .aG 1 f fd .ch (Ny t):=by
 refine .t NF .zg;obtain⟨x,U,n,rfl,⟨B,Y,as,h1,M,D,h4,h5⟩,k⟩:=h;refine .md (xU (.bo (NM .aE) (zG y (rr (.bZ NF.nd y @q) (rr (.a3 NF.nd y @q) zz))) (iE (jh (ju ua @M (.jg 3) .z) .lf jn)))) (iE (iR pJ));have ac:=oB D;refine#[Y,_,M,.dE,λl=>?_];have ae:@z Y .vB x=.pi B (.h U.root) (@h Y):=.Z
 refine#[_,y,x,.ar,B,_,_,y,ae,.as,.bb,kI,Y,l,_,y,iG,MY (d:=Y) (o:=l) (kvs:=.vC) (λi σ L=>∃q m:.aV,σ=[.fh,.jh n,q,m]/\iu (@z Y .vB) L/\∀r∈U.recs.take i,.vA=ij) .Gs (λi σ L#[_,_,_,c,_]=>c _ _ iG) ?_ ?_]
 .rintro i ky v σ L I hi⟨q,m,rfl,c,aa⟩hT;obtain⟨a,r,ha,C,rfl,rfl⟩:=zk hi;let#[r2,ab,dn,u,p,g1,g2,g3,g4]:=D.get i a ha;rw[C]at ab;cases ab;have g:=.dF (@t (o:=.lg) hT);have af:@z Y .vB a=.qb dn (.as r) .fS:=.Z
  have ag:@z Y .vB u=.nW:=.Z
  refine .lf I;refine#[_,y,_,y,a,.aQ,dn,_,_,y,.b1 af,.aT,T.nC,qt,u,_,y,.jD (.b1 ag),y,agB _,_,y,?_];show if kE .cd (iK .bj)=f' then _ else _;rw[ints_in];cases hc:.vA with
  |true=>
   refine iQ #[_,y,.b1 iG,?_];have e:mG U n=O r:=by
    unfold mG;rw[J7];refine#[hc,i,.jQ C,(o1.mp C).2,λj hj=>?_];have al:j<U.recs.length:=.h
    have am:U.recs[j]∈U.recs.take i:=.k8 j
    grind
   have:=k (upd (.aD I .lg) Y .fk) (xN M g);rw[e]at this;ext Q|false=>refine iU #[_,_,y,g,λr' ah=>?_];rw[.a2 C]at ah;grind
 .rintro σ L⟨q,m,rfl,c,aa⟩;rw[ac,pB]at aa;have e:mG U n=e':=by grind[mG]
  have:=k (.aD Y .fk) (xN M c);rw[e]at this;exact#[c _ _ iG,.bM]
inductive Within(F:Flat)(o:Nat):Nat->Prop
 |here:Within F o o
 |up{n:Nat}{r:Rec}(h:mG F n=some r)(w:Within F o r.id):Within F o n
def WJ(t:Tc):Sp:=λg H Q _=>∃(x:U)(F:Flat)(n o:Nat)(M:.dr),g=[.a2,.cd,.h o]/\.gq/\(∀n r,mG F n=O r->M .am<M n)/\∀b L,.I->(b=f'↔.nZ)->.pc Q b L
theorem afj(h:n≠o)(Q:mG F n=e'):¬.nZ:=λw=>by
 cases w with
 |here=>exact h y|up e _=>grind
theorem afi(h:n≠o)(Q:mG F n=O r):.nZ↔.b3 F o .am:=by
 ext n;.intro w;cases w with
  |here=>omega|up e w=>grind
 .exact λw=>.up Q w
def ES:.ga->V
 |e'=>.iM|O n=>.cd
theorem ajC(o:.gs):idV o=ES (o.map .al):=by cases o<;>rfl
theorem ND:jb ["tree","number","other","above"] .vE (i4 Pe):=.J
theorem afS(F:.D "is_within" Pe f c)(C:.ck "parent_of" 1 .ch (Ny t) fp ab):@H g .aG 2 f c .vE (WJ t):=by
 refine .t ND λac A ae s H vs Q E U h=>?_;obtain⟨x,v,n,o,M,rfl,D,af,k⟩:=h;refine .md (.aL ND.nd y @q @M) (iy (.bv (.mT (tF (OM .ak)) (Bf (.bN .ak .ad .aw))) (iE (.aL ND.nd y @q (n8 C U (.mb 0 3))))) (.jb (pG mH .ak .ad .aw)));let W:.cp:=λm σ L=>∃a:.ga,σ=[.fh,.jh n,O (.h o),O (ES a)]/\m=(match a with|e'=>0|O a=>M a+1)/\.I/\(.b3 v o n↔∃b,a=O b/\.b3 v o b);refine#[_,y,W,#[_,O n,y,y,iu.refl _,@E],?_];rintro m σ L⟨a,rfl,rfl,B,p⟩;cases a with
 |none=>refine#[_,y,_,y,iU .Gu];rw[p];exact#[λq=>(by cases .kd q),@E]|some a=>
  refine#[_,y,_,y,iQ #[_,y,_,y,y,_,y,?_]];by_cases l:a=o;.subst l;rw[.Gv];refine .Gu;rw[.Gv,p];exact#[λ_=>#[a,y,.here],.cY]
  .have aa:¬ES (O a)=@Z (o:Int):=λq=>.m7 l q;rw[ir aa];refine iQ #[λT I=>∃u,u<_/\W u T I,λT I q=>q,?_];refine#[_,y,_,y,x,v,a,y,D.keep B,λI s2=>?_];rw[ajC];refine#[_,?_,(mG v a).map .al,y,y,B.trans s2,?_];.cases hp:mG v a with
    |none=>simp|some r=>grind
   .rw[p];cases hp:mG v a with
    |none=>grind[afj]|some r=>grind[afi]
end Tm
namespace Mx
open Vaattx
mutual
inductive Tr(F:Flat):Nat->List Nat->Nat->Prop
 |node{n:Nat}{r:Rec}{l:List Nat}{d:Nat}(h:recOf F n=some r)(k:jM F r.kids l d):Tr F n (n::l) (d+1)
inductive jM(F:Flat):List Nat->List Nat->Nat->Prop
 |nil:jM F [] [] 0
 |cons{n:Nat}{ns l l':List Nat}{d d':Nat}(a:Tr F n l d)(b:jM F ns l' d'):jM F (n::ns) (l++l') (md d d')
end
theorem jM.append:∀{a b l H:@n}{d t:Nat},jM F a l d->jM F b H t->jM F (a++b) (l++H) (md d t)
 |_,_,_,_,_,_,.nil,h=>by assumption|_,_,_,_,_,_,.cons x C,h=>by have:=jM.append C h;rw[rP];have e:∀a b c:Nat,md (md a b) c=md a (md b c):=λa b c=>Nat.max_assoc a b c;rw[e];exact .J x .bM
theorem wm(h:.ed):.cU F n=.bj:=by grind[kidsOf]
mutual
theorem Tr.nodes:∀{n:Nat}{l:@n}{d:Nat},.dO->∀f,d<=f->below_ F f n=l
 |_,_,_,.node (r:=r) h k,f,Q=>by
  match f,Q with
  |f+1,Q=>rw[below_];rw[wm h,jM.nodes k f @h]
theorem jM.nodes:∀{w l:@n}{d:Nat},.fl->∀f,d<=f->(.aE (below_ F f)).flatten=l
 |_,_,_,.nil,f,Q=>y|_,_,_,.cons (d:=d) (d':=t) a b,f,Q=>by
  have D:d<=f:=.h
  have M:t<=f:=.h
  rw[j6,abZ,Tr.nodes a f D,jM.nodes b f M]
end
theorem foldl_max(l:@n):∀a:Nat,l.foldl md a=md a (l.foldl md 0):=by
 induction l with
 |nil=>simp|cons x r I=>grind
mutual
theorem Tr.levels:∀{n:Nat}{l:@n}{d:Nat},.dO->∀f,d<=f->levelsFrom F f n=d
 |_,_,_,.node (r:=r) h k,f,Q=>by
  match f,Q with
  |f+1,Q=>rw[levelsFrom];rw[wm h,jM.levels k f @h,Nat.add_comm]
theorem jM.levels:∀{w l:@n}{d:Nat},.fl->∀f,d<=f->(.aE (levelsFrom F f)).foldl md 0=d
 |_,_,_,.nil,f,Q=>y|_,_,_,.cons (d:=d) (d':=t) a b,f,Q=>by
  have D:d<=f:=.h
  have M:t<=f:=.h
  rw[j6,acf,foldl_max,Tr.levels a f D,jM.levels b f M];rfl
end
theorem Tr.head(h:.dO):∃r H,.ed/\l=n::H/\1<=d:=by
 cases h with
 |node h k=>grind
mutual
theorem Tr.recs:∀{n:Nat}{l:@n}{d:Nat},.dO->∀m∈l,∃r,.fm
 |_,_,_,.node h k,m,M=>by
  rcases kc.mp M with rfl|M;.grind
  .exact jM.recs k m M
theorem jM.recs:∀{w l:@n}{d:Nat},.fl->∀m∈l,∃r,.fm
 |_,_,_,.nil,m,M=>.jr M|_,_,_,.cons a b,m,M=>by
  rcases k8.mp M with h|h;.exact Tr.recs a m h
  .exact jM.recs b m h
end
end Mx
namespace Tm
open PySem PySem.Spec PyProof.Rows L2
open Vaattx(Rec Flat)
abbrev N6:i5:=top 45
structure Bm(H:Hp)(d:U)(f:Nat->Nat):Prop where
 is:∃kvs,H d=O (.dK kvs)/\∀n:Nat,(jN kvs (iO (n:Int))).getD (.int n)=.int (f n)
theorem Bm.keep(h:Bm H d f)(s:.I):Bm L d f:=by let#[kvs,D,M]:=h.is;exact#[kvs,.ff,M]
def recsOf(F:@H)(l:@n):.cP:=.c1 (jq F)
def Ha(t:Tc):Sp:=λg H Q _=>∃(k ins:U)(F:Flat)(root:Nat)(f:.dr)(l:@n)(d:Nat),g=[.h .cj,@h k,@h ins]/\vg t H k .dq/\Bm H ins f/\.bf (mw f F) (f .cj) l d/\.eK/\.n0/\∀x L,.I->j7 t .dl x #[f .cj,.bp (mw f F) l]->.kh
theorem yX:jq (mw f F) n=(jq F n).map λr=>.rl:=by unfold jq mw;show(.eB _).find? _=_;rw[FH];rfl
theorem nZ(h:.fW):.am=n:=by have M:=CH (.rk r.id n r h);grind
def Q9(f:.dr)(_:Hp)(x C:V):.n:=∃c:Nat,x=.h c/\C=.h (f c)
theorem NU:∀{l:@n}{ys:.L},iX (Q9 f H) (iK l) ys->ys=iK (@M f)
 |[],_,h=>.ge|n::l,_,h=>by
  cases h with
  |cons h t=>
   ext bG
   ext Y;rw[NU (l:=l) t];rfl
theorem agZ(h:Mx.jM F (n::st) l d):∃r c x,.fW/\l=n::c/\Mx.jM F .n1 c x:=by
 cases h with
 |cons a b=>
  cases a with
  |node h k=>exact#[_,_,_,h,y,k.append b]
theorem X5:∀{st l:@n}{d:Nat},Mx.jM F st l d->.hJ<=.ac
 |_,_,_,.nil=>.au|_,_,_,.cons a b=>by have D:=X5 b;ext bH
theorem wa:jb ["root","nodes","instead","kept","new_root","waiting","number","node","children","child"] .n2 (i4 N6):=.J
theorem aeH(F:.D "rebuilt" N6 f0 fd)(T:.az)(ah:mg "reversed"=e')(RN:.m9 ao 3)(RT:.na ao 2):@H ao .aG 3 f0 fd .n2 (Ha t):=by
 refine .t wa λa1 A a2 s H vs Q E hr h=>?_;obtain⟨nd,ins,F',root,f,l,d,rfl,hN,hI,aC,a3,a4,k⟩:=h;ext am;refine#[_,iy (.aL wa.nd y @q DE) (iy (.bE wa.nd y @q (Xe hu .ad .ae .ae .k4)) (iy (.db wa.nd y @q (jF .n3)) (iy (.bv (xP .cq .cY) (iy (.eC wa.nd y @q (PX lE Ry Rw P0 .cq)) (iy (i8 (i:=7) wa.nd y @q (.ff .dM .ai)) (iy (ue (i:=8) (te:=Zn (i9 2) (i9 9) (i9 9)) y wa.nd y y .z (kJ (.jg 7)) (.kX 9) (λ_ _ _ _ _=>jK (i:=9) wa.nd y @q) .bA (λ_ _ _ _ _=>Xe hu .ad (J 9) (J 9) .k4)) (iy (zx hu .ak .dM (qS RN hr (Y (.jg 7) (Y (.jg 7) (.js 8)))) y) (iE (.bo (Td .z ah (.js 8)) (jK (i:=9) wa.nd y @q) (.jx (.ch (J 5) (.js 9)))))))))) (.pv RT hr (.mb 4 3))))),?_];intro g ai;have sA:.I .n4:=@t ai;let#[ik,i1,i2]:=(hI.keep sA).is;have e0:=i2 .cj;refine#[_,y,ins,y,.n #[ik,.n i1],_,y,_,y,_,lZ.k (k:=iO (root:Int)) i1,?_];show .n6 4 (O ((jN ik (iO (root:Int))).getD (.h .cj)));rw[e0];refine#[_,y,@Z,λv ap=>?_];have sB:iu .n4 (upd .n4 v .rm):=@t ap;have aq:H v=e':=sA.free ap;have aj:upd .n4 v .rm g=O .d1:=sB _ _ iG;have ab:upd .n4 v .rm v=O .rm:=iG;have aD:g≠v:=.h
 have ak:=sA.trans sB;generalize upd .n4 v .rm=B at sB aj ab ak⊢;let W:.cp:=λm σ L=>∃(st:@n)(as:@D)(u:.cP)(lr:@n)(dr:Nat)(v6 v7 v8 v9:.aV),σ=[O (.h .cj),.ja nd,O (@h ins),.ja g,.jh (f .cj),.ja v,v6,v7,v8,v9]/\m=lr.length/\.I/\Ext B L/\L g=.jo (iF as u)/\L v=.lh/\iX (.mD B L) as u/\Mx.jM .ro st lr dr/\l=u.map .al++lr/\u=.bp .ro (u.map .al);have aE:Mx.jM .ro [f .cj] l (md d 0):=by have:=Mx.jM.cons aC .nil;grind
 refine .jY #[_,[f .cj],[],[],l,_,e',e',e',e',y,y,ak,.q1,aj,ab,.nil,aE,y,y];rintro m σ L⟨st,as,u,lr,dr,v6,v7,v8,v9,rfl,rfl,sm,xt,aF,ac,hA,al,el,eK⟩;refine .ks ac;cases st with
 |nil=>
  ext L;cases al;rw[t8]at el;refine#[_,y,_,y,y,λx dx H9 nx aG s9 M=>?_];refine k x H9 (.d4 s9) #[dx,g,as,?_,?_,?_,?_,?_];.rw[lh (sm.free nx)];exact M
  .rw[lh ai];show H9 g=O (HO.dK (.bg (.bp .ro l)));rw[el,<-eK];exact s9 _ _ aF
  .show iX _ as (.bp .ro l);rw[el,<-eK];exact hA.imp λa b q=>.bD (.nE s9 ak)
  .grind
  grind|cons n st=>
  have aH:.lg (n::st):=.z7
  rw[aH];refine iQ #[λσ' I=>∃m',m'<lr.length/\.cT I,.kX,?_];obtain⟨r,l1,d1,ar,rfl,aI⟩:=agZ al;have au:=ar;rw[yX]at au;let#[r0,aJ,er]:=.M au;have aK:.bj=r0.kids.map f:=by rw[<-er]
  have av:.am=n:=nZ ar;have aL:.Gw:=.ld
  rw[aL]at ac;refine .ou ac v;rw[RD];have aM:∀xs,.I (.pa L v xs):=λxs b o e=>.pf (jg e aq) sm e
  have a5:=λxs=>.rh B L xs ab;have aw:.aD v (@E .eL) g=.jo (iF as u):=.Z
  have ax:.aD v (@E .eL) v=.lh:=iG;have ae:=aM .eL;have af:iX (.mD B (.pa L v .eL)) as u:=.h
  have ag:Ext B (.pa L v .eL):=xt.trans .rq;generalize .pa L v .eL=H1 at aw ax ae af ag⊢;let#[a,dg,dn,cl,p,g1,g2,g3,g4,g5]:=(hN.keep ae).at aJ;refine#[_,y,_,y,nd,_,y,dg,?_];let#[aN,j1,j2]:=(hI.keep ae).is;refine#[_,y,a,.aQ,dn,_,_,y,g1,.aT,T.nC,qt,cl,y,.jd g3,λD hD=>oP (Q9 f) .bF .b9 hD (@D g3) (.kH g5) (λi x I Ky Kn M s2 a6 hy hn=>?_) λI ys s2 am ay=>?_];.unfold iK at M;rw[jI]at M;obtain⟨c,hc,rfl⟩:=.M M;refine .jF #[_,y,ins,y,.n #[aN,.n (.cV j1)],_,y,_,y,_,lZ.k (k:=.jf c) (.cV j1),hy _ I .bN y #[c,y,j2 c]]
  rw[mU]at ay;have aO:=NU ay;subst aO;rw[<-aK]at am;refine#[_,y,a,.aQ,dn,_,_,y,.cV g1,.aT,T.nP,vX,_,y,a,.aQ,dn,_,_,y,.cV g1,.aT,T.nV,yZ,_,y,y,λx dx C nx aG s6 M=>?_];have aa:=.eD s6;have aP:u.length<=4000:=.h
  have aQ:jN (.bg u) .ec=e':=by grind[ub]
  refine .rq g n (aa _ _ aw) (by rw[oB af];exact qp aP .E);rw[A4 _ aQ];have aR:.bg u++[(.d5,.ap x)]=.n5:=by unfold iF;rw[KG af.len,mR,<-av];rfl
  rw[aR];have aS:D≠v:=.h
  have aT:D≠g:=.h
  have aU:B x=e':=(ag x).1 (s2.free nx);have aV:.gc:=(ag D).1 hD;have nk:=.rr B C .n5 aj;have aW:.pJ C g .n5=.jo .n5:=iG;have aX:upd C g (.dK .n5) v=.lh:=.pf (my aD) aa ax
  have an:upd C g (.dK .n5) D=.nW:=.pf aT s6 am
  have az:.I .vH:=.rg e ai aa ae
  have aA:Ext B .vH:=.m0 ag.trans (.de aa);have ek:.as r0=.as r:=.kv er
  have ep:.bO=r0.prod:=by rw[<-er]
  have aY:iX (.mD B .vH) (as++[x]) (u++[r]):=by
   rw[nk];refine(.nF af.imp aa).snoc #[dx,D,p,?_,.h,?_,.t,.h];.rw[lh aU,<-ek];exact M
   .rw[lh aV];exact s6 _ _ am
  generalize .vH=H7 at aW aX an az aA aY⊢;have a7:.cs<=4000:=.h
  have a8:.hJ<=4000:=by have:=X5 al;grind
  refine#[_,y,D,_,y,@D an,Ek (J:=J5 K D .z8) (n:=r.kids.length) (λi σ I=>∃v9:.aV,σ=[O (.h .cj),.ja nd,O (@h ins),.ja g,.jh (f .cj),.ja v,.jh n,.fz,.ja D,v9]/\I=.pa H7 v .Gx) #[v9,y,?_] (λσ I _=>.Gy) ?_ ?_ ?_];.grind[iG,iC]
  .rintro i σ I hi⟨aB,rfl,rfl⟩;ext ba
   refine .Gz;grind[iK,jI]
  .rintro i σ I aZ H3 hi⟨aB,rfl,rfl⟩⟨rfl,hy⟩;ext ba
   have h8:=hy (iK .bj) (@D (.ma aS an));rw[lj]at h8;unfold iK at h8;rw[jI,mP hj]at h8;have h8:.GA=aZ:=pD h8;subst h8;refine .lA v;.rw[lj,j9,Ck,Fy,Ck];exact .kI 8000
   .rw[mz];congr 2;have ah:.GB:=.h
    rw[.a2 ah,<-rP];grind[iK]
  .rintro σ I⟨aB,rfl,rfl⟩;have a0:.GC:=by grind[Ck]
   rw[a0];have nf:=.rh B H7 (iK (.n1).reverse) ab;refine#[l1.length,@E,.n1,as++[x],u++[r],l1,d1,_,_,_,_,y,y,.cx,aA.trans .rq,?_,iG,?_,aI,?_,?_];.rw[.mc e aq];exact az _ _ e
   .ext M
   .grind
   .grind
   .rw[mR,List.map_singleton,av];unfold recsOf;grind[recsOf]
end Tm
namespace L2
open PySem PySem.Spec PyProof.Rows
theorem ai4(p:.cW):.H .xI (λσ H Q=>.ab λx B=>∃k,Q4 X.K x B k/\.pc Q (!k) B):=by ext q;refine UnaryOp_ (.br λv m#[x,B,D,r1,k,M,L]=>?_);exact not_of (iW (Zj @t m σ B x v (λk H=>.pc Q (!k) H) D r1 #[k,M,L]) λc g#[f,l,q]=>#[.bl (!c),f,l,y,q])
end L2
namespace Tm
open PySem PySem.Spec PyProof.Rows L2
open Vaattx(Rec Flat)
abbrev Mq:i5:=top 42
abbrev Qk:i5:=top 43
def zV:.dD->V
 |e'=>.iM|O z=>.ds
def Yi(t:Tc):Sp:=Et t.g Mx.tE λ_ v z=>v=zV z
theorem Rs.QR(B:.ea)(c:v≠R.l)(L:H v=.eZ):Rs x (.bu v ys) R us:=by
 ext cB
 .ext bF;.rw[l,p.ins]at L;cases L
  .grind
  grind
def mu(r a:U)(H L:Hp):.n:=∀b o,.cn->b≠r->b≠a->.e6
theorem mu.refl(r a:U)(H:Hp):.d5 H:=λ_ _ h _ _=>h
theorem mu.trans(x:.d5 B)(C:mu r a B I):.d5 I:=λb o h T p=>C b o (x b o h T p) T p
theorem mu.of(u:.cR L):.d5 L:=λb o h T _=>.bw h T
theorem mu.upd(r a:U)(H:Hp)(o:HO):.d5 .j2:=λb x h _ p=>.ma p h
def Yo(t:Tc):Sp:=λg H Q E=>∃(R:kG)(us:.aj)(v:U)(st:@n),g=[.hw,@h v]/\.mQ H us/\H v=.lh/\v≠R.l/\match .vI with
 |([],p)=>.GD|(x::k,p)=>match .aq 44 p with
  |e'=>.z9|O l=>.rs L l v (x::k)
theorem adF:jb .bE .bE (i4 Mq):=.cJ
theorem ahv{P:kS}{w:jR}{K:jd}{mg:.cV}{u:jo}{t:Tc}{f:U}{c:iZ}(F:.D "read_value" Mq f c)(M:.Ab):.bG 3 f c .bE (Yi t):=by
 refine .t adF λab A ac s H vs Q E g h=>?_;ext aJ;have T:.b8:=.k6;refine .md (jh (.m6 M g) (.jb (Z0 Zh (.mH M T))) jn) (iy (jh (.n4 M T) (.jb (.mH M T)) jn) (iE (iR pJ)));unfold Mx.tE at k;refine .fY (.mq B.sign 45) (λY a m L=>?_) (λY=>?_)
 .rw[ip Y]at k;refine .gj;refine m.take y .E (xD m.ok) (λl I C D=>?_) (λl=>?_);.let#[x,r,e,v]:=ta l;rw[e,.g0 v]at k;rw[e]at C⊢;rw[FW (.ej v)];exact#[_,y,k _ I C y (.dP D)]
  .rw[xQ (f:=Mx.isNum) l]at k;exact k a L
 .rw[il (by rw[Y];decide)]at k;ext al;ext z;refine B.kind y .np;by_cases hk:.uK;.rw[.lb .bt];obtain⟨x,r,rfl,v⟩:=.la B.ok;rw[.g0 v]at k;ext aa;refine B.take (p:=f') y .E .q (λ_ a m L=>?_) .i4;rw[FW (.ej v)];exact k _ a m y L
  .rw[.zs];have aa:.vJ=ij:=by
    cases h:.vJ with
    |false=>rfl|true=>exact .GE
   rw[xQ aa]at k;exact iU (k _ H B y .k8)
theorem aiS:jb .rr .rr (i4 Qk):=.J
theorem ahH{P:kS}{w:jR}{K:jd}{mg:.cV}{u:jo}{t:Tc}{f:U}{fd:iZ}(F:.D "end_brackets" Qk f fd)(M:.Ab):.bG 3 f fd .rr (Yo t):=by
 refine .t aiS .Ae;obtain⟨R,us,v,st,rfl,B,ab,ac,k⟩:=h;refine .md (.bv (.mT (xP @M .cY) (Bf (.m6 M hr))) (.jx (PX lE Ry Rw P0 @M))) (.pI (xP @M .cY) (.kq (nM M (.e6 @h) iI .ae)) (ai4 @M));let Fin:@n×.aj->.n:=λq=>match q with
  |([],p)=>.GD|(x::Y,p)=>match .aq 44 p with
   |e'=>.z9|O l=>.rs L l v (x::Y);let W:.cp:=λm σ L=>∃(Y:@n)(p:.aj),σ=[.eH,.ja v]/\m=Y.length/\.mQ L p/\L v=.ji (iK Y.reverse)/\.vK/\Fin (Mx.oV Y p);refine .jY #[_,st,us,y,y,B,ab,mu.refl _ _ _,k];rintro m σ L⟨Y,p,rfl,rfl,a,g,T,D⟩;refine .ks g;cases Y with
 |nil=>refine iU (iU ?_);refine#[_,y,_,.n #[_,@D g,y],iU (.ks g)];exact D L a g T|cons x C=>
  have r:.lg (x::C):=.z7
  have ae:.Af=iK C.reverse++[.jq x]:=.ld
  rw[r];ext aa;refine a.skip y .E (.mq a.sign 41) (λhp H1 B1 u1=>?_) .nk
  .refine#[_,y,iQ #[λσ' I=>∃m',m'<(x::C).length/\.cT I,.kX,?_]];have c:H1 v=.ji .Af:=(a.keepR u1).lst g;rw[ae]at c;refine#[_,y,.jl c,v,_,.h x,y,y,c,@E,?_];rw[RD];have ep:Mx.oV (x::C) p=Mx.oV C .d8:=.nw 41 p
   rw[ep]at D;exact#[.pm,@E,C,.d8,y,y,B1.QR ac c,iG,(T.trans (mu.of u1)).trans (mu.upd _ _ _ _),D]
  .ext al;have ep:Mx.oV (x::C) p=(x::C,p):=.nw 41 p
   rw[ep]at D;refine .ks g;rw[r];ext aa;ext z;refine a.take y .E (.mq a.sign 44) (λaf I B2 u2=>?_) (λaf=>?_)
   .have aa:I v=.ji .Af:=(a.keepR u2).lst g;refine .ks aa;rw[r];have e2:.aq 44 p=O .d8:=by grind[Mx.jk]
    have D:(match .aq 44 p with
     |e'=>.z9|O l=>.rs L l v (x::C)):=D;rw[e2]at D;exact D I B2 aa (T.trans (mu.of u2))
   grind[Mx.jk]
end Tm
namespace Tm
open PySem PySem.Spec PyProof.Rows L2
open Vaattx(Rec Flat)
abbrev Nc:i5:=top 41
def yu(t:Tc)(H:Hp)(l:U):.n:=∃a c x,.sb H l t.g.Cg a (Jy c x)/\H x=.jo (wF t.i7 t.P)/\.gp
theorem yu.keep(h:yu t H l)(s:.I)(T:kM K t.g):yu t L l:=by let#[a,c,x,D,M,r]:=h;exact#[a,c,x,.ff,.ae M,.bh s T]
def wH(P:.aP)(c:@n)(l:.dD):.ga:=match P.find? .qu with
 |e'=>e'|O p=>if .ua then P.findIdx? .qu else e'
def wy(P:.aP)(ts:.aj):.E (Mx.jX×.aj):=(Mx.kL mQ ts).bind λt=>(Mx.tE t.2).bind λv=>(wH P .qn v.1).bind .ub
theorem VN(n:@n):∀{as:@D}{P:.aP},iX Q as P->(P.find? .rs=e'/\.Ag=e')\/∃i p a,P.findIdx? .rs=O i/\P.find? .rs=O p/\P[i]? =O p/\.i8/\.Ag=.fz/\Q a p
 |_,_,.nil=>.q9|a::as,p::P,.cons h t=>by
  by_cases e:p.name=n
  .refine @n #[0,p,a,?_,?_,y,y,?_,h];.grind
   .grind
   .show jN (((a,p)::as.zip P).map _) _=_;grind[qJ]
  .have C:(p::P).find? .rs=P.find? .rs:=.h
   have A:jN (wF (a::as) (p::P)) .nK=.Ag:=.n5 ((a,p)::as.zip P) (λq=>e .uO)
   rw[C,A];rcases VN n t with h|⟨i,v,c,D,M,r,B,T,L⟩;.grind
   grind
def tZ(t:Tc)(H:Hp)(x:U×U)(m:Mx.jX):.n:=∃I p,H x.1=.qb I (zV m.num) (@h x.2)/\t.i7[m.prod]? =O p/\.fb<.rg/\.cy .fb=m.num.isSome/\H x.2=.jU .i9
theorem tZ.keep(h:tZ t H x m)(s:.I):tZ t L x m:=by let#[I,p,D,M,r,B,T]:=h;exact#[I,p,.ff,M,r,B,.ae T]
def Rl(t:Tc)(H:Hp)(v:V)(m:Mx.jX):.n:=∃x:U×U,v=@h x.1/\tZ t H x m
def Zt(t:Tc):Sp:=λg H Q E=>∃(R:kG)(us:.aj)(l:U),g=[.hw,.cw]/\.mQ H us/\yu t H l/\oj .an .fX R H (wy t.P us) (Rl t) Q E
theorem L4:jb ["reader","grammar","production","value"] .vL (i4 Nc):=.J
theorem ai'(F:.D "read_node" Nc f fd)(M:.Ab)(T:.az)(Gv:.al "read_value" 3 .bE (Yi t) fv ah)(RN:.m9 u 3):.bG 4 f fd .vL (Zt t):=by
 refine .t L4 .GF;obtain⟨R,us,ga,rfl,B,hG,k⟩:=h;refine#[_,iy (.ag L4.nd y @q (Xf (og c) .fj (nM M .hK iI .ae) .k4)) (iy (.aL L4.nd y @q (.pe Gv c 0)) (iy (jh (PW.pt (Jr (tF (aka .ad)) (Jd (.bN .jh (Je (OM .ak)) .aw)))) .uP jn) (.jZ (qS RN .hK (Y .ad (Y .ak (Y .dJ iw))))))),?_];unfold wy at k;let#[dg,sd,pd,g1,g2,g3]:=hG;refine#[_,y,ga,t.g.Cg,dg,_,_,y,g1,T.G.g,T.G.gP,RW,pd,y,.n #[_,.n g2],?_];refine .gQ (λC H1 m g=>?_) (λC=>?_);ext D;.rw[xQ C]at k;exact k H .k8
 obtain⟨x,r,rfl,hx⟩:=ta C;rw[Mx.qw hx]at k;have k:oj .an .fX R H ((Mx.tE r).bind λv=>(.vM).bind .ub) (Rl t) Q E:=k;rw[AG hx];have m:.mQ H1 r:=m;have af:pI t H1:=iX.imp g3 λa b q=>.bD (B.keepR g) T.G;refine#[_,lZ.k (k:=.jR x.text) ((B.keepR g).dict g2),?_];refine#[_,y,R,r,y,m,?_];cases hq:Mx.tE r with
 |none=>ext aj;exact λH' z=>k H' (.bC z)|some v=>
 ext aj;have k:oj .an .fX R H ((.vM).bind .ub) (Rl t) Q E:=k;refine λvv I D L u2=>?_;have L:vv=zV v.1:=L;subst L;have U:=.bC u2;have ag:.q (zV v.1=.iM)=! .n6:=by
  cases v.1 with
  |none=>rfl|some z=>rfl
 rcases VN x.text (iX.imp af λa b q=>q.keep (m.keepR u2) T.G)with⟨e1,e2⟩|⟨i,p,a,e1,e2,e3,e4,e5,e6⟩
 .rw[e2];have en:.vM=e':=by grind[wH]
  rw[en]at k;exact#[_,y,_,y,iQ (iQ (k I U))]
 .rw[e5];let#[dp,cl,rl,rs,q1,q2]:=e6;refine .qT;show if .q (.ap a=V.iM)=f' then _ else _;rw[ir (by intro q;cases q)];refine iU #[_,y,a,t.g.Cp,dp,_,_,y,q1,T.G.p,T.G.pH,LF,_,y,y,_,y,?_];rw[ag];have ei:.vM=if p.own=.n6 then O i else e':=by grind[wH]
  rw[ei]at k;by_cases l:p.own=.n6
  .rw[ip l]at k;rw[ac0,iq (show V.bl p.own=V.bl .n6 by rw[l])];ext L;refine#[_,y,_,y,.au,λaa ac=>?_];have s3:iu I (.az aa .ap):=@t ac;refine#[y,λab dy H4 ny ak s4 hy=>?_];have n1:=(D.ext U aa).1 ac;have n2:=(D.ext U ab).1 (s3.free ny);have ae:=.cz s4;refine k (@h ab) H4 (D.same ae) #[(ab,aa),y,dy,a,?_,e4,.jQ e3,?_,?_] (.dI (.da ae));.rw[lh n2];exact hy
   .grind[Tc.own]
   .rw[lh n1];exact s4 _ _ iG
  .rw[il l]at k;rw[ac0,ir (show¬V.bl p.own=V.bl .n6 from λq=>l (V.bl.inj q))];exact iQ (k I U)
abbrev Oe:i5:=top 44
def rJ(n:@n):wt:=.jj n
theorem Pa:∀w:.aJ,yn K H (lC w) .n7
 |[]=>.nil|n::w=>.J (@I _) (Pa w)
theorem XP:∀v Q:.aJ,.GG=.q (v=Q)
 |[],[]=>y|[],d::Q=>.Q|c::v,[]=>.Q|c::v,d::Q=>by rw[j6,j6];show((txt c==txt d)&&.GG)=_;rw[XP v Q,yP,qr,beq_iff_eq,decide_eq_true_iff,decide_eq_true_iff,KI,tf]
theorem S7(w:.aJ)(h:∀n∈w,nR n):CT (.list .n7)=f':=by
 have D:∀w:.aJ,(∀n∈w,nR n)->CA .n7=f'/\CF .n7<=0:=by
  intro w;induction w with
  |nil=>exact λ_=>#[y,.bV]|cons n r I=>
   intro h;let#[g1,a]:=I λm M=>h m (nD _ M);refine .m0;.show(K' (txt n)&&CA (r.map rJ))=f';rw[g1,h n jO];rfl
   .show max 0 (CF (r.map rJ))<=0;omega
 let#[g1,a]:=D w h;show(CA .n7&&.q (CF .n7+1<=64))=f';grind
def kK(t:Tc)(rs:.cP)(k:Nat):@n:=((.ez λr=>.am==k).map λr=>.nY).getD []
def uy(t:Tc):.n:=∀p∈t.P,A8 p
def Vo(t:Tc):Sp:=λg H Q E=>∃(a:U)(as:@D)(rs:.cP),g=.dX/\H a=.jo .dN/\.ey rs/\.gp/\uy t/\(∀r∈rs,∀k∈r.kids,∃m,(.ez λr=>.am==k)=O m)/\(.Ah->∀L,.I->.aV L)/\(¬(.Ah)->∀L,jB a H L->.vN)
theorem YV(h:uy t)(a:i<.rg):nR (.au i)/\∀k∈t.want i,nR k:=by have e:=mP a;have f:=h _ (ab8 a);unfold Tc.left Tc.want;rw[e];exact#[f.2.2.2.1,f.2.2.2.2.1]
def Z4(t:Tc)(rs:.cP)(_:Hp)(x C:V):.n:=∃c:Nat,x=.h c/\C=.jj (kK t rs c)
theorem VQ:∀{l:@n}{ys:.L},iX (Z4 t rs H) (iK l) ys->ys=lC (@M (kK t rs))
 |[],_,h=>.ge|n::l,_,h=>by
  cases h with
  |cons h q=>
   ext bG
   ext Y;rw[VQ (l:=l) q];rfl
theorem Hc:jb ["nodes","node","symbols","child"] ["nodes"] (i4 Oe):=.J
theorem aeN(F:.D "check_children" Oe f fd)(T:.az)(E1:qy mg ao .an):@H ao .aG 1 f fd ["nodes"] (Vo t):=by
 refine .t Hc λaB A aC s H vs Q E hr h=>?_;obtain⟨k,as,rs,rfl,ai,hA,hP,hF,hk,kY,kN⟩:=h;refine#[_,iE (xU (.bo (VH .ae) (.fe Hc.nd y @q) (iy (.ew (te:=nh K (nh K (BB (i9 0) .gm) "production") "left") y Hc.nd y y .z (kJ .fj) (.kX 3) (λ_ _ _ _ _=>.a3 Hc.nd y @q) .bA (λ_ _ _ _ _=>iL (iL (qx (og hr) .ae .ak .ai) y) y)) (iE (jh (ju (ZF hr.units) .ad (iL .fj y) .z) (.ko E1) jn))))),?_];refine#[k,_,ai,.dE,λl=>?_];have M:iX (.aH .vO) as rs:=hA.imp λa b q=>q.lock (.n ai);have aa:pI t .vO:=iX.imp hP λa b q=>by
  let#[dx,cl,rl,ap,q1,q2,q3,q4]:=q;have ne:∀{b:U}{o:HO},.cn->.z5->@z k .ru b=O o:=.Z
  refine#[dx,cl,rl,ap,.h,ne q2 @I,.h,q4.imp .n8];let#[du,tv,xx,p1,I,aq,ol,p,qs,p3,p4,p5]:=q;refine#[du,tv,xx,.h,?_,aq,ol,p,qs,.h,.h,p5.same .q];cases hb:b.target with
  |none=>rw[hb]at I;exact I|some c=>rw[hb]at I;let#[q,e1,e2]:=I;exact#[q,e1,ne e2 .rj]
 have ar:=oB hA;have g:@z k .ru k=O .ru:=iG;have aj:∀L,iu .vO L->jB k H L:=λL s b o e hb=>.ae .Z;have ak:∀L,iu .vO L->.pU L k rs:=.n9
 generalize @z k .ru=H1 at M aa g aj ak⊢;refine#[_,y,k,l,_,y,g,UM (d:=k) (o:=l) (kvs:=.dN) (λi σ L=>∃v1 v2:.aV,σ=[.ja k,v1,v2,e']/\iu H1 L/\∀r∈rs.take i,.Ai) .Gs (λi σ L#[_,_,_,Y,_]=>Y _ _ g) ?_ ?_]
 .rintro i ky v σ L hi⟨v1,v2,rfl,Y,ab⟩;obtain⟨a,r,ha,ae,rfl,rfl⟩:=zk hi;let#[r2,al,dn,cl,p,g1,g2,g3,g4,g5]:=M.get i a ha;rw[ae]at al;cases al;have af:=kO ae;refine#[_,y,a,.aQ,dn,_,_,y,Y _ _ g1,.aT,T.nC,qt,cl,y,.jd (Y _ _ g3),λD hD=>oP (Z4 t rs) .bF .b9 hD (@D (Y _ _ g3)) (.kH g5) (λj x H2 Ky Kn hx s2 aD hy u=>?_) λH2 ys s2 au am=>?_]
  .ext bb;obtain⟨c,B,rfl⟩:=.fU;let#[rc,ag]:=hk r af c (kO B);have ah:=Y.trans s2;rcases ub (c:Int) M with⟨_,e2⟩|⟨r3,a3,e1,_,e3,_,an,av,p3,q1,q2,q3,q4,q5⟩;.grind
   .have aw:.ez (λr=>.hI==(c:Int))=.ez (λr=>.am==c):=.h
    rw[aw,ag]at e3;cases e3;let#[m3,w1,dp,ax,rl,ay,w2,_]:=aa.get q2;have el:kK t rs c=m3.left:=by grind[kK,Tc.left]
    refine .jF #[_,y,_,y,k,_,y,.n #[_,.jf c,@n #[l,.cx g],y,e1.symm],a3,.aQ,an,_,_,y,.cx q1,.aT,T.nP,vX,p3,t.g.Cp,dp,_,_,y,.cx w2,T.G.p,T.G.pL,C',hy _ H2 .bN y #[c,y,.j3 el]]
  rw[mU]at am;have az:=VQ am;subst az;have C:=Y.trans s2;let#[m,w1,dp,ax,rl,ay,w2,w3,_]:=aa.get g2;have ew:.rv=.i9:=by grind[Tc.want]
  refine#[_,y,_,y,a,.aQ,dn,_,_,y,C _ _ g1,.aT,T.nP,vX,p,t.g.Cp,dp,_,_,y,C _ _ w2,T.G.p,T.G.pC,FI,_,_,@E (@D au) (Pa _),@E (.mv C w3) (Pa _),S7 _ (λn u=>?_),S7 _ (λn u=>?_),_,y,?_];.obtain⟨c,B,rfl⟩:=@Q u;let#[rc,ag]:=hk r af c B;let#[ac,aE,an,av,p3,_,_,_,q4,_]:=M.get' _ rc (Ki (sI ag)).choose_spec;grind[kK,YV]
  .rw[<-ew]at u;exact(YV hF g4).2 n u
  show if(!CO ((.aO (kK t rs)).map rJ) (m.kids.map rJ))=f' then _ else _;rw[XP,<-ew];by_cases B:.Ai;.rw[iq B];refine iU #[_,_,y,C,λr' aA=>?_];rw[.a2 ae]at aA;grind
  .rw[ir B];exact iQ (kN (λz=>B (z r af)) H2 (aj H2 C))
 .rintro σ L⟨v1,v2,rfl,Y,ab⟩;rw[ar,pB]at ab;exact#[Y _ _ g,kY ab _ (ak L Y)]
abbrev M':i5:=top 40
def jl(first:Nat)(s:.hL):.cP:=s.zipIdx.map λx=>{id:=@z+x.2,prod:=x.1.prod,num:=x.1.num.getD 0,kids:=x.1.kids}
theorem ug(i:Nat):(.cm ms)[i]? =(ms[i]?).map λm=>.Aj:=by grind[jl]
theorem sZ(first:Nat)(s:.hL):(.cB).length=.bw:=by unfold jl;simp
theorem Vz(h:.vP):(.cB).find? (λr=>.am==@z+i)=O .Aj:=by
 rw[J7];refine#[beq_self_eq_true _,i,by grind[sZ],?_,λj H=>?_];.have:=ug (first:=first) (ms:=s) i;rw[h]at this;exact(o1.mp .bM).2
 .have w:j<.bw:=Lc H (.jQ h);have M:=ug (first:=first) (ms:=s) j;rw[mP w]at M;rw[(o1.mp M).2];show(!((@z+j)==(@z+i)))=f';simp;omega
theorem W3(first:Nat)(s:.hL):((.cB).map .al).Nodup:=by
 have e:.GH:=by apply sP;grind[ug]
 rw[e,GN,vL];exact Kx.imp λh q=>h @h
theorem afL(first:Nat)(s:.hL)(m:Mx.jX):.cm (s++[m])=.cB++[{id:=@z+.bw,prod:=m.prod,num:=.m2,kids:=m.kids}]:=by grind[jl]
theorem iX.Ew{P:.g3}:∀{as:.aA}{f:.ei},.fR=.il->(∀(i:Nat)a b,.i8->f[i]? =O b->P a b)->.i6
 |[],[],_,_=>.nil|[],_::_,h,_=>.b4|_::_,[],h,_=>.b4|a::as,b::f,h,k=>.J (k 0 a b y y) (iX.Ew .q λi x C D M=>k .ah x C D M)
theorem agj(h:.bP .al=p.map .al):.dN=.bg p:=by
 have e:∀(as:@D)(rs:.cP),.dN=(as.zip (.bP .al)).map λx=>((iO (x.2:Int):Key),.ap x.1):=by
  intro as;induction as with
  |nil=>intro rs;rfl|cons a as I=>
   intro rs;cases rs with
   |nil=>rfl|cons r rs=>show _::.dN=_;ext t
 grind
theorem NL(first:Nat)(s:.hL):.GH:=by apply sP;grind[ug]
theorem aeT{xs:.ry}(L:.ag=.bw)(v:.fv):jN (iF .jl .cB) (iO .Ak)=O (@h x.1):=by
 have h:iX (λa r=>∃j,.jl[j]? =O a/\.am=@z+j) .jl .cB:=by grind[iX.Ew,sZ,ug]
 have t:=.jQ v;rcases ub ((first+i:Nat):Int) h with⟨_,A⟩|⟨r,a,C,A,_,_,j,g,D⟩
 .have M:.cB[i]? =O {id:=@z+i,prod:=(s[i]' @h).prod,num:=(s[i]' @h).num.getD 0,kids:=(s[i]' @h).kids}:=by grind[ug]
  exact .Z y (A _ (kO M))
 grind
theorem acQ{xs:.ry}(L:.ag=.bw):jN (iF .jl .cB) (iO ((@z+.bw:Nat):Int))=e':=by
 have h:iX (λ(_:U)(r:Rec)=>.am<@z+.bw) .jl .cB:=by grind[iX.Ew,sZ,ug]
 grind[ub]
theorem ahU{xs:.ry}(h:iX (tZ t G) xs s)(hk:∀m∈s,.nw<=4000):iX (.aH G) .jl .cB:=by
 refine iX.Ew (by rw[i0,sZ,h.len]) λi a r D M=>?_;rw[jI]at D;obtain⟨x,v,rfl⟩:=.M D;let#[m,c,I,p,g1,w,g,f,T]:=h.get i x v;rw[ug,c]at M;have e:=pD M;subst e;refine#[I,x.2,p,?_,w,T,g,.h];rw[g1];have:.as .Aj=zV m.num:=by unfold valOf;rw[show .cy .fb=m.num.isSome from f];cases m.num<;>rfl
 rw[this]
theorem L9(h:p c=e'):jt p (.aD c o)=upd (jt p L) c o:=by grind[iG,iC,jt]
theorem akk{xs:.ry}(h:iX (tZ t G) xs s)(v:.fv)(k:.vP)(L:(.a4 wd).Nodup):iX (tZ t (upd G x.2 (@E (iK (.i9++[n]))))) xs (Mx.p9 i [n] s):=by
 let#[u,B,_,_,_,_,_,_,g]:=h.get i x v;rw[k]at B;cases B;refine iX.Ew (by unfold Mx.p9;rw[List.length_modify,h.len]) λj C b D M=>?_;let#[a,c,I,p,g1,w,l,f,r]:=h.get j C D;unfold Mx.p9 at M;rw[List.getElem?_modify,c]at M;have T:C.1≠x.2:=.h
 by_cases Q:i=j;.subst Q;have M:(if i=i then .GI else a)=b:=pD M;rw[ip y]at M;subst M;rw[v]at D;cases D;rw[k]at c;cases c;exact#[I,p,.ma T g1,w,l,f,iG]
 .have M:(if i=j then .GI else a)=b:=pD M;rw[il Q]at M;subst M;have A:C.2≠x.2:=λq=>by
   have J:(.a4 wd)[i]? =O x.2:=.h
   have H:(.a4 wd)[j]? =O x.2:=.h
   grind[Ku]
  exact#[I,p,.ma T g1,w,l,f,.ma A r]
theorem W'(f:.dr):∀(st:@n)(us:.aj),Mx.oV (st.map f) us=((.vI).1.map f,(.vI).2)
 |[],us=>y|a::r,us=>by
  show(if .vQ then Mx.oV (r.map f) .cI else(f a::r.map f,us))=((.Al).1.map f,(.Al).2);by_cases h:.vQ;.rw[ip h,ip h];exact W' f r .cI
  grind
theorem W9:∀(st:@n)(us:.aj),(∃k,(.vI).1=st.drop k)
 |[],us=>#[0,y]|a::r,us=>by
  show∃k,(.Al).1=_;by_cases h:.vQ;.rw[ip h];let#[k,e]:=W9 r .cI;exact#[k+1,e]
  .rw[il h];exact#[0,y]
theorem ajs(u:.cR L)(a:.sb H r C l w)(h:jt H L c=.eZ):H c=e':=by
 let#[D,M]:=vU h;rcases M with M|⟨x,M,t⟩;.exact M
 .exfalso;cases x with
  |tup ys=>have:=u c _ M .q;grind|_=>cases t
theorem Rs.ins(B:.ea):∃l w,H R.r=O (.ak x l w):=by let#[n,m,_]:=B.at_;exact#[_,_,m.ins]
theorem Dg(st:@n)(n:Nat)(s:.hL):(.g1 n s).length=.bw:=by
 cases st with
 |nil=>rfl|cons a r=>grind[Mx.attach,Mx.p9]
theorem U4(h:m∈.g1 n s):∃Q∈s,.i9=Q.kids\/.i9=Q.kids++[n]:=by
 cases st with
 |nil=>exact#[m,h,.n y]|cons a r=>let#[j,H]:=.aG h;have H:(s.modify a λw=>{w with kids:=w.kids++[n]})[j]? =O m:=H;grind
def ud(t:Tc)(rs:.cP):.n:=.Ah
def JN(t:Tc)(first:Nat)(H:Hp)(Q:VK)(E:XK):.E .hL->.n
 |e'=>∀L,.I->.vN|O s=>(.rz->.bw<=60->∀x L,.I->j7 t .dl x .gu->.kh)/\(¬.rz->∀L,.I->.vN)
def GS(K:jd)(t:Tc):Sp:=λc H Q E=>∃(a l:U)(B:@n)(first:Nat)(g:xr),c=[.aX,.cw,.h @z]/\.aB a (l4 B)/\.rB/\yu t H l/\uy t/\(∀ts,.vR)/\JN t @z H Q E (.d6 (.dL @z))
theorem Rs.ali(B:.ea)(T:.ri):Rs x (@z d o) R us:=by
 ext cB
 .ext bF;.rw[l,p.ins]at T;cases T
  .rw[l,p.lst]at T;cases T
  grind
theorem mu.ext(u:.d5 L)(D:.sb L r C f w)(M:L a=.eZ):Ext H L:=λb=>by
 by_cases c:b=r;.grind
 by_cases A:b=a;.grind
 refine#[.dH,λo h xs q=>?_];.cases l:H b with
  |none=>rfl|some o=>rw[.bw l c A]at q;cases q
 .rw[.bw h c A]at q;grind
theorem mu.news(u:.d5 L)(D:.sb p r C l w)(M:p a=.eZ):iu (jt p H) (jt p L):=NS λb o e q=>by
 have T:∀{c:U}{f:HO},p c=O f->.kw f->b≠c:=.h
 exact .bw e (T D y) (T M y)
theorem y6:jb ["text","grammar","first","reader","nodes","above","done","number"] .rC (i4 M'):=.J
theorem adR(F:.D "read_tree" M' f fd)(M:.b0 ag .an .fX t.g.Ce)(T:.az)(bk:mg "Reader"=O (@h .fX))(aK:.fO)(bm:.Am=.mi 60 bD)(bn:.An=.mi 24 bE)(bo:Mk K .fX fi)(Gi:.fh 5 fi bp .hy (HM K .an .fX))(bi:.aT bp .hy [])(Gn:.L ag .an "read_node" 4 .vL (Zt t) fn bF)(Ge:.L ag .an "end_brackets" 3 .rr (Yo t) fe bG)(Gc:.L ag .an "check_children" 1 ["nodes"] (Vo t) fc bH)(RT:.na ag 2):.fh 7 f fd .rC (GS K t):=by
 refine .t y6 λbI A bJ s H vs Q E hr h=>?_;obtain⟨a,ga,tx,first,g,rfl,hL,hl,hG,hF,hg,k⟩:=h;ext am;have a1:.b8:=.aO;have a2:.i3:=.aO;refine#[_,iy (.aL y6.nd y @q (OL bo Gi .aO y bk bi .nil (vr iI y) .ji)) (iy (.bE y6.nd y @q DE) (iy (.db y6.nd y @q .dJ) (iy (.eC y6.nd y @q vq) (iy (.bv (vi (kW .dM)) (iy (jh (PW.pt (Jr (ju mH (.d3 aK lN .n3) (.mP 60 bm) .aw) (Jd (ju mH (.mu aK 5) (.mP 24 bn) .aw)))) .uP jn) (iy (i8 (i:=7) y6.nd y @q (.bK .ad (.d3 aK lN .n3))) (iy (zx hu .cN (J 7) (iS Gn .aO iI (.mb 3 1)) y) (iy (jh (xP .cq .cY) (.jx (.ch (iL (qx hu (J 4) (.ax (J 5) (Z0 Zh iY) .ai) .ai) y) (.js 7))) jn) (iE (jh (kW (r8 M a2 .ak)) (.jx (.ch (J 5) (.js 7))) (iE (.eC y6.nd y @q (iS Ge .aO iI (.mb 3 5))))))))))) (.pT (nM M a1 iI .ak) (jf (iS Gc a1 iI .n3)) (.pv RT a2 (.mb 2 4))))))),?_];refine .cL;intro r dx nr a3 bK;have sM:.I (upd (@z dx (.own r)) r (.ak .fX dx [])):=.qa e nr a3
 refine#[r,dx,a,tx,y,iG,sM.seq hL,hl,?_];cases aw:Mx.o (o2 tx)with
 |none=>rw[aw]at k;exact .Gg|some ts=>
 rw[aw]at k;have k:JN t @z H Q E (.dL @z ts):=k;refine λR H1 eR eT bL bM u1=>.iB;subst eR;have am:H R.r=e':=nr;have aL:.I H1:=.Gh;have B1:.mQ H1 ts:=.st eT Mx.MH Mx.Eg aw hl;intro p a4;have ax:iu H1 .oa:=@t a4;refine#[.au,λC ay=>?_];have az:iu .oa (upd .oa C .ap):=@t ay;have B3:=(B1.same ax).same az;have aM:.dZ:=aL.free a4;have aA:H C=e':=(aL.trans ax).free ay;have aN:upd .oa C .ap p=O .d1:=az _ _ iG;have an:upd .oa C .ap C=O .ap:=iG;have a5:C≠R.l:=λq=>by let#[n,C1,_]:=(B1.same ax).at_;rw[q,C1.lst]at ay;cases ay
 have aB:=.pb aL.trans ax az;generalize upd .oa C .ap=H3 at az B3 aN an aB⊢;have a6:p≠C:=.h
 ext z;let Fin:.E (.hL×.aj)->.n:=λq=>JN t @z H Q E (q.bind .EN);let W:.cp:=λm σ L=>∃(xs:.ry)(l:.hL)(st:@n)(us:.aj)(dn:Bool)(v7:.aV),σ=[.fz,.ja ga,O (.h @z),.eH,.ja p,.ja C,.j1 dn,v7]/\m=(if dn=f' then 0 else .cQ+1)/\.mQ L us/\.I/\Ext H3 L/\L p=O (.dK .Ao)/\L C=O (@E .Ap)/\iX (tZ t .vv) xs l/\(.a4 wd).Nodup/\(∀x∈xs,H3 x.2=e')/\.ac<=60/\.hJ<=24/\(∀i∈st,i<.ac)/\(∀m∈l,∀k∈m.kids,∃i,i<.ac/\k=@z+i)/\(∀m∈l,.nw<=.ac)/\Fin (if dn=f' then O (l,us)else .f4 l st us);refine .jY #[_,[],[],[],ts,ij,e',y,y,B3,aB,.q1,aN,an,.nil,.nil,@E,@E,@E,@E,@E,@E,k];rintro m σ L⟨xs,l,st,us,dn,v7,rfl,rfl,B',sm,xt,ao,a7,hA,hD,hN,aO,bq,bN,br,bO,D⟩;have a8:∀aP,jB R.r L aP->.I aP:=λaP u b o e=>.bw (.bz e) (jg e am);have aQ:=hA.len;refine .qT;cases dn with
 |true=>
  ext L;ext z;refine B'.takeEnd y (λe=>?_) (λe=>?_)
  .subst e;let#[kY,kN]:=D;have a9:iX (.mD H3 L) .jl (.cm l):=by grind[ahU]
   let#[_,_,_,_,_,hP]:=hG.keep sm T.G;refine#[_,y,p,_,_,y,ao,a9.imp λa b q=>.bD .gw,hP,hF,λr hr k hk=>?_,λok H4 s4=>?_,λno H4 s4=>?_];.let#[i,hi]:=.aG hr;rw[ug]at hi;obtain⟨m,hm,rfl⟩:=.M hi;obtain⟨j,hj,rfl⟩:=br m (kO hm) k hk;exact#[_,Vz (mP hj)]
   .refine#[_,y,_,y,y,λx dx H9 nx a3 s9 hx=>?_];refine kY ok aO x H9 (.gX s9) #[dx,p,_,?_,?_,a9.imp λa b q=>.bD ((qH (s4.trans s9)).trans (qG (.de aB))),W3 _ _,?_];.rw[lh ((.d4 s4).free nx)];exact hx
    .rw[lh aM];exact .pd s9 s4 ao
    grind[sZ]
   .exact kN no H4 λb o e=>s4 b o (.bz e) (jg e aM)
  grind[JN]|false=>
  refine iQ #[λσ' H2=>∃m',m'<.cQ+1/\.cT H2,.q2,?_];have D:Fin (.f4 l st us):=D;rw[Mx.WH]at D;have aR:(.Ao).length=.ac:=by grind[iF,sZ]
  have ba:(.Ap).length=.hJ:=by grind[lj]
  ext z;refine#[_,y,p,_,y,ao,y,_,y,?_];rw[aR];by_cases aC:.ac=60;.rw[iq (show .jq l.length=@Z 60 by rw[aC];rfl)];rw[ip (.n aC)]at D;exact iQ (iQ (D L sm))
  rw[ir (show¬.jq l.length=@Z 60 from λq=>.m7 aC q)];refine iU #[_,y,C,_,y,.jD a7,y,_,y,?_];rw[ba];by_cases aD:.hJ=24;.rw[iq (show .GJ by rw[aD];rfl)];rw[ip (@n aD)]at D;exact iQ (D L sm)
  rw[ir (show¬.GJ from λq=>.m7 aD q)];ext L;rw[il (by rintro(q|q);exact aC q;exact aD q),hg]at D;refine#[_,y,_,y,p,_,y,ao,_,_,y,y,?_];rw[aR];refine#[_,y,_,y,R,us,ga,y,B',hG.keep sm T.G,?_];cases hq:wy t.P us with
  |none=>rw[hq]at D;exact λH2 z=>D H2 (a8 H2 z)|some q=>
  rw[hq]at D;have bP:=Mx.MT (.pb hg us hq);refine .zJ;obtain⟨x,rfl,hx⟩:=hv;have bb:=(B'.keepR u9).dict ao;have bQ:=.fd a7;have bs:L x.2=e':=by let#[_,_,e]:=B'.ins;let#[_,_,_,_,_,_,g5]:=hx;exact ajs u9 e g5
  have bR:iX (tZ t (jt H3 H9)) .eM .ob:=(hA.imp λa b z=>z.keep (B3.news u9)).snoc (hx.keep (qG xt));have aE:((.eM).map wd).Nodup:=by
   rw[mR,sO];refine#[hD,@E,λc hc b hb e=>?_];have hb:b=x.2:=.h
   obtain⟨I,hy,rfl⟩:=@Q hc;let#[j,hj]:=.aG hy;let#[_,_,_,_,_,_,_,_,g5]:=hA.get j I hj;have:=.df g5;grind
  have aF:∀I∈.eM,H3 I.2=e':=λI hy=>by
   rcases k8.mp hy with hy|hy;.grind
   .rw[uK.mp hy];exact(xt _).1 bs
  have bt:.Ao++[((.GK:Key),.ap x.1)]=.fj (.cm .ob):=by rw[afL,mR];unfold iF;rw[KG (by rw[i0,sZ,aQ]),mR];rfl
  refine#[_,y,_,y,p,_,y,uG.k (k:=.GK) bb (by rw[aR];exact qp aO .E),?_];rw[A4 _ (acQ aQ),bt];have nu:=qu (H:=H3) (H':=H9) (x:=.oe) aN y;have aG:iX (tZ t (jt H3 .vS)) .eM .ob:=.h
  have aS:=B9.ali (o:=.oe) bb;have aH:upd H9 p .oe p=O .oe:=iG;have ap:upd H9 p .oe C=O (@E .Ap):=.Z
  have aT:.I .vS:=λb o e=>by rw[.mc e aM];exact a8 H9 u9 b o e
  have aU:Ext H3 .vS:=.z1;generalize .vS=aa at aG aS aH ap aT aU⊢;have bc:(.eN).length=.ac+1:=by grind[Dg]
  have eK:.fj (.cm .ob)=.fj (.cm .eN):=by grind[agj,NL]
  rw[eK]at aH;have bS:q.1.kids=[]:=by
   unfold wy at hq;cases h1:Mx.kL mQ us with
   |none=>grind|some t1=>
    rw[h1]at hq;cases h2:Mx.tE t1.2 with
    |none=>grind|some v=>
     cases h3:wH t.P t1.1.text v.1 with
     |none=>grind|some i=>grind
  have aV:∀m0∈l++[q.1],(∀k∈m0.kids,∃i,i<.ac/\k=@z+i)/\m0.kids.length<=.ac:=.h
  have aW:∀m∈.eN,∀k∈m.kids,∃i,i<(.eN).length/\k=@z+i:=λm hm k hk=>by
   rw[bc];let#[m0,bd,e]:=U4 hm;rcases e with e|e;.rw[e]at hk;let#[i,hi,e]:=(aV m0 bd).1 k hk;exact#[i,.t,e]
   .rw[e]at hk;rcases k8.mp hk with z|z;.let#[i,hi,e]:=(aV m0 bd).1 k z;exact#[i,.t,e]
    ext t
  have aX:∀m∈.eN,.nw<=(.eN).length:=by grind[U4]
  have bT:∀i∈st,i<.ac+1:=.h
  have D:Fin (if jP 40 q.2=f' then .f4 .eN (.ac::st) .hk else Mx.after g @z .eN st q.2):=D;have bU:.ac+1<=60:=.t
  refine .ks ap;obtain hs|⟨i,aI,hs⟩:st=[]\/∃i aI,st=i::aI:=by
   cases st with
   |nil=>simp|cons i aI=>simp
  focus
   have ah:iX (tZ t (jt H3 aa)) .eM .eN:=.mj hs aG
   have eE:(!(.vT).isEmpty)=ij:=.h
   rw[eE];ext L;have ab:=aS;have af:=aT;have ai:=aU;have aj:=aH;have aq:=ap;generalize aa=bu at ah ab af ai aj aq⊢
  ext D;focus
   have eE:(!(.vT).isEmpty)=f':=.h
   rw[eE];have bv:.vT=iK (A1 (λx=>@z+x) aI).reverse++[@Z .Ak]:=.ld
   have hi:i<.ac:=.aW
   have be:i<(.eM).length:=.h
   have ar:.eM[i]? =O (.eM[i]'be):=@E
   let#[mi,bf,dn,pp,g1,g2,g3,g4,g5]:=aG.get i _ ar;have au:=aF _ (kO ar);have bg:=akk (n:=@z+.ac) aG ar bf aE;generalize .eM[i]'be=I at ar g1 g5 au bg;have y1:=.df g1;have y2:=.df g5;rw[bv]at ap;have bw:lZ aa p (.jn (@z+i:Nat)) (O (@h I.1)):=.n #[_,iO .Ak,.n aH,y,(aeT (by rw[bc,j9,aQ];rfl) ar).symm];refine iQ #[_,y,_,y,_,y,C,_,_,_,y,y,@D ap,aiz _ _,p,_,y,bw,I.1,.aQ,dn,_,_,y,y1,.aT,T.nC,qt,.jl y2,_,y,I.2,_,_,y,y,y2,?_,?_];.rw[lj];have:=aV mi (kO bf);exact qp (ja this.2 aO) .E
   have eL:.rD=iK (mi.kids++[@z+.ac]):=.ld
   have ah:iX (tZ t (jt H3 .vU)) .eM .eN:=by rw[L9 au,eL,hs];exact bg
   have bx:I.2≠R.l:=λz=>by let#[n,C1,_]:=B3.at_;rw[z,C1.lst]at au;cases au
   have ab:=aS.QR (ys:=.rD) bx y2;have af:.I .vU:=.pV e (aB.free au) aT
   have ai:Ext H3 .vU:=aU.trans .rq;have aj:upd aa I.2 (@E .rD) p=O (.dK (.fj (.cm .eN))):=.Z
   have aq:upd aa I.2 (@E .rD) C=O (@E .vT):=.Z
   generalize .vU=bu at ah ab af ai aj aq⊢
  all_goals
   ext z;refine ab.skip y .E (.mq ab.sign 40) (λhp av ae B=>?_) .nk
   .have ac:=(ab.keepR B).lst aq;have bV:=(ab.keepR B).dict aj;rw[ip hp]at D;have h1:=Mx.qF hp;refine#[_,y,iQ #[_,y,.jl ac,_,y,C,_,_,y,y,ac,?_,?_]];.rw[ba];exact qp bq .E
    have bz:=.rh H3 av (iK (A1 (λx=>@z+x) st).reverse++[@Z ((first:Int)+(l.length:Int))]) an;refine#[(.hk).length+1,.t,.eM,_,.ac::st,.hk,ij,_,y,y,ae.QR a5 ac,.cx,.m0 ai.trans (ae.ext B),?_,?_,?_,aE,aF,.t,.sZ,λi hi=>?_,aW,aX,D];.rw[.mc e aA];exact B b o (af _ _ e) (jg e am)
    .ext M
    .grind[iG,iK]
    .rw[bz];exact ah.imp λa b z=>z.keep (B3.news B)
    grind
   .rw[.jw hp]at D;refine#[_,y,iU #[_,y,_,y,R,q.2,C,st.map .kQ,y,ab,aq,a5,?_]];rw[W'];unfold Mx.after at D;let#[kk,bA]:=W9 st q.2;have aY:=Mx.HS st q.2;let#[_,_,bh]:=B3.ins;let#[_,_,bW]:=ab.ins;have bj:p≠R.r:=.h
    cases bB:Mx.oV st q.2 with
    |mk bC ak=>
    rw[bB]at D bA aY;have aY:ak.length<=.c2:=aY;cases bC with
    |nil=>have D:Fin (O (.eN,ak)):=D;intro av ae ac B;let#[_,_,aZ]:=ae.ins;exact#[0,.t,.eM,_,[],ak,f',_,y,y,ae,.Aq,.GL,B _ _ aj bj a6,ac,.GM,aE,aF,.t,@E,@E,aW,aX,D]|cons i' aJ=>
     have D:Fin ((.aq 44 ak).bind λus=>.f4 .eN (i'::aJ) us):=D;show(match .aq 44 ak with
      |e'=>_|O a0=>_);cases he:.aq 44 ak with
     |none=>rw[he]at D;exact λav B=>D av .Aq|some a0=>
      rw[he]at D;have bX:=Mx.tu he;intro av ae ac B;let#[_,_,aZ]:=ae.ins;have bY:∀i∈i'::aJ,i∈st:=.h
      have bZ:(i'::aJ).length<=.hJ:=.h
      exact#[a0.length+1,.t,.eM,_,i'::aJ,a0,ij,_,y,y,ae,.Aq,.GL,B _ _ aj bj a6,ac,.GM,aE,aF,.t,.t,.h,aW,aX,D]
end Tm
namespace L2
open PySem PySem.Spec PyProof.Rows
theorem U2:sx X .ky (λxs H Q=>∃a kvs,xs=.ms/\.mz/\∀p,.dZ->.bU (.bt .c0)):=by ext ap;obtain⟨a,kvs,rfl,c,q⟩:=h;obtain⟨u,rfl,k⟩:=.mr;cases k;exact aiq I c λp l f g=>#[.e5,_,g,y,q p f]
theorem aip(I:.D)(T:a≠b)(e:.kt)(f:H b=O (.dK more))(L:.yc<=@Q)(h:∀p,.Y (@z a (.dK .tn)) p->Q .none p):.bT A (call (.aj "dict.update") [.aX,.b3]) Q E s:=by let#[z,k,g,m,x]:=BH .bB e;let#[B,r,c,v,u]:=BH .bB f;refine CQ aaW x.typeIs PySem.F.entry_dict_update .z (meets_dict_update .et a b T r) #[g,c,x,u,by rw[<-m.length,<-v.length];exact L,λD l _ w=>h _ ?_];exact IE (t':=s.toks) I .pu w (let#[q,_,_,t,_]:=l;#[q,t]) (Jm (by grind[FO]) k (KV.merge v m) l)
theorem agk:BX X "dict.update" (λx xs H Q=>∃(a b:U)(kvs more:.aI),.cv/\xs=[.b3]/\a≠b/\.kt/\H b=O (.dK more)/\.yc<=@Q/\.aV (@z a (.dK .tn))):=by ext bv;obtain⟨a,b,kvs,more,rfl,rfl,T,D,M,L,q⟩:=h;cases f;obtain⟨u,rfl,k⟩:=vals1 rs;cases k;exact aip I T D M L λp c=>#[.iM,_,c,y,q]
end L2
namespace Tm
open PySem PySem.Spec PyProof.Rows L2
open Vaattx(Rec Flat)
abbrev N0:i5:=top 46
def kX(n:Nat)(z:Int)(r:Rec):Rec:=if .am=n then{r with num:=z}else r
def Vj(t:Tc):Sp:=λg H Q _=>∃(x:U)(F:Flat)(n:Nat)(z:Int)(r:Rec)(G:Hp),g=[.a2,.cd,.ds]/\iu G H/\j7 t G x F/\.fW/\.eb=f'/\∀y L,.I->(∀J,iu G J->iu .dl J->j7 t J y #[.a7,.eB (kX n z)])->Q (@h y) L
def vx(n:Nat)(C:U)(as:@D)(rs:.cP):@D:=(as.zip rs).map λx=>if x.2.id=n then C else x.1
theorem Iq(n:Nat)(z:Int)(r:Rec):(kX n z r).id=.am:=by grind[kX]
theorem W8:∀(as:@D)(rs:.cP),(.dN).map (λm=>if m.1=.d5 then(m.1,.ap C)else m)=.GN
 |[],rs=>y|a::as,[]=>y|a::as,r::rs=>by
  show(if .rE=.ec then(.rE,.ap C)else(.jf r.id,.ap a))::(.dN).map _=(iO ((kX n z r).id:Int),.ap (if .am=n then C else a))::.GN;rw[W8 as rs,Iq];by_cases e:.am=n;.rw[ip (.j3 e),ip e]
  grind
theorem VC:∀{as:@D}{rs:.cP},iX (.aH c) as rs->(∀r∈rs,.am=n->.aH c C (kX n z r))->iX (.aH c) (vx n C as rs) (.bP (kX n z))
 |_,_,.nil,_=>.nil|a::as,r::rs,.cons h q,k=>by refine .J ?_ (VC q .q);grind[kX]
theorem MK:jb ["tree","number","value","nodes","node"] .vV (i4 N0):=.J
theorem aeB(F:.D "with_value" N0 f fd)(T:.az)(ag:mg "dict"=e')(RN:.m9 aa 3)(RT:.na aa 2):.fg 3 f fd .vV (Vj t):=by
 refine .t MK λal A am s H vs Q E u h=>?_;obtain⟨x,U,n,z,r,G,rfl,g,hT,ab,an,k⟩:=h;have hu:=og u;refine#[_,iy (.aL MK.nd y @q (wb U2 .z ag .rc .rH)) (iy (.bE MK.nd y @q (qx hu .ak @M .ai)) (iy (zx hu .ak @M (qS RN u (Y (.jg 4) (Y .ad (.kf 4)))) y) (.jb (qS RT u (Y .cM .nI))))),?_];let#[dt,nd,as,h1,h2,v,h4,h5]:=hT;refine#[_,y,x,.ar,dt,_,_,y,.b1 h1,.as,.bb,kI,nd,_,y,.mN g h2,λc B=>?_];have L:.I (@z c .fk):=@t B;have D:@z c .fk c=O .fk:=iG;generalize @z c .fk=H0 at L D⊢;have ac:=.bC L;rcases ub (n:Int) v with⟨_,e2⟩|⟨r',a,e1,e2,e3,e4,dn,cl,p,q1,q2,q3,q4,q5⟩;.exact .Z (by grind[nZ]) (e2 r (sI ab))
 rw[Ib,ab]at e3;cases e3;refine#[_,y,_,y,c,_,y,.n #[_,.ec,.n D,y,e1.symm],?_];refine#[_,y,a,.aQ,dn,_,_,y,ac _ _ q1,.aT,T.nP,vX,_,y,_,y,a,.aQ,dn,_,_,y,ac _ _ q1,.aT,T.nC,qt,y,λC dy l ny ao s6 hy=>?_];have ah:=oB v;refine .rq c n (s6 _ _ D) (by rw[ah];exact qp h5 .E);have ai:putK .vC .d5 (.ap C)=.vW:=by unfold putK;rw[ip,W8];rw[Fz];let#[kv,ap,_]:=.M (show((.vC).find? λkv=>.q (kv.1=.d5)).map wd=_ from e1);grind
 rw[ai];have aj:H C=e':=L.free ny;have m:.I .GO:=.rg e B s6 L
 have ae:upd l c (.dK .vW) C=_:=(iC .q).trans hy;have af:.pJ l c .vW=.jo .vW:=iG;generalize .GO=H7 at m ae af⊢;refine#[_,y,x,.ar,dt,_,_,y,.pd m g h1,.as,T.tR,rR,_,y,y,λxx dx H9 nx aq I hx=>?_];refine k xx H9 (m.trans I) λar sJ M=>#[dx,c,vx n C as U.recs,M _ _ ?_,M _ _ ?_,VC (.mJ v.imp sJ) λr2 ak e=>?_,?_,?_];.rw[lh (m.free nx)];exact hx
 .rw[lh B];exact I _ _ af
 .have er:r2=r:=by
   have i2:=.aG ak;have i1:=.aG e4;let#[j2,i2]:=i2;let#[j1,i1]:=i1;have a2:.gx[j2]? =O n:=.h
   have a1:.gx[j1]? =O n:=by grind[nZ]
   grind[Ku]
  subst er;have es:kX n z r2={r2 with num:=z}:=by grind[kX]
  rw[es];refine#[dy,cl,p,M _ _ ?_,q2,sJ _ _ q3,q4,q5];rw[lh aj];have ev:.as {r2 with num:=z}=.ds:=.Ar
  rw[ev];exact I _ _ ae
 .show .kY (.hI (kX n z));rw[kQ];have:(.al∘kX n z)=.al:=by grind[Iq]
  grind
 grind
end Tm
namespace L2
open PySem PySem.Spec PyProof.Rows
theorem agS:.b8 "max"=O (.aj "max"):=.Q
def akV(p:TE):TE:=λσ H Q=>.b9 λx B=>∃d kvs,∃w:.af,x=.aD/\B d=O .c0/\.cu wd=.aE .a6/\0<.bJ/\∀m,m∈w->(∀y,y∈w->y<=m)->Q (.h m) B
theorem KV.ints:∀{kvs:.aI}{g:.kw}{w:.af},.dB->.cu wd=.aE .a6->∀(i:Nat)(m:.pO),g[i]? =O m->∃t,m.2=.h (w.getD i 0) t/\i<.bJ:=by
 intro kvs g w h;unfold KV at h;induction h generalizing w with
 |nil=>simp|cons h _ I=>
  intro e i m a;cases w with
  |nil=>simp at e|cons n w=>
   rw[j6,j6,KI]at e;cases i with
   |zero=>have a:=pD a;subst a;let#[_,c]:=h;rw[e.1]at c;let#[t,v]:=c;grind|succ i=>grind
theorem ai5(f:.en)(A:Gl X "max")(M:X.mg "max"=e')(L:.ao T)(aa:.DG:=by rfl)(ab:.C8:=by rfl)(c:.bH [.vX] .M=[(ij,.av .vX .M)]:=by rfl):.H (.an (.Name "max" p) [.vX] [] ah) (akV T):=by
 ext q;refine uJ (uj I A M agS ?_);refine J6 ?_ c y;rw[c];show .mR ((ij,.av .vX .M)::[]) s;refine uL ?_;refine .hp aa y ab RV Km abJ (.fD λu m#[x,B,D,rx,d,kvs,w,ex,hd,ac,ai,q]=>?_);subst ex;obtain rfl:u=jj d:=rx;let#[z,ae,g,Y,J]:=BH D.je hd;refine#[.pB,J.mapOf.noDict,?_];show .DK;refine Sh Km abB y (Kk #[y,.pB,abn _,_,abQ .et d ae,#[g,J],?_]);refine vM ?_;have I2:.Y B .yj:=.eQ .bU;have aj:.cZ=.bJ:=by have h1:=Y.length;grind[i0]
 have af:=KV.ints Y ac;let#[od,es,ep,g1,g2]:=J;have ak:d<.bT:=jZ g1;have r:Heap.DictAt .et m.heap d g ep:=#[od,es,g1,g2];refine call_max_walk (abt (d:=d) (knd:=.kx) .es (r.push _) ?_);have al:(.As).objs.size=.bT+1:=@E
 have ag:d≠(.As).objs.size:=.h
 have W:=Walks.dictValues (prog:=X.prog) (w:=X.w) (knd:=.kx) (A:=X.A.in1) (D.ok.hd f) _ d ag g ep;refine#[_,_,_,_,_,_,_,y,W,?_,.h9,.t,CmpOf.ints_gt (λi=>w.getD i 0) .q,λv h' tk hk kp=>?_];.exact#[.es,(r.push _).push _]
 .have am:∀(h:jo)(o:jA),(h.push o).objs.size=.eh+1:=@E
  grind
 .let#[k,hk]:=hk;let#[t,U,hl]:=af _ (k,v) hk;have U:v=_:=U;subst U;let#[_,l]:=argBest_gt (λi=>w.getD i 0) (.cZ-1);refine#[.h _,B,I2.kept (t':=tk) λb o e=>kp b o .dH (kZ _ e),#[t,y],q _ ?_ λan hy=>?_];.have l:=jZ e;grind
  .grind
  grind[List.getElem_of_mem]
end L2
namespace Mx
open Vaattx
inductive rK(F:Flat):List (Nat×Nat)->List Nat->Nat->Prop
 |nil:rK F [] [] 0
 |cons{n L:Nat}{r:Rec}{st:List (Nat×Nat)}{l:List Nat}{d:Nat}(hr:recOf F n=some r)(h:rK F (r.kids.map (λk=>(k,L+1))++st) l d):rK F ((n,L)::st) (n::l) (md L d)
theorem jM.zero(h:.fl)(e:w=[]):d=0:=by
 cases h with
 |nil=>rfl|cons=>cases e
mutual
theorem Tr.EE:∀{n:Nat}{l:@n}{d:Nat},.dO->∀(b:Nat)(st:.hM)(H:@n)(t:Nat),rK F st H t->rK F ((n,b+1)::st) (l++H) (md (b+d) t)
 |_,_,_,.node (n:=n) (r:=r) (l:=l) (d:=d) c hk,b,st,H,t,h=>by
  have D:=rK.cons (L:=b+1) c (jM.EE hk (b+1) st H t h);have e:md (b+1) (if .bj=[]then t else md (b+1+d) t)=md (b+.cy) t:=by
   show max (b+1) (if .bj=[]then t else max (b+1+d) t)=max (b+.cy) t;by_cases q:.bj=[];.have:=hk.zero q;grind
   grind
  grind
theorem jM.EE:∀{w l:@n}{d:Nat},.fl->∀(b:Nat)(st:.hM)(H:@n)(t:Nat),rK F st H t->rK F (.aE (λk=>(k,b+1))++st) (l++H) (if w=[]then t else md (b+d) t)
 |_,_,_,.nil,b,st,H,t,h=>h|_,_,_,.cons (n:=n) (ns:=w) (l:=c) (l':=A) (d:=x) (d':=C) D M,b,st,H,t,h=>by
  have r:=Tr.EE D b _ _ _ (jM.EE M b st H t h);have e:md (b+x) (if w=[]then t else md (b+C) t)=(if n::w=[]then t else md (b+md x C) t):=by
   show max (b+x) (if w=[]then t else max (b+C) t)=(if n::w=[]then t else max (b+max x C) t);rw[il (show¬n::w=[]by intro z;cases z)];by_cases q:w=[];.have:=M.zero q;grind
   grind
  grind
end
theorem Tr.alj(h:.dO):rK F [(n,1)] l d:=by have D:=h.EE 0 [] [] 0 .nil;grind
theorem rK.sub{st:.hM}(h:rK F st l d):(st.map lO).Sublist l:=by
 induction h with
 |nil=>simp|@cons n L r st l d c h I=>grind
theorem rK.le{st:.hM}(h:rK F st l d):∀p∈st,p.2<=d:=by
 induction h with
 |nil=>simp|@cons n L r st l d c h I=>intro p Q;grind
end Mx
namespace Tm
open PySem PySem.Spec PyProof.Rows L2
open Vaattx(Rec Flat)
abbrev Po:i5:=top 50
def WQ(t:Tc):Sp:=λg H Q _=>∃(x:U)(F:Flat)(d:Nat),.iX/\.gq/\.bf F .a7 .b1 d/\.pY Q d L
def pP(I:.hM):.aI:=I.map λp=>((iO (p.1:Int):Key),@Z (p.2:Int))
theorem ah2{I:.hM}{L:Nat}(T:(I.map lO).Nodup)(h:(n,L)∈I):jN (pP I) .ec=O (.jq L):=by
 induction I with
 |nil=>cases h|cons p r a=>grind[pP,qJ,rW]
theorem ajy(h:∀p∈I,p.1≠n):jN (pP I) .ec=e':=by grind[jN,pP]
theorem ah1(I:.hM):(pP I).length=.iE:=by grind[pP]
theorem DB:jb ["tree","levels","number","node","child"] .bP (i4 Po):=.J
theorem af8(F:.D "levels_of" Po f fd)(T:.az)(aw:mg "max"=e'):@H aO .aG 1 f fd .bP (WQ t):=by
 refine .t DB λaP A aQ s H vs Q E hr h=>?_;obtain⟨x,U,d,rfl,hT,ax,k⟩:=h;ext am;refine#[_,iy (.aK DB.nd y @q (Iy (DD .aE iY Iv) y y @I .E)) (iy (xU (.bo (NM .aE) (zG y (rr (.bZ DB.nd y @q) (rr (.a3 DB.nd y @q) zz))) (iE (.bo (kJ (.jg 3)) (.ev DB.nd y @q) (iE (zx hu @M .cN (.bK (.ff .ad .ai) iY) y)))))) (.jb (ai5 y .z aw @M))),?_];let#[dt,Y,as,h1,h2,h3,h4,h5]:=hT;have ay:=oB h3;have aj:=ax.alj;intro ld ac;refine#[_,y,x,.ar,dt,_,_,y,(@t ac) _ _ h1,.as,T.tR,rR,iG,.GP,y,@E,?_];rw[mz];have em:oG [] .GP=pP [(U.root,1)]:=y;rw[em];have sB:.I (@z ld .rI):=@t ac;have az:@z ld .rI ld=O .rI:=iG;have ae:Y≠ld:=jg h2 ac;generalize @z ld .rI=D at sB az⊢;have g1:=sB _ _ h1;have g2:=sB _ _ h2;have g3:iX (.aH D) as U.recs:=.mJ h3.imp sB;refine#[Y,_,g2,.dE,λB=>?_];have l1:upd D Y .li x=.pi dt (.h U.root) (@h Y):=.Z
 have l3:iX (.aH (upd D Y .li)) as U.recs:=g3.imp .GQ;have l2:upd D Y .li Y=O .li:=iG;have l0:upd D Y .li ld=O .rI:=.Z
 have aA:∀g,jB ld (upd D Y .li) g->.I (upd g Y .fk):=λg u b o e=>by
  by_cases hb:b=Y;ext ac
  .rw[iC hb];exact .bw (.pf hb sB e) (jg e ac)
 generalize upd D Y .li=Hl at l1 l2 l3 l0 aA⊢;refine#[_,y,x,.ar,dt,_,_,y,l1,.as,.bb,kI,Y,B,_,y,l2,MY (d:=Y) (o:=B) (kvs:=.vC) (λi σ g=>∃(v2 v3 v4:.aV)(I st:.hM)(M dr:Nat),σ=[.fh,O (@h ld),v2,v3,v4]/\jB ld Hl g/\g ld=.jo (pP I)/\Mx.rK U st ((.gx).drop i) dr/\(I.map lO).Nodup/\(∀p∈st,p∈I)/\(∀p∈I,p.1∈(.gx).take i\/p.1∈st.map lO)/\(∀p∈I,p.2<=M)/\(∃p∈I,p.2=M)/\max M dr=d/\.iE=i+.hJ) #[e',e',e',[(U.root,1)],[(U.root,1)],1,d,y,.k8,l0,aj,@E,λp l=>l,@E,@E,@E,?_,y] (λi σ g#[_,_,_,_,_,_,_,_,u,_]=>u _ _ l2 ae) ?_ ?_];.have:=aj.le _ jO;omega
 .rintro i ky v σ g Tt hi⟨v2,v3,v4,I,st,M,dr,rfl,u,af,C,ak,aB,aC,hM,ag,al,aD⟩am;obtain⟨a,r,ha,aE,rfl,rfl⟩:=zk hi;let#[r2,an,dn,cl,p,q1,q2,q3,q4]:=l3.get i a ha;rw[aE]at an;cases an;have aF:.gx[i]? =O .am:=.h
  have aR:=.jQ aF;have ao:(.gx).drop i=.am::(.gx).drop .ah:=by grind[Ka]
  rw[ao]at C;cases C with
  |@cons n L r2 aG l2 d2 aH C=>
  have er:r2=r:=by
   have i1:=.aG (sI aH);let#[j,i1]:=i1;have a1:.gx[j]? =O .am:=by grind[nZ]
   grind[Ku]
  subst er;have ap:(r2.id,L)∈I:=.h
  have aS:=hM _ ap;have ah:=C.sub;rw[mR,kQ]at ah;have aq:(lO∘λk=>(k,L+1))=(id:.dr):=y;rw[aq,xF]at ah;have ai:=h4;rw[<-Fj i .gx,ao]at ai;rw[sO,rg]at ai;obtain⟨n1,⟨n2,n3⟩,n4⟩:=ai;have aT:∀c∈r2.kids,∀p∈I,p.1≠c:=.h
  have aI:r2.kids.Nodup:=(sO.mp (ah.nodup n3)).1;have aU:.iE+r2.kids.length<=4000:=.h
  have uT:jB ld Hl (upd g Tt .At):=u.trans (.da (@t am));have aJ:upd g Tt .At ld=.jo (pP I):=@t am _ _ af;have aK:a≠ld:=.h
  have ar:cl≠ld:=.h
  have au:∀j,((.Au).map lO).Nodup:=λj=>by rw[mR,kQ,aq,xF,sO];refine#[ak,.h,λb hb c hc e=>?_];obtain⟨p,l,rfl⟩:=@Q hb;grind
  refine .lf Tt;generalize upd g Tt .At=H2 at uT aJ⊢;refine#[_,y,a,.aQ,dn,_,_,y,.dg q1 aK,.aT,T.nC,qt,cl,y,.jd (.dg q3 ar),xR (xs:=iK r2.kids) (λj σ H3=>∃v4:.aV,σ=[.fh,O (@h ld),O (.h r2.id),.fz,v4]/\jB ld Hl H3/\H3 ld=.jo (pP .Au)) #[v4,y,uT,.h] (λj σ H3 _#[_,_,u3,_]=>@D (u3 _ _ q3 ar)) ?_ ?_]
  .rintro j v σ H3 hj⟨aL,rfl,u3,ab⟩;unfold iK at hj;rw[jI]at hj;obtain⟨c,hc,rfl⟩:=.M hj;have aV:=kO hc;have aM:jN (pP .Au) (.jf c)=e':=ajy λp l e=>by
    rcases k8.mp l with z|z;.grind
    .obtain⟨k,hk,rfl⟩:=@Q z;have h9:=(abY .bK r2.kids).nodup aI;rw[.a2 hc]at h9;grind
   refine#[_,y,_,y,ld,_,y,.n #[_,iO (r2.id:Int),.n ab,y,(ah2 (au j) (List.mem_append_left _ ap)).symm],_,_,y,y,_,y,_,y,ld,_,y,uG.k (k:=.jf c) ab ?_,?_];.rw[ah1,j9,i0,Fy];exact .kI 4000
   .rw[A4 _ aM];refine#[_,y,u3.trans λb o e hb=>.ma hb e,?_];rw[iG,.a2 hc,mR,<-rP];grind[pP]
  .rintro σ H3⟨aL,rfl,u3,ab⟩;rw[lj,pB]at ab;have av:=au r2.kids.length;rw[pB]at av;refine#[_,_,_,I++.GR,.GR++aG,if r2.kids=[]then M else max M (L+1),d2,y,u3,ab,C,av,λp l=>?_,λp l=>?_,λp l=>?_,?_,?_,?_];.grind
   .grind
   .rcases k8.mp l with z|z;.have:=hM p z;split<;>omega
    .obtain⟨k,hk,rfl⟩:=@Q z;rw[il .q];omega
   .let#[p,l,e]:=ag;by_cases aa:r2.kids=[];.grind
    .rw[il aa];by_cases aW:L+1<=M;.exact#[p,.h,.t]
     .let#[c,hc]:=aaV _ aa;exact#[(c,L+1),.h,.t]
   .have aX:max M (max L d2)=d:=al;by_cases aa:r2.kids=[];.rw[ip aa];omega
    .rw[il aa];let#[c,hc]:=aaV _ aa;have h9:L+1<=d2:=C.le (c,L+1) .q;omega
   grind
 .rintro σ g⟨v2,v3,v4,I,st,M,dr,rfl,u,af,C,ak,aB,aC,hM,ag,al,aD⟩;rw[ay,<-.Av,List.drop_length]at C;cases C;have eM:M=d:=.t
  subst eM;refine#[u _ _ l2 ae,#[_,y,ld,_,I.map λp=>(p.2:Int),y,.ma (my ae) af,?_,?_,λm hm aN=>?_]];.unfold pP;simp
  .grind
  .let#[p,l,e]:=ag;let#[p2,aY,e2]:=@Q hm;have a1:=aN _ (.mB p l);grind
abbrev M4:i5:=top 51
def GO(t:Tc):Sp:=λg H Q _=>∃(x:U)(F:Flat)(d:Nat),.iX/\.gq/\.bf F .a7 .b1 d/\∀L,.I->.pc Q (.q (60<.rk)||.q .jn) L
theorem aem:jb .bP .bP (i4 M4):=.cJ
theorem adL(F:.D "is_too_large" M4 f a)(T:.az)(g:.fO)(p:.Am=.mi 60 aa)(q:.An=.mi 24 ab)(Gl:.al "levels_of" 1 .bP (WQ t) fl ac):.bG 2 f a .bP (GO t):=by
 refine .t aem λae A af s H vs Q E U h=>?_;obtain⟨x,l,d,rfl,m,v,k⟩:=h;refine#[_,.jb (Jt (pG tJ (.nH g 0) (kU (v:=.h 60) .z p .br) .aw) (Ee (pG tJ (iS Gl U iI .ji) (kU (v:=.h 24) .z q .br) .aw))),?_];let#[r,B,as,D,M,C,h4,h5]:=id m;have I:=oB C;refine#[_,y,x,.ar,r,_,_,y,D,.as,.bb,kI,B,_,y,M,_,_,y,y,_,y,?_];rw[I];by_cases c:60<l.recs.length;.grind[iu.refl]
 .have L:.q (.mG 60 l.recs.length)=ij:=.h
  rw[L];refine iU #[_,y,x,l,d,y,m,v,λH' s'=>.zd];grind[decide]
abbrev Ez:i5:=top 52
theorem UX(h:m<10):(Nat.digitChar m).toNat=48+m:=by
 match m,h with
 |0,_=>rfl|1,_=>rfl|2,_=>rfl|3,_=>rfl|4,_=>rfl|5,_=>rfl|6,_=>rfl|7,_=>rfl|8,_=>rfl|9,_=>rfl
theorem V7:∀(f m:Nat),m<f->Ks f m=(La 10 m).map Char.toNat
 |0,m,h=>.t|f+1,m,h=>by
  rw[Ks];by_cases D:m<10;.grind[aa0,UX]
  .have M:m%10<10:=.t
   have t:La 10 (m/10)++La 10 (m%10)=La 10 (10*(m/10)+m%10):=by grind[Nat.toDigits_append_toDigits]
   rw[Nat.div_add_mod]at t;rw[il D,<-t,mR,aa0 M,V7 f (m/10) @h,j6,UX M];rfl
theorem UW:∀(k f m:Nat),m<10^.a4->(Ks f m).length<=k+1
 |_,0,_,_=>.au|k,f+1,m,h=>by
  rw[Ks];by_cases D:m<10;.grind
  .rw[il D,j9];cases k with
   |zero=>omega|succ k=>have:=UW k f (m/10) @h;grind
theorem ajQ(i:Int):(mF (toString i)).cps.toList=t9 i:=by
 unfold t9 acr;rw[V7 _ _ (Aq _)];cases i with
 |ofNat m=>grind[PySem.W.KIN.signs_num]|negSucc m=>rw[ip (Int.negSucc_lt_zero m),signs_ofString];show("-"++Nat.repr .eG).toList.map Char.toNat=_;simp
theorem str_int(i:Int):(mF (toString i))=txt (t9 i):=by exact TL.By (ajQ i)
theorem S5{i:Int}(h:i.natAbs<10^18):(t9 i).length<=19:=by have:=UW 17 (i.natAbs+1) i.natAbs h;grind[t9,acr]
theorem zr(a b:@n):txt a++txt b=txt (a++b):=by exact TL.By (TL.MI _ _)
theorem zq(a:@n):(txt a).length=.c1:=rfl
theorem TN:∀l:.aJ,ro l=TL.yh [44,32] l
 |[]=>y|[x]=>y|x::C::r=>by show x++44::32::ro (C::r)=x++([44,32]++TL.yh [44,32] (C::r));rw[TN (C::r)];rfl
theorem agX(l:.aJ):Dv (", ":iA) (@M txt)=txt (ro l):=by rw[TL.join_eq,TN];refine TL.By ?_;rw[TL.Ov,kQ];show TL.yh [44,32] (@M _)=_;rw[show((TL.tl∘txt):@n->@n)=id from y,xF];rfl
def ko(t:Tc)(F:@H):Nat->Nat->@n
 |0,_=>[]|f+1,n=>match jq F n with
  |O r=>t.name .bO++(.GS++(if r.kids.isEmpty=f' then[]else 40::(ro (.aO (.cW f))++[41])))|e'=>[]
theorem VE(h:uy t)(i:Nat):.mf t.name i<=12:=by
 unfold Tc.name;cases e:t.P[i]? with
 |none=>simp|some m=>exact(h m (kO e)).2.2.2.2.2.2
def Br(l:.aJ):Nat:=(@M yY).sum
theorem Mw:∀l:.aJ,(ro l).length<=Br l+2*.ac
 |[]=>.au|[x]=>by simp[ro,Br]|x::C::r=>by have:=Mw (C::r);grind[ro,Br]
mutual
theorem A7(v:uy t)(f:.rJ):∀{n:Nat}{l:@n}{d:Nat},.bf F n l d->∀j,(.cW j n).length+2<=40*.ac
 |_,_,_,.node (r:=r) (l:=l) h k,0=>by grind[ko]|_,_,_,.node (r:=r) (l:=l) h k,j+1=>by
  rw[ko,h];ext h;have D:=VE v .bO;have M:(.GS).length<=20:=by
   have:=S5 (f r (sI h));split;.show(.lj).length<=20;grind
   .exact .au
  have a:=MX v f k j;grind[Mw]
theorem MX(v:uy t)(f:.rJ):∀{w l:@n}{d:Nat},.Aw->∀j,Br (.aE (.cW j))+2*.mf w.map (ko t F j)<=40*.ac
 |_,_,_,.nil,j=>.au|_,_,_,.cons a b,j=>by have D:=A7 v f a j;have M:=MX v f b j;grind[Br]
end
theorem Oq:∀{w l:@n}{d:Nat},.Aw->∀c∈w,∃H t,.bf F c H t/\t<=d/\H.length<=.ac
 |_,_,_,.nil,c,h=>.b4|_,_,_,.cons (d:=d) (d':=t) a b,c,h=>by
  ext a6;.grind
  .let#[H,C,D,M,r]:=Oq b c h;grind
def Ea(t:Tc)(j:Nat):Sp:=λg H Q _=>∃(x:U)(F:Flat)(n:Nat)(l:@n)(d:Nat),g=[.a2,.cd]/\.gq/\.gp/\uy t/\.bf F n l d/\d<=j/\.rJ/\.n0/\∀L,.I->Q (.jj (ko t F j n)) L
def Z5(t:Tc)(F:@H)(j:Nat)(_:Hp)(x C:V):.n:=∃c:Nat,x=.h c/\C=.jj (ko t F j c)
theorem V1:∀{l:@n}{ys:.L},iX (Z5 t F j H) (iK l) ys->ys=((@M (.cW j)).map txt).map V.str
 |[],_,h=>.ge|n::l,_,h=>by
  cases h with
  |cons h t=>
   ext bG
   ext Y;rw[V1 (l:=l) t];rfl
theorem wu:jb ["tree","number","node","written","forms","child"] .ch (i4 Ez):=.J
theorem ahG(F:.D "form_of" Ez f a):.bG 1 f a .ch (Ea t 0):=by refine .t wu .cK;obtain⟨x,k,n,l,d,rfl,_,_,_,v,T,_⟩:=h;let#[_,_,_,_,h]:=v.head;omega
theorem ajf(F:.D "form_of" Ez f fd)(T:.az)(ah:mg "str"=e')(G:.L ai .an "form_of" .bK .ch (Ea t j) f fd):@H ai .aG (j+2) f fd .ch (Ea t .bK):=by
 refine .t wu .FM;obtain⟨x,U,n,l,d,rfl,hT,hP,v,ab,hd,g,hl,k⟩:=h;refine#[_,iy (.ag wu.nd y @q (qx (og hr) .aE @M .ai)) (iy (.aL wu.nd y @q (iL .jh y)) (iy (jh (ju YJ .jh pJ .z) (iE (xZ (i:=3) wu.nd y @q (lu L8 n6 (wb adk .z ah boot_str .vu)) Tv)) jn) (iy (jh (xP .jh .cY) (iy (.bE wu.nd y @q (YH n6 (lX y wu.nd (kJ .jh) (.kX 5) (λ_ _ _ _ _=>.dJ wu.nd y @q) .bA (λ_ _ _ _ _=>n8 G hr (.mb 0 5))))) (iE (xZ (i:=3) wu.nd y @q (lu L8 (lu L8 n6 .cN) n6) Tv))) jn) (iE (iR .ak))))),?_];have ac:=A7 v g ab .bK;cases ab with
 |@node _ r l d B hk=>
 let#[dt,nd,h1,h2]:=hT.at;let#[a,dg,I,cl,p,u,g4,g5,g6,g7]:=h2.at B;let#[m,q1,dp,au,rl,rs,q2,_]:=hP.get g4;have ae:t.name .bO=.eI:=by grind[Tc.name]
 rw[ko,B]at k ac;dsimp only at k ac;have hN:=VE v .bO;have hS:=S5 (g r (sI B));refine#[_,y,x,.ar,dt,_,_,y,h1,.as,.bb,kI,_,y,nd,_,y,dg,?_];refine#[_,y,a,.aQ,I,_,_,y,u,.aT,T.nP,vX,p,t.g.Cp,dp,_,_,y,q2,T.G.p,T.G.pN,y9,?_];refine#[_,y,a,.aQ,I,_,_,y,u,.aT,T.nV,yZ,y,_,y,?_];have aa:H cl=.nW:=g5;have av:∀z:@n,.pA<=12->(z++.lj).length<=40:=.h
 cases ho:.eb;focus
  have M:.as r=.iM:=.Ar
  rw[M];rw[ho]at k;ext L;have C:m.name.length<=40:=.h
  have kk:∀L,.I->Q (@I (txt (.eI++.GT))) L:=by rw[ae]at k;exact k
  generalize m.name=w1 at C kk⊢
 ext D;focus
  have M:.as r=.h r.num:=.Ar
  rw[M];rw[ho]at k;have C:(.eI++.lj).length<=40:=.h
  have aj:r.num.natAbs.log2<1920:=by
   have:=g r (sI B);by_cases h0:r.num.natAbs=0;.ext t
   .rw[Nat.log2_lt h0];omega
  have ak:(" ":iA).length=1:=y;refine iQ #[_,y,_,y,a,.aQ,I,_,_,y,u,.aT,T.nV,yZ.trans (.j3 M),_,y,aj,_,_,y,y,?_,_,_,y,y,?_,?_];.rw[ak,str_int,zq];exact .jL 40
  .have e1:.GU=txt .lj:=by rw[str_int];exact zr [32] _
   rw[e1];show(txt .eI).length+_<=_;rw[zq,zq,<-j9];exact .ju C
  have e1:txt .eI++.GU=txt (.eI++.lj):=by rw[str_int,<-zr];exact .aA _ (zr [32] _)
  rw[e1];have kk:∀L,.I->Q (@I (txt ((.eI++.lj)++.GT))) L:=by rw[ae]at k;rw[rP];exact k
  generalize .eI++.lj=w1 at C kk⊢
 all_goals
  refine#[_,y,a,.aQ,I,_,_,y,u,.aT,T.nC,qt,_,.n #[_,@D aa,y],?_];cases af:r.kids with
  |nil=>refine iU .cL;grind[iu.refl]|cons c0 cr=>
   have al:.bj≠[]:=.h
   rw[<-af];have aw:=MX v g hk j;have ax:=Mw (.aO .vY);have hb:(!(iK .bj).isEmpty)=f':=.jP af
   rw[hb];refine iQ #[.br,_,y,a,.aQ,I,_,_,y,u,.aT,T.nC,qt,cl,y,.jd aa,λD hD=>oP (Z5 t U j) .bF .b9 hD (@D aa) (.kH g7) (λi ay H2 Ky Kn hx s2 az hy aA=>?_) λH2 ys s2 am ag=>?_];.ext bb;obtain⟨c,hc,rfl⟩:=.fU;let#[l',d',t1,t2,t3]:=Oq hk c (kO hc);refine .jF #[_,y,_,y,x,U,c,l',d',y,hT.keep s2,hP.keep s2 T.G,v,t1,.t,g,.h,λH3 s3=>hy _ H3 s3 y #[c,y,y]]
   rw[mU]at ag;have an:=V1 ag;subst an;have ao:=kk H2 s2;rw[il (by simp[al])]at ao;refine#[_,_,_,y,y,.jD am,?_,?_];.rw[kQ,i0];show Br (.aO .vY)+(.aO .vY).length*2<=_;grind
   rw[agX];rw[lH]at hl;have e2:.Ax++(")":iA)=txt (40::(.rL++[41])):=by have:.Ax=txt (40::.rL):=zr [40] _;rw[this];exact zr _ [41]
   have ap:("(":iA).length=1:=y;refine#[_,y,_,y,_,_,y,y,?_,_,_,y,y,?_,_,_,y,y,?_,_,y,?_];.rw[ap,zq];exact .jL 160001
   .have:.Ax=txt (40::.rL):=zr [40] _;rw[this,zq,lH];exact ja (show _<=160002 by have:(")":iA).length=1:=y;omega) .E
   .rw[e2,zq,zq,lH,j9];exact .lh 160100
   grind[zr]
end Tm
namespace L2
open PySem PySem.Spec PyProof.Rows
theorem acj(g:.tp)(r:.ah d=O l)(L:.pQ)(a:.a5=n)(v:f[i]? =O I)(u:∀D,.DB->vT C .O D->Q I.key .em):.ai (Kb .gV) Q E s:=by
 let#[o,k,B,T]:=id g;unfold Kb;refine iH (.g2 g.typeIs vH (.g3 .z));ext aq;ext ah;ext ar
 ext a2
 ext a3;ext a4;let#[p,m]:=BY.mp v;ext b5;ext ar
 ext b6;refine .mL k T;ext b7
theorem Sl(p:.dY)(g:.tp)(r:.ah d=O l)(L:.pQ)(a:.a5=n)(v:n<=i)(u:∀D e,SY C .O D->(∃o,.b6 e=O o/\o.cls=.af "StopIteration")->E (@h e) .em):.ai (Kb .gV) Q E s:=by
 let#[o,k,B,T]:=id g;unfold Kb;refine iH (.g2 g.typeIs vH (.g3 (F.args_dict_keyiterator_next_1 _)));ext aq;ext ah;ext ar
 ext a2
 ext a3;ext a4;have h:.a5<=i:=.t
 ext b8;ext ar
 show .DD;refine .mL k T;ext br;exact u _ _ .yf #[_,.cG,y]
theorem ae8(p:.dY)(f:.dt=n)(g:C≠d):Draws H w A C [C,d] n (λi x=>∃I,es[i]? =O I/\x=I.key) (λi h=>.eW n ep/\∃l,.aP d=O l/\l.data=.d7 es ep)where
 live:=λi h st=>let#[#[o,e,_],_]:=st;#[o,e]
 frame:=λi h D st k=>let#[a,l,b,c]:=st;#[a.at .q,l,k d @I l b,c]
 item:=λi s Q E t st u=>by
  let#[a,l,b,c]:=st;have L:i<.dt:=.t
  refine acj a b c f (qo L) λD v sb=>u _ D .dW #[_,qo L,y] #[v,l,.pD d (my g) b,c] sb
 done:=by grind[Sl]
theorem agK(p:.dY)(g:.a5=n)(t:n<=i):Draws H w A C [C,d] i (λ_ _=>True) (λj h=>j=i/\.eW n ep/\∃l,.aP d=O l/\.pQ)where
 live:=λi h st=>let#[_,#[o,e,_],_]:=st;#[o,e]
 frame:=λi h D st k=>let#[z,a,l,b,c]:=st;#[z,a.at .q,l,k d @I l b,c]
 item:=.t
 done:=by grind[Sl]
set_option maxHeartbeats 1000000 in
theorem abr(d:U)(f:.g4)(ep:Nat)(u:.E U)(M:.py)(T:.jN d)(v:Obj.ExactDict .GV):Meets (Builtin.«enumerate.__new__» #[[.af "enumerate",.aD],[]]) (λ_ R s=>.ah d=O .GV/\R (.ok (.ret (@h (.mG).objs.size)))
    {s with heap:=(.mG).push .Ay}):=.of_wp λH w A R s h=>by
  let#[Q,g,t,x,os]:=s;let#[L,h]:=h;have D:=sub_enumerate;wp_walk using BZ L;refine wpAny_stack_any λst=>.cH;split
  .rename_i c _ _ _ _ _;cases(c==vV "enumerate");ext bI
   ext bI
  ext bI
theorem abC(T:.jN d)(k:.gd)(v:.lN)(C:.mF)(h:∀D,IsEnum D .bW @L 0 .none->D.IsKeyIter @L d 0 .a5 ep->.mB=@L+2->.vf->Q (@h .bW) .em):.ai (call (.af "enumerate") [.aD]) Q E s:=by
 let#[c,u,g,M]:=o;have B:c=.ky:=v.1;replace C:g=.d7 f ep:=C;subst B C;refine callType_new F.called_enumerate .E (F.typeCall_enumerate_1 _) (F.newCall_enumerate_1 _) (λm=>.Q) F.entry_enumerate_new (abr d f ep u M T v) #[k,?_];have l:(.mG).objs.size=@L+1:=uP ..;show _/\_;rw[l];have a:IsEnum ((.mG).push
   .Ay) .bW @L 0 .none:=by
  have:=kP .mG (o:=.Ay) y;grind
 refine#[#[_,a,y],h _ a #[_,kZ _ .cG,y,y] @I .bU]
def aav(d:U)(o:jA)(kvs:.aI):It:=#[.tt,λi H v L=>∃T k x,kvs[i]? =O (k,x)/\v=@h T/\H T=e'/\L=@z T .vZ,.tv]
theorem aee(e C:U)(r:.pU):
  .c5 (.eX kk au) (aav d o kvs) [e,C] e (λi h=>(∃f,IsEnum h e C (.ii:Int) f)/\.eW .aN ep/\e≠C)where
 mem:=@E
 obj:=λi h st b l=>by let#[#[f,a],#[o,ho,B,T],_]:=st;grind
 keep:=λi h D st k=>let#[#[f,a],t,c]:=st;#[.h,t.at .q,c]
 item:=by
  ext cC;subst aa ab;let#[#[k,v],ag]:.pW:=.aW
  let#[u,hu,ru]:=Ei kv ag;let#[od,ai,ah,_,aj,_,hp,_]:=id hm;rw[Y]at ah;cases ah;let#[e1,e2]:=uh r aj;subst ai;have ak:e<@L:=jZ a;have av:C<@L:=by let#[_,q,_]:=g;exact jZ q
  have al:C≠d:=λz=>by let#[oi,q,_,q2]:=g;grind
  have aw:e≠d:=.h
  refine wpAny_pyNext_enum_itemD (ae8 (A:=X.A.in1) (es:=es) (ep:=ep) .eo ae al) a #[g,o,Y,r] t c .q λx D m am ho an hT hz hk=>?_;obtain⟨J,ax,rfl⟩:=am;have ao:qQ k J.key=f':=(hp.get? (e:=J) .q hu).1;refine#[_,y,wpAny_letOwnedTupleGo_enum (s:={s with heap:=D,toks:=m+1}) ho λaf ay sb=>?_];have ap:af.get? @L=O {cls:=.kk,data:=.seq (.a6 [.h i m,J.key])}:=(sb.2 _ (yV ak)).trans hT;have aq:.cK (.dU .vZ) af @L .vZ:=
   #[@Z,[.h i m,J.key],.J .br (.J (HQ ao) .nil),#[_,ap,y,_,y]];have I1:.Y (.dU .vZ) {s with heap:=af,toks:=m+1}:=
   I.U8 (ch:=[e,C]) (λb ob l q=>.gB .q) Q .ba aq;refine#[.fF,_,I1,y,#[_,k,v,ag,y,.e2,y],#[#[J.key,?_],an.1.at λo q=>.pD C (my c) q,c],.h9];.grind
  .have ar:b<@L:=.h
   rw[iC (mT ar)];exact(Q b l).1
 done:=by ext cC;subst aa ab;let#[f0,f1,f2,f3,f4,f5]:=.iw;exact wpAny_pyNext_enum_endD (agK (A:=X.A.in1) .eo ae t) a #[y,g,o,Y,r] λD eb=>#[y,.cM (λb o l q=>eb b o l q) f0 f1 f3 f4 f5]
 self:=by grind[abN]
def aky(t:TA):TI:=λσ H R=>.ab λg B=>∃d o kvs,g=[.aD]/\.tw/\R (aav d o kvs) B
theorem ahr(u:Gl X "enumerate")(M:X.mg "enumerate"=e')(C:PA X [e] t)(w:.kA=[.fE]:=by rfl):PI X (.eX x A) (.an (.Name "enumerate" p) [e] [] T) (aky t):=by
 ext an;refine Call_ (uj I u M boot_enumerate (.om (C T @t s σ H _ I h) w));let#[d,o,kvs,J,U,q]:=L;subst J;cases r1 with
 |cons r v=>
  cases v;cases r;let#[w,Q,Y,es,ep,g,c,a,kv,M]:=D.tW U;refine abC w Q Y c λh' f l hz hk=>abN f ?_;rw[a]at l;refine#[.bT+1,[.bT+1,.bT],_,_,B,y,.eQ hk,aee (.bT+1) .bT c,.h,λb hb=>?_,q];have k:.bT<=b:=.h
  exact D.EV k (D.je.fresh k)
theorem aiC(L:.e3=.cQ)(h:∀(j:Nat)C u,ys[j]? =O C->us[j]? =O u->.dV):.ac ys us:=by
 induction ys generalizing us with
 |nil=>
  cases us with
  |nil=>ext ae
  |cons=>cases L
 |cons C ys I=>
  cases us with
  |nil=>cases L
  |cons u us=>exact .J (h 0 C u y y) (I .q λj a b D M=>h .bK a b D M)
theorem U1(c:.en):sx X .dU (λxs H Q=>∃d kvs,xs=[.ap d]/\.ri/\∀l,.dc->Q .d0 (.bu l (kvs.map .vw))):=by ext ap;obtain⟨d,kvs,rfl,T,q⟩:=h;obtain⟨u,rfl,f⟩:=.mr;cases f;let#[z,U,g,p,Y]:=BH .bB T;let#[t,w,ep,g1,A]:=Y;have C:.DF:=#[t,w,g1,A];have L:.kf:=p.length;refine PySem.W.kdl_call (PySem.W.kdl_dict (knd:=.kx) (kvs:=g) (ep:=ep) U) (I.ok.hd c) C @h λM tk a c' hk hS B=>?_;refine#[.fF,_,I.laid (t':=tk) hk .ba (show .cK _ M _ (@E (.cu .vw))from#[.h,a.toList,c',aiC ((i0 _).trans (.dP (B.1.symm.trans (yF (xs:=a)).symm))) λj ab u D h2=>?_,.j3 hS]),y,q _ .e2];rw[jI]at D;obtain⟨⟨k,v⟩,e1,rfl⟩:=.M D;let#[k',x,e2,aa]:=B.2 j u .q;let#[v',J,_]:=Ei p e1;rw[e2]at J;cases J;exact HQ aa
theorem agl:BX X "list.count" (λx xs H Q=>∃(a:U)(w:.af)(k:Int),.cv/\xs=[.h k]/\.dR a (.aE .a6)/\Q (.h .Az) H):=by
 ext bv;obtain⟨a,w,k,rfl,rfl,l,q⟩:=h;cases f;obtain⟨u,rfl,t,rfl⟩:=vals1 rs;let#[M,g,m,c]:=.aQ l;refine count_list_ints m.isList ?_ (.pG .Az H q);clear q l m c;revert M;induction w with
 |nil=>intro M g;cases g;ext ae|cons n w p=>
  intro M g;cases g with
  |cons r B=>ext E;exact .J _ _ (p _ B)
theorem aie:aas X (zW X.K):=by
 ext ag;ext bm;let#[M,r,l,c]:=.aQ g;let#[j,D,m,Y,k,A]:=IH a;let#[w,L,T]:=r.get m;ext bn;by_cases J:0<=i
 .have U:i.toNat=j:=by grind[Ls]
  exact wpAny_getItem_list l.isList J @h .q fin
 .have U:.C4:=by grind[K7]
  exact aa7 l.isList @h .q @h .q fin
end L2
section
variable{mask:Nat}{E:FZ->acY->Prop}
namespace Sx
open PySem PySem.SetTable
def yx:Nat->.dr
 |0,x=>x|r+1,x=>yx r (5*x+1)
theorem O1:∀r s x,yx (r+s) x=yx s (yx r x)
 |0,s,x=>.AA|r+1,s,x=>by rw[.qd r 1 s];exact O1 r s _
theorem YZ:∀k,∃c b,c=2^k*(2*b+1)/\∀x,yx (2^k) x=x+c*(4*x+1)
 |0=>#[1,0,y,λx=>by show 5*x+1=_;omega]|k+1=>by
  let#[c,b,e,h]:=YZ k;refine#[2*c*(1+2*c),b*(1+2*c)+c,?_,.ll];.grind
  .rw[show 2^.a4=2^k+2^k by omega,O1,h,h];grind
theorem aib(B:0<M)(e:C%M=j%M)(q:C%(2*M)≠j%(2*M)):(C+M)%(2*M)=j%(2*M):=by
 have d:M∣2*M:=#[2,Nat.mul_comm _ _];have a:=abH C d;have A:=abH j d;have f:=GL C (show 0<2*M by omega);have h:=GL j (show 0<2*M by omega);have g:(C+M)%(2*M)=(C%(2*M)+M)%(2*M):=@E
 rw[g];generalize C%(2*M)=u at*;generalize j%(2*M)=v at*;have k:u%M=if u<M then u else u-M:=by
  split;.exact vO ‹_›
  .rw[RI @h,.jo]
 have L:v%M=if v<M then v else v-M:=by
  split;.exact vO ‹_›
  .rw[RI @h,.jo]
 by_cases c:u<M;.rw[.jo];grind
 .rw[RI @h,.jo];grind
theorem O0:∀k x j,∃r,r<2^k/\yx r x%2^k=j%2^k
 |0,x,j=>.h|k+1,x,j=>by
  let#[r,a,e]:=O0 k x j;let#[c,b,p,h]:=YZ k;have Q:2^.a4=2*2^k:=.t
  generalize m:yx r x=y at e;by_cases q:y%2^.a4=j%2^.a4;.grind
  .refine#[r+2^k,.t,?_];rw[O1,m,h,p];have A:y+2^k*(2*b+1)*(4*y+1)=y+2^k+2^.a4*(b*(4*y+1)+2*y):=.h
   rw[A,Nat.add_mul_mod_self_left];rw[Q]at q⊢;exact aib (Nat.two_pow_pos k) e q
def jL(t:pZ):Nat->Probe->Probe
 |0,p=>p|m+1,p=>.cA .hN
theorem xW(t:pZ):∀m n p,jL t (m+n) p=jL t n (.cA p)
 |0,n,p=>.AA|m+1,n,p=>by rw[.qd m 1 n];exact xW t m n _
structure oY(t:pZ)(p:Probe):Prop where
 more:p.more<=9
 Rh:p.perturb<2^65
 no:p.dummy=e'
 jm:p.j+p.more<=t.mask
 rn:p.j+p.more=runEnd t.mask p.i
theorem Vt(mask i:Nat)(h:i<=.aM):.kJ i-i<=9/\i<=.kJ i/\.kJ i<=.aM:=by grind[runEnd]
theorem OW(mask i p:Nat):(.eE i p).1<=.aM:=by unfold leap;have:=GL (i*5+1+p/32) (show 0<.eP by omega);omega
theorem oY.step(h:oY t p):oY t .hN:=by
 have D:=h.more;have M:=h.Rh;have r:=h.jm;unfold advance;by_cases c:.cC>0;.rw[ip c];have T:=h.rn;exact#[.h,M,h.no,.h,.h]
 .rw[il c];let#[r1,r2,r3]:=Vt .a8 _ (OW .a8 p.i .lm);refine#[r1,?_,h.no,?_,?_];.show .lm/32<_;omega
  .grind
  grind
theorem oY.steps:∀{m:Nat}{p:Probe},oY t p->oY t (.cA p)
 |0,_,h=>h|m+1,_,h=>oY.steps (m:=m) h.step
theorem oY.start(t:pZ)(h:Int):oY t .og:=by
 have l:.oi<=.a8:=by have:=GL (bits h) (show 0<.a8+1 by omega);omega
 let#[r1,r2,r3]:=Vt .a8 _ l;refine#[r1,?_,y,?_,?_];.show bits h<2^65;grind[bits]
 .show .oi+(.AB-.oi)<=_;omega
 .show .oi+(.AB-.oi)=.AB;omega
def lp(mask:Nat):Nat->Nat×Nat->Nat×Nat
 |0,x=>x|r+1,x=>.dh r (.eE x.1 x.2)
theorem P6(mask:Nat):∀r s x,.dh (r+s) x=.dh s (.dh r x)
 |0,s,x=>.AA|r+1,s,x=>by rw[.qd r 1 s];exact P6 .aM r s _
theorem Il(t:pZ):∀(k:Nat)(p:Probe),.cC=k->(jL t .a4 p).j=(.AC).1/\(jL t .a4 p).i=(.AC).1/\(jL t .a4 p).perturb=(.AC).2
 |0,p,h=>by grind[jL,advance]|k+1,p,h=>by
  have e:.GW:=.AD
  have:=Il t k .hN .q;grind[jL]
theorem WC(t:pZ):∀(r:Nat)(p:Probe),oY t p->∃m,m<=10*(r+1)/\.oj=(lp .a8 (r+1) .AE).1
 |0,p,h=>#[.cC+1,.j7 h.more,(Il t _ p y).1]|r+1,p,h=>by let#[D,M,a]:=Il t _ p y;let#[m,c,e]:=WC t r (jL t (.cC+1) p) h.steps;refine#[.cC+1+m,.j7 h.more,?_];rw[xW,e,M,a];rfl
theorem OU(mask:Nat):∀(q i p:Nat),p<32^q->(.dh q (i,p)).2=0
 |0,i,p,h=>by show p=0;omega|q+1,i,p,h=>by refine OU .aM q _ (p/32) ?_;omega
theorem OV(mask:Nat):∀(r i x:Nat),i=x%.eP->(.dh r (i,0)).1=yx r x%.eP
 |0,i,x,h=>h|r+1,i,x,h=>by have e:.eE i 0=((i*5+1)%.eP,0):=y;show(.dh r (.eE i 0)).1=_;rw[e];refine OV .aM r _ (5*x+1) ?_;grind[Nat.add_mod,Nat.mul_mod,Nat.mod_mod]
theorem comes(t:pZ)(hk:.a8+1=2^k)(h:oY t p)(H:j<=.a8):∃m,m<10*(.a8+15)/\.oj=j:=by have z:=OU .a8 13 p.i .lm (oN h.Rh .E);have l:(.v0).1<=.a8:=OW _ _ _;let#[r,c,e]:=O0 k (.v0).1 j;let#[m,a,T]:=WC t (12+r) p h;refine#[m,.t,?_];rw[T,show 12+r+1=13+r by omega,P6];have M:.v0=((.v0).1,0):=Prod.ext y z;rw[M,OV .a8 r _ _ (.jo).symm,hk,e];exact .jo
abbrev Up(xs:.hO):.n:=xs.toList.Pairwise (·<·)
theorem Up.lt{xs:.hO}(h:Up xs)(Q:i<j)(p:.jp)(l:.mA j b):a<b:=by rw[<-vI]at p l;let#[c,C]:=o1.mp p;let#[A,f]:=o1.mp l;rw[<-C,<-f];exact Fg.mp h i j c A Q
theorem Oh{xs:.hO}(h:Up xs)(j:Nat):∀(f lo t:Nat),t-lo<=f->lo<=t->t<=.cO->(∀i a,i<lo->.jp->a<j)->(∀i a,t<=i->.jp->j<=a)->.AF<=.cO/\(∀i a,i<.AF->.jp->a<j)/\∀i a,.AF<=i->.jp->j<=a
 |0,lo,t,D,M,r,B,T=>by
  obtain rfl:lo=t:=.t
  exact#[r,B,T]|f+1,lo,t,D,M,r,B,T=>by
  rw[below.go];by_cases c:lo<t
  .rw[ip c];have g:.jq<.cO:=.t
   have e:xs.getD .jq j=xs[.jq]:=.aW
   ext h;rw[e];by_cases d:xs[.jq]<j
   .rw[ip d];refine Oh h j f _ _ @h @h r (λi a w p=>?_) T;by_cases q:i=.jq;.grind
    .exact Lc (h.lt (show i<.jq by omega) p @I) d
   .rw[il d];refine Oh h j f _ _ @h @h @h B (λi a w p=>?_);by_cases q:i=.jq;.grind
    .have:=h.lt (show .jq<i by omega) (qo g) p;omega
  grind
theorem below_at{xs:.hO}(h:Up xs)(j:Nat):.hP<=.cO/\(∀i a,i<.hP->.jp->a<j)/\∀i a,.hP<=i->.jp->j<=a:=Oh h j _ _ _ @h .au .ba @h .q
theorem aix{xs:.hO}(h:Up xs)(e:.mA i j):.hP=i:=by
 let#[D,M,r]:=below_at h j;rcases abX (below xs j) i with c|c|c
 .have L:.hP<.cO:=.h
  have:=r _ _ .ba (qo L);have:=h.lt c (qo L) e;omega
 .exact c
 grind
theorem afd{xs:.hO}(h:Up xs)(e:.mA i j):below xs .bK=i+1:=by
 let#[D,M,r]:=below_at h .bK;rcases abX (below xs (j+1)) (i+1)with c|c|c;.grind
 .exact c
 .have L:i+1<.cO:=.t
  have u:=M .ah _ c (qo L);have:=h.lt (Aq i) e (qo L);omega
theorem has_none(j:Nat):has .cU j=ij:=rfl
section
variable{t:pZ}(u:Up t.place)(nd:t.dummies=(List.toArray []))
include u
theorem Vq(e:.om):.bQ j=.jr:=by have:.GX:=y;grind[aix]
include nd
theorem GU(j:Nat):(∃i,.om/\.bQ j=.jr)\/(.AG/\.bQ j=.empty):=by
 by_cases q:∃i:Nat,.om;.grind[Vq]
 .refine @n #[λi e=>q #[i,e],?_];have:.GX:=y;grind[has_none]
theorem YT(h:.bQ j=.jr):.om:=by grind[GU]
theorem XQ(h:.bQ j=.empty):.AG:=by grind[GU]
end
theorem ZS{xs:.hO}(h:Up xs):∀(i a:Nat),.jp->i<=a
 |0,a,_=>.au|i+1,a,e=>by
  have L:i<.cO:=.h
  have u:=ZS h i _ (qo L);have:=h.lt (Aq i) (qo L) e;omega
theorem ae5{xs:.hO}(h:Up xs)(w:.cO<M):∃j,j<M/\.AH:=by
 have B:∀n,n<=.cO->(∀i:Nat,i<n->xs[i]? =O i)\/∃j,j<n/\.AH:=by
  intro n;induction n with
  |zero=>simp|succ n I=>
   intro f;rcases I (by omega)with q|⟨j,D,a⟩
   .by_cases c:xs[n]? =O n;.grind
    .refine @n #[n,.t,λi e=>?_];have:=ZS h i n e;grind
   .exact @n #[j,.t,a]
 rcases B xs.size (jw _)with q|⟨j,D,a⟩;.grind
 .exact#[j,.t,a]
section
variable{t:pZ}{hashAt:Nat->Int}{h:Int}(u:Up t.place)(nd:t.dummies=(List.toArray []))
include u nd
theorem ahq:∀(N f:Nat)(p:Probe),N<f->oY t p->.pM t N p=.empty->(∃m,m<=N/\.f5 f p=O (.empty .oj e')/\.bQ .oj=.empty/\∀c,c<m->.AI)\/∃m i,m<N/\.bQ .oj=.jr/\hashAt i=h/\.f5 f p=O (.candidate .oj i .v1)/\∀c,c<m->.AI:=by
 intro N;induction N with
 |zero=>
  intro f p Q g a;match f,Q with
  |f+1,_=>refine .n #[0,.bV,?_,a,.t];have a:.bQ p.j=.empty:=a;rw[probe.go,a];ext h;rw[g.no];rfl
 |succ N I=>
  intro f p Q g a;match f,Q with
  |f+1,Q=>
   rcases GU u nd p.j with⟨i,s,w⟩|⟨_,w⟩
   .by_cases q:hashAt i=h;.refine @n #[0,i,Nat.succ_pos _,w,q,?_,.t];rw[probe.go,w];ext h;rw[ip (by simp[q])];rfl
    .have e:.f5 (f+1) p=.f5 f .hN:=by grind[probe.go]
     rw[e];have ext:∀m,(∀c,c<m->∃i,.pM t c .hN=.jr/\hashAt i≠h)->∀c,c<m+1->.AI:=λm k c v=>by
      cases c with
      |zero=>exact#[i,w,q]
      |succ c=>exact k c @h
     rcases I f (t.advance p) (by omega) g.step a with⟨m,D,M,r,B⟩|⟨m,l,D,M,r,B,T⟩;.exact .n #[m+1,.t,M,r,ext m B]
     .exact @n #[m+1,l,.t,M,r,B,ext m T]
   .refine .n #[0,.au,?_,w,.t];rw[probe.go,w];ext h;rw[g.no];rfl
end
abbrev rM:=Int×iB
theorem Ie(e:.a8=t'.mask):∀(m:Nat)(p:Probe),.cA p=jL t' m p
 |0,p=>y|m+1,p=>by
  have:.hN=t'.advance p:=.AD
  show .cA .hN=jL t' m (t'.advance p);rw[this];exact Ie e m _
def Path(t:pZ)(h:Int)(j:Nat):.n:=∃m,(.cA .og).j=j/\∀u,u<m->∃i:Nat,t.place[i]? =O (jL t u .og).j
structure tO(t:pZ)(es:Array rM):Prop where
 sz:t.place.size=es.size
 up:Up t.place
 le:∀(i j:Nat),t.place[i]? =O j->j<=t.mask
 nd:t.dummies=(List.toArray [])
 pw:∃k,3<=k/\k<=13/\t.mask+1=2^k
 path:∀(i j:Nat)(e:rM),t.place[i]? =O j->es[i]? =O e->Path t e.1 j
theorem Gj(xs:.aN α)(p:Nat)(x:α)(Q:p<=.cO):(.v5).toList=xs.toList.take p++x::xs.toList.drop p:=by grind[insertAt,Array.toList_extract,yF]
theorem De(xs:.aN α)(p:Nat)(x:α)(Q:p<=.cO)(i:Nat):.v5[i]? =if i<p then xs[i]? else if i=p then O x else xs[i-1]? :=by rw[<-vI,Gj xs p x Q];grind
theorem Tw(xs:.aN α)(p:Nat)(x:α)(Q:p<=.cO):(.v5).size=.cO+1:=by grind[Gj,j9]
theorem ad2(xs:.aN α)(p:Nat)(x:α)(Q:p<=.cO):(.v5).toList.Perm (x::xs.toList):=by rw[Gj xs p x Q];refine ab7.trans (List.Perm.cons _ ?_);simp
theorem afm{xs:.hO}(h:Up xs)(H:.AH):Up (insertAt xs .hP j):=by
 let#[D,M,r]:=below_at h j;unfold Up;rw[Gj xs _ j D,List.pairwise_append];have s:∀a∈xs.toList.take .hP,a<j:=λa p=>by let#[i,t,e]:=List.mem_take_iff_getElem.mp p;grind
 have T:∀b∈xs.toList.drop .hP,j<b:=λb l=>by
  let#[i,t,e]:=List.mem_drop_iff_getElem.mp l;have A:xs[.hP+i]? =O b:=.h
  grind
 refine#[.h,An.mpr .q,λa p b l=>?_];grind
theorem tO.put(T:tO t f)(H:.AG)(M:j<=.a8)(Q:Path t e.1 j):tO {(.js).1 with plain:=pl} (insertAt f (.js).2 e)/\(insertAt f (.js).2 e).toList.Perm (e::.rM)/\(.js).1.mask=.a8/\(.js).1.led=t.led/\(.js).1.plain=t.plain:=by
 let#[D,J,L]:=below_at T.up j;have l:.cB j<=.a5:=.my T.sz D
 have C:(.js).1={t with place:=.rN,dummies:=.ov t.dummies j}:=y;have A:(.js).2=.cB j:=y;have g:(.ov t.dummies j)=.cU:=by rw[T.nd,has_none];rfl
 rw[C,A,g];have r:∀i:Nat,t.place[i]?≠e'->∃p:Nat,.rN[p]? =t.place[i]? :=λi _=>by
  by_cases c:i<.cB j;.exact#[i,by grind[De]]
  .exact#[i+1,by grind[De]]
 have I:∀(h:Int)(k:Nat),Path t h k->Path .v9 h k:=λh k#[m,a,b]=>by have q:∀m,jL .v9 m (probeStart .v9 h)=.cA .og:=λm=>Ie (t:=.v9) (t':=t) y m _;refine#[m,.mj q a,λu B=>?_];rw[q];let#[i,s]:=b u B;let#[p,w]:=r i (by rw[s];simp);exact#[p,w.trans s]
 refine#[#[?_,afm T.up H,λi k hk=>?_,y,T.pw,λi k x hk v=>?_],ad2 _ _ _ l,y,y,y];.show(insertAt t.place _ j).size=_;rw[Tw _ _ _ D,Tw _ _ _ l,T.sz]
 .have hk:.rN[i]? =O k:=hk;rw[De _ _ _ D]at hk;split at hk;.grind
  .split at hk;.grind
   .exact T.le _ _ hk
 .have hk:.rN[i]? =O k:=hk;rw[De _ _ _ D]at hk;rw[De _ _ _ l]at v;split at hk;.rw[ip ‹_›]at v;exact .GY
  .rw[il ‹_›]at v;split at hk;.grind
   .rw[il ‹_›]at v;exact .GY
theorem tO.ends(T:tO t f)(L:.a5<=.a8)(Q:oY t p):∃N,N<10*(.a8+15)/\.pM t N p=.empty:=by
 let#[k,_,_,hk]:=T.pw;let#[j,D,M]:=ae5 T.up (M:=.a8+1) (by rw[T.sz];omega);let#[N,r,B]:=comes t hk Q (j:=j) @h;refine#[N,r,?_];rw[B];rcases GU T.up T.nd j with⟨i,e,_⟩|⟨_,s⟩;.grind
 .exact s
abbrev yk:=.aN .ga
def tm(mask:Nat):pZ:={mask,place:=.cU,dummies:=.cU,finger:=0,led:=f',moves:=0,plain:=f'}
def QO(mask:Nat)(s:yk)(h:Int)(j:Nat):.n:=∃m,(jL .ju m .gy).j=j/\∀u,u<m->∃i,s[(jL .ju u .gy).j]? =.jI i
theorem IL(t:pZ):∀(k:Nat)(p:Probe),k<=.cC->(jL t k p).j=p.j+k
 |0,p,_=>y|k+1,p,h=>by
  have e:.GW:=.AD
  show(jL t k .hN).j=_;rw[e,IL t k _ .q];grind
theorem Y3(w:s.size=.eP):∀(f r:Nat)(p:Probe),r<f->oY .ju p->p.j=p.i->s[(.dh r .AE).1]? =O e'->∃j m,layClean.free .aM s f p.i .lm=O j/\(jL .ju m p).j=j/\s[j]? =O e'/\∀u,u<m->∃i,s[(jL .ju u p).j]? =.jI i
 |0,r,p,h,_,_,_=>.t|f+1,r,p,h,t,Q,a=>by
  have T:p.j+.cC=.kJ p.i:=t.rn;have aa:p.j+.cC<=.aM:=t.jm;have x:.kJ p.i+1-p.i=.cC+1:=.t
  rw[layClean.free,x];have ab:∀k,k<=.cC->(s[p.i+k]? =O e'/\.AJ=f')\/(∃i,s[p.i+k]? =.jI i)/\.AJ=ij:=λk hk=>by
   have L:p.i+k<s.size:=.t
   rw[aaP,qo L];cases s[p.i+k]with
   |none=>simp|some i=>simp
  cases q:(kH (.cC+1)).find? λk=>.AJ with
  |some k=>
   let#[h1,i,M,U,h4]:=J7.mp q;rw[abI]at U;subst U;rw[CB]at M;refine#[p.i+i,i,y,?_,?_,λu Y=>?_];.grind[IL]
   .grind
   grind[IL]|none=>
   have I:∀k,k<=.cC->∃i,s[p.i+k]? =.jI i:=.h
   let#[g,A,l]:=Il .ju _ p y;match r,h,a with
   |0,_,a=>let#[i,e]:=I 0 .au;have a:s[p.i]? =O e':=a;grind|r+1,h,a=>
    have J:(.AK).i=(.eE p.i .lm).1:=A;have v:(.AK).perturb=(.eE p.i .lm).2:=l;let#[j,m,C,B,D,H]:=Y3 w f r .AK @h t.steps (.bC J.symm) (by rw[J,v];exact a);rw[J,v]at C;refine#[j,.cC+1+m,C,by rw[xW];exact B,D,λu Y=>?_];by_cases c:u<=.cC;.grind[IL]
    .have:=H (u-(.cC+1)) @h;rw[<-xW,show .cC+1+(u-(.cC+1))=u by omega]at this;ext Q
structure Own(mask:Nat)(ow:yk)(hs:List Int):Prop where
 sz:ow.size=mask+1
 lt:∀(j i:Nat),ow[j]? =O (O i)->i<hs.length
 un:∀(j j' i:Nat),ow[j]? =O (O i)->ow[j']? =O (O i)->j=j'
 has:∀i,i<hs.length->∃j:Nat,ow[j]? =O (O i)
 path:∀(j i:Nat)(h:Int),ow[j]? =O (O i)->hs[i]? =O h->QO mask ow h j
theorem Own.zero(mask:Nat):Own .aM (Array.replicate .eP e') []:=by exact#[Array.size_replicate,.h,.h,@E,@E]
theorem aht{s:yk}{M:Nat}(w:s.size=M)(T:∀(j i:Nat),.mK j i->i<n)(c:∀(j g i:Nat),.mK j i->.mK g i->j=g)(a:n<M):∃j:Nat,s[j]? =O e':=by
 apply Rp;intro B;have u:∀j,j<M->∃i,.mK j i:=λj H=>by
  have e:=qo (show j<s.size by omega);cases q:s[j]' @h with
  |none=>grind|some i=>grind
 let f:.dr:=λj=>((s[j]?).getD e').getD 0;have Q:∀j,j<M->.mK j (f j):=.h
 have sub:((kH M).map f).Nodup:=by grind[aaY,Kx]
 have k:=List.Nodup.length_le_of_subset sub (l₂:=kH n) λx v=>by obtain⟨j,H,rfl⟩:=@Q v;exact Ay.mpr (T j _ (Q j (Ay.mp H)))
 rw[i0,CB,CB]at k;omega
theorem Own.add{k:Nat}(hk:.eP=2^k){s:yk}{w:.af}(Q:Own .aM s w)(hl:.bJ<=.aM)(h:Int):∃j,layClean.free .aM s (turns .aM) (bits h%.eP) (bits h)=O j/\Own .aM .rO (w++[h]):=by
 let#[q,Y]:=aht Q.sz Q.lt Q.un (show .bJ<.eP by omega);have aa:q<=.aM:=by have:=(BY.mp Y).1;rw[Q.sz]at this;omega
 have U:oY .ju .gy:=oY.start _ _;have z:=OU .aM 13 (.gy).i (.gy).perturb (oN U.Rh .E);have l:(.wa).1<=.aM:=OW _ _ _;let#[r,hr,e]:=O0 k (.wa).1 q;have v:.wa=((.wa).1,0):=Prod.ext y z;have ab:(.dh (13+r) ((.gy).i,(.gy).perturb)).1=q:=by rw[P6,v,OV .aM r _ _ (.jo).symm,hk,e];exact .jo
 let#[j,m,A,B,f3,T]:=Y3 Q.sz (turns .aM) (13+r) .gy .GZ U y .q;refine#[j,A,?_];have get:∀i:Nat,.rO[i]? =if j=i then O (O .bJ)else s[i]? :=.h
 have p:∀(i x:Nat),.mK i x->.rO[i]? =.jI x:=.h
 have I:∀D g,QO .aM s D g->QO .aM .rO D g:=λD g#[m,a,b]=>#[m,a,λu M=>by let#[i,t]:=b u M;exact#[i,p _ _ t]];have f:∀(g i:Nat),.rO[g]? =.jI i->(g=j/\i=.bJ)\/(.mK g i/\i<.bJ):=λg i e=>by
  rw[get]at e;split at e;.grind
  .exact @n #[e,Q.lt _ _ e]
 refine#[by rw[Array.size_setIfInBounds];exact Q.sz,λg i e=>?_,λL j2 i e1 e2=>?_,λi t=>?_,λg i D e H=>?_];.grind
 .rcases f L i e1 with C|C<;>rcases f j2 i e2 with J|J;.omega
  .omega
  .omega
  .exact Q.un _ _ _ C.1 J.1
 .rw[j9,Cf]at t;by_cases c:i=.bJ;.grind
  .let#[g,e]:=Q.has i @h;grind
 .rcases f g i e with⟨C,J⟩|⟨C,J⟩;.subst C J;rw[xh .ba,SE]at H;cases H;exact#[m,B,λu M=>by let#[i,t]:=T u M;exact#[i,p _ _ t]]
  .rw[Aj J]at H;exact I _ _ (Q.path _ _ _ C H)
theorem XG(hk:.eP=2^k):∀(w done:.af)(s:yk),Own .aM s done->done.length+.bJ<=.aM->
  ∃a,w.foldl (λ(acc:Option (yk×Nat))h=>do
   let(r,k)<-acc
   let j<-layClean.free mask r (turns mask) (bits h%(mask+1)) (bits h)
   pure (r.setIfInBounds j (O k),k+1)) (O (s,done.length))=O (a,done.length+.bJ)/\Own .aM a (done++w)
 |[],done,s,Q,_=>.h
 |h::w,done,s,Q,L=>by rw[lH]at L;let#[j,e,t]:=Q.add hk @h h;let#[a,C,A]:=XG hk w (done++[h]) _ t .q;grind
theorem ad0(hk:.eP=2^k)(w:.aN Int)(L:w.size<=.aM):∃s,layClean .aM w=O s/\Own .aM s w.toList:=by let#[s,C,A]:=XG hk w.toList [] _ (Own.zero .aM) .q;grind[layClean]
theorem X0(n:Nat)(g:n<2^13):∀(f k:Nat),k<=13->13<=k+f->∃D,k<=D/\D<=13/\sizeAbove.go n f (2^k)=2^D/\n<2^D
 |0,k,h,M=>by
  obtain rfl:k=13:=.t
  exact#[13,.t,.t,y,g]|f+1,k,h,M=>by
  rw[sizeAbove.go];by_cases c:2^k<=n
  .rw[ip c,<-Nat.pow_succ];have:k≠13:=.h
   let#[D,a,b,t,d]:=X0 n g f .a4 @h @h;grind
  grind
theorem Ol(f:n<2^13):∃k,3<=k/\k<=13/\sizeAbove n=2^k/\n<2^k:=X0 n f 64 3 @h @h
def live(mask:Nat)(s:yk):.hM:=(kH .eP).filterMap λj=>(s.getD j e').map (j,·)
theorem zm(w:s.size=.eP):(j,i)∈live .aM s↔.mK j i:=by
 unfold live;rw[t6];ext n;.rintro⟨a,p,e⟩;let#[x,v,A]:=.M e;ext t
 .intro e;have L:=(BY.mp e).1;ext t
theorem YS(mask:Nat)(s:yk):(live .aM s).Pairwise λa b=>a.1<b.1:=by unfold live;rw[aa1];refine List.pairwise_lt_range.imp λ{a b}I x v y m=>?_;let#[_,_,C]:=.M v;let#[_,_,A]:=.M m;grind
theorem Sw:∀{l:.aA},(∀x∈l,f x=O (g x))->.c1 f=@M g
 |[],_=>y|x::l,h=>by rw[xj,h x jO,j6,Sw λC m=>h C (nD _ m)]
theorem afK{t:pZ}{es:.aN rM}{wanted:Nat}(p:wanted<2^13)(hn:.dt<wanted):∃t' order,t.relaid .wb wanted=O (t',order)/\tO t' .AL/\(.AL).toList.Perm es.toList/\t'.mask+1=.AM/\t'.led=t.led/\t'.plain=t.plain:=by
 let#[k,r,w,k3,k4]:=Ol p;have U:.AM-1+1=2^k:=.t
 let#[s,C,Q]:=ad0 U .wb .q;have ae:(.wb).toList.length=.dt:=@E
 have hO:=Q;generalize B:.AM-1=M at*;let J:rM:=(0,.none);let place:=(.cX .bS).toArray;let order:=(.cX .bC).toArray;have Y:∀x∈live M s,x.2<.dt:=λx v=>by have:=Q.lt x.1 x.2 ((zm Q.sz).mp v);omega
 have f:(.AL).toList=.cX λx=>es.getD x.2 J:=by rw[Array.toList_filterMap];show(.cX .bC).filterMap _=_;rw[RL];refine Sw .pJ;show es[x.2]? =_;rw[aaP,qo (Y x v)];rfl
 have af:(.cX .bC).Perm (kH .dt):=by
  refine(J' ?_ Kx).mpr λi=>?_;.rw[GN,vL];refine aaY (λ{a b}H L ag q=>?_) (YS M s);have D:=.sj Q.sz (a.1,a.2) M s H;have g:=.sj Q.sz (b.1,b.2) M s L;rw[q]at D;have:=Q.un _ _ _ D g;omega
  .rw[jr,Ay];ext n;.grind
   .intro h;let#[j,T]:=Q.has i @h;exact#[(j,i),(zm Q.sz).mpr T,y]
 refine#[.AN,order,?_,#[?_,?_,λi j e=>?_,y,#[k,r,w,U],λi j e A I=>?_],?_,.h,y,y];.unfold relaid laid;rw[B,C];rfl
 .grind
 .grind[YS]
 .have e:(.cX .bS)[i]? =O j:=.h
  obtain⟨x,v,rfl⟩:=@Q (kO e);have:=(BY.mp (.sj Q.sz (x.1,x.2) M s v)).1;show x.1<=M;have:=Q.sz;omega
 .have A:(.cX .bS)[i]? =O j:=.h
  rw[<-vI,f,jI]at I;rw[jI]at A;obtain⟨x,v,rfl⟩:=.M A;rw[v]at I;have I:=pD I;have u:=kO v;have ah:=Y x u;have aa:=.sj Q.sz (x.1,x.2) M s u;have hh:(.wb).toList[x.2]? =O e.1:=.aW
  let#[m,p1,p2]:=Q.path _ _ _ aa hh;refine#[m,?_,λl ab=>?_];.rw[<-p1];exact .aA Probe.j (Ie (t:=.AN) (t':=tm M) y m _)
  .let#[i',ac]:=p2 l ab;have hl:=(zm Q.sz).mpr ac;let#[q,hq]:=.aG hl;refine .jO q;show(.cX .bS).toArray[q]? =_;rw[<-vI,jI,hq];exact .aA O (.aA Probe.j (Ie (t:=tm M) (t':=.AN) y l _))
 .rw[f];have D:.cX (λx=>es.getD x.2 J)=(.cX .bC).map λi=>es.getD i J:=@E
  have g:es.toList=(kH .dt).map λi=>es.getD i J:=by
   ext ay;rw[jI,vI];by_cases c:i<.dt;.ext t
   grind
  grind
abbrev IK(H:kS)(w:jR):=FN H w
theorem UJ(h:ItemsAre (IK H w) I g):∀v∈g,∃n t,v=.h n t:=by
 induction h with
 |nil=>simp|cons D _ a=>
  intro v L;rcases kc.mp L with rfl|L;.let#[t,e]:=abR D;grind
  grind
theorem acT(hk:.eF I a)(h:Q f' s):.ai (hashByValue 8 .dC) Q E s:=by
 have g:=hk.typeIs;let#[o,f,n,k,_,T,q]:=hk;unfold hashByValue;refine iH (R8 g F.slot_tuple_hash.lookup ?_);show .aw (seqItems? .dC>>=_) _ _ s;refine iH (Sg k T ?_);ext cD;.ext cE;show .aw (pure f'>>=_) _ _ p;grind[i6]
 grind[i6]
theorem Sf(hk:.eF I a)(h:Q ij s):.ai (ofAClassStatement 8 .dC) Q E s:=by
 have g:=hk.typeIs;let#[o,f,n,k,_,T,q]:=hk;unfold ofAClassStatement;refine iH (K6 g ?_);ext h;ext ah;refine .cH;ext bc;refine iH (Sg k T ?_);ext h;ext cD;.ext cE;show .aw (pure ij>>=_) _ _ p;grind[i6]
 grind[i6]
theorem ahT{g:U->.af}{Q:Bool->.dA}(k:.eF (g b) b)(m:∀a∈as,.eF (g a) a)(h:Q ij s):.ai (searchCouldBeSeen .b3 (as.map jj)) Q E s:=by
 unfold searchCouldBeSeen;ext ah;refine RY _ (λC r p=>r.1=e'/\p=s/\∃l:@D,C=@M jj/\∀a∈l,a∈as) _ ?_ ?_ _ _ .q;.rintro v C r p⟨c,rfl,l,L,q⟩;match l,L with
  |a::l,L=>
   rw[j6,KI]at L;obtain⟨rfl,rfl⟩:=L;have f:=m a (q a jO);ext h;split;.grind[i6]
   .refine iH (abg k ?_);ext bc;refine iH (abg f ?_);ext bc;refine iH (Sf k ?_);ext aL;refine iH (Sf f ?_);ext aL;exact i6 #[y,y,.h]
 grind[i6]
section
variable{prog:kS}{w:jR}{A:oR}{E:iB->iV->Prop}{s:iV}
abbrev hk(prog:kS)(w:jR)(k:.af):Int:=tupleKeyHash (IK prog w) k
def elts(prog:kS)(w:jR)(g:U->.af)(as:@D):@q rM:=as.map λa=>(hk prog w (g a),jj a)
theorem tO.fits(T:tO t f)(L:.a5<=.a8):t.fits .a5=f':=by unfold SetTable.fits acF;rw[T.nd,T.sz];simp[L]
theorem TH:∀as:@D,((elts prog w kf as).filter (·.1==h)).map .bC=(as.filter λa=>.AO==h).map jj
 |[]=>y|a::as=>by have I:=TH (kf:=kf) (h:=h) as;grind[elts]
variable{d b:U}{o:jA}{es:Array rM}{ep:Nat}{t:pZ}{kf:U->List Int}{as:List U}{Q:SetFound->iV->Prop}
theorem search(hu:.AP)(h:.gd)(r:.rP)(T:tO t es)(hl:.dt<=.a8)(x:es.toList=elts prog w kf as)(ha:∀a∈as,y4 (IK prog w) .O (kf a) a)(B:y4 (IK prog w) .O (kf b) b):
  ∀(N fuel:Nat)(v:.E Probe),N<fuel->N<10*(.a8+15)->oY t .on->.pM t N .on=.empty->
  (∀m i a,.bQ .AQ=.jr->.i8->kf a=kf b->Q (.there e') s)->
  (∀m,m<=N->.bQ .AQ=.empty->(∀u,u<m->∃i a,.pM t u .on=.jr/\.i8/\kf a≠kf b)->Q (.free .AQ ij) s)->
  .eG (setSearchFrom d .b3 .wc f' fuel v) Q E s:=by
 intro N;induction N using Nat.strongRecOn with
 |ind N ih=>
 intro fuel v D hN H I ao ae;have L:=T.fits hl;have ap:∀i:Nat,es[i]? =(as[i]?).map λa=>(.AO,jj a):=.lB x
 have af:∀{i j:Nat},.bQ j=.jr->∃a,.i8/\es[i]? =O (.AO,jj a):=λ{i j}J=>by
  have h1:=YT T.up T.nd J;have h2:i<.dt:=by rw[<-T.sz];grind
  grind
 match fuel,D with
 |fuel+1,D=>
 unfold setSearchFrom;refine iH (yH h r L ?_);ext h;have ag:t.gaveWay=ij:=by let#[k,k1,_,k2]:=T.pw;grind[gaveWay]
 rw[ag];ext aL;have Pr:=ahq (hashAt:=λi=>(es[i]?.map .bS).getD 0) (h:=.wc) T.up T.nd N (10*turns .a8) .on .GZ H I;generalize .on=p at*;rcases Pr with⟨m,hm,e,J,ah⟩|⟨m,i,hm,J,hh,e,ah⟩
 .split;.rename_i met l;have M:O _=O met:=e.symm.trans l;grind[i6]
  .rename_i c;exact .Z e (c _)
 .split
  .rename_i met l;have M:O _=O met:=e.symm.trans l;cases M;ext h;let#[a,ai,aa]:=af J;have aj:∀(Y:Bool->.dA),Y ij s->.eG (searchCouldBeSeen .b3 ((es.filter (·.1==.wc)).toList.map .bC)) Y E s:=λY hq=>by rw[Array.toList_filter,x,TH];exact ahT B .q hq
   have ab:.eG (do
     let O (_,C):=es[i]? |unsupported "internal:set-entry"
     let ac<-holding [C] (eqBool C (.ref b))
     let(ak,_,t')<-setState d
     if f'&&ac then return .there e'
     let O same:=t'.sameMemory t.moves t.mask|unsupported "set.changed-during-lookup:is-the-new-block-at-the-old-address"
     let al<-match(if same then t'.slot (jL t m p).j else .empty)with
      |.live f=>match ak[f]? with
       |O (_,y')=>do pure (if<-isSame y' C then O f else e')
       |e'=>pure e'
      |_=>pure e'
     match al with
     |e'=>rule "set.search.anew";setSearchFrom d (.ref b) (hk prog w (kf b)) f' fuel e'
     |O f=>if ac then return .there (O f)else setSearchFrom d (.ref b) (hk prog w (kf b)) f' fuel (O (jL t (m+1) p))) Q E s:=by
    rw[aa];ext h;refine iH (sT (wpAny_eqBool_tuple hu (ha a (kO ai)) B ?_));refine iH (yH h r L ?_);ext h;by_cases am:kf a=kf b;.grind[i6]
    .rw[ir am];simp only[acy,qE,if_false];have an:t.sameMemory t.moves .a8=O f':=by grind[sameMemory]
     rw[an];ext h;rw[ip y,J];ext h;rw[aa];ext h;refine iH (wpAny_isSame_ref_self ?_);rw[ip y];ext aq;ext h;have U:(O .v1).getD (.f6 .wc)=.v1:=y;refine ih (N-.eG) @h fuel (O .v1) @h @h (by rw[U];exact H.steps) ?_ (λm2 i2 a2 q1 q q3=>?_) λm2 q1 q q3=>?_;.rw[U,<-xW,show m+1+(N-.eG)=N by omega];exact I
     .rw[U,<-xW]at q1;grind
     .rw[U,<-xW]at q⊢;refine ae (m+1+m2) @h q λu aq=>?_;by_cases c1:u<m;.grind
      .by_cases c2:u=m;.grind
       .have:=q3 (u-.eG) @h;rw[U,<-xW,show m+1+(u-.eG)=u by omega]at this;ext Q
   by_cases g:t.led=f';.rw[g];ext bc;exact ab
   .have g:t.led=ij:=.h
    rw[g];simp only[Sk,if_true];refine iH (aj _ ?_);ext aL;exact ab
  .rename_i c;exact .Z e (c _)
end
def QN(H:kS)(w:jR)(L:.ab)(g:U->.af)(h:jo)(d:U)(as:@D):.n:=∃o f ep t,.jH d/\.oo/\.wd/\tO t f/\.a5*5<.a8*3/\t.plain=f'/\t.led=L/\.rM=.eH as/\(.rQ).Nodup
theorem afQ(T:tO t f)(Q:Path t h j)(H:∃i:Nat,.om)(M:.bQ (.cA .og).j=.empty):∃u,u<m/\(jL t u .og).j=j:=by
 let#[n,D,a]:=Q;by_cases c:n<m;.grind
 .exfalso;have g:=XQ T.up T.nd M;by_cases q:n=m;.grind
  .let#[i,k]:=a m @h;grind
theorem MS:∀{as JX:@D}{l:@q rM},l.Perm (.eH as)->∃f:@D,f.Perm as/\l=.eH f:=by
 intro as JX l h;have Q:∀e∈l,∃a,a∈as/\e=.we:=λe c=>by obtain⟨a,p,rfl⟩:=@Q (h.mem_iff.mp c);grind
 let ad:rM->U:=λe=>match e.2 with|.ref a=>a|_=>0;refine#[@M ad,?_,?_]
 .have:=h.map ad;have e:(.eH as).map ad=as:=by unfold elts;rw[kQ,show(ad∘λa=>.we)=id from y,xF]
  grind
 .unfold elts;rw[kQ];have:∀e∈l,((λa=>.we)∘ad) e=e:=.h
  rw[oM .bM,acZ]
theorem add_tuple(hu:.AP)(S:QN H w L g .O d as)(ha:∀a∈as,.eF (g a) a)(hb:.eF (g b) b)(hn:.fR<2000)
  (fin:∀r h' ac x,vT d .O h'->QN H w L g h' d ac->((g b∈.rQ/\ac=as)\/(g b∉.rQ/\ac.Perm (b::as)))->.dW<=x->Q r (.ph s h' x)):.ai (setAdd d .b3) Q E s:=by
 let#[o,f,ep,t,J,hx,Y,T,ai,ae,af,l,aj]:=S;have u:.a5<=.a8:=.t
 have ak:.a5=.fR:=by rw[<-yF,l];exact i0 ..
 unfold setAdd;refine sT (iH (wpAny_pyHash_tuple hu hb ?_));show .aw (setAddHashed d .b3 .lo) _ _ _;have B:.dW<=.dW+(.mf g b+1):=ab5 _ _;generalize .dW+(.mf g b+1)=x at B;unfold setAddHashed setAddHashedIn;refine sT .G0;ext h;have al:byScan .b3 f=ij:=y;rw[al];ext aL;let#[N,hN,hE]:=T.ends u (oY.start t .lo);let#[k,k1,k2,k3]:=T.pw;have aE:.a8+1<=2^13:=by rw[k3];exact Kg .E k2
 refine iH (search (s:=.wf) hu J Y T u l ha hb N 100000 e' @h hN (oY.start t _) hE (λm i a h1 h2 h3=>?_) λm hm h1 h2=>?_);.ext h;refine i6 (fin ij .O as x (Heap.SameBut.refl d .O) #[o,f,ep,t,J,hx,Y,T,ai,ae,af,l,aj] (.n #[?_,y]) B);grind
 .ext h;have am:∀i:Nat,t.place[i]?≠O .wg:=XQ T.up T.nd h1;have an:∀i:Nat,f[i]? =(as[i]?).map λa=>.we:=.lB l
  have ao:g b∉.rQ:=λap=>by
   let#[a,aq,ar]:=@Q ap;let#[i,hi]:=.aG aq;have au:i<t.place.size:=by rw[T.sz,ak];grind
   have hp:=qo au;have D:=T.path i _ _ hp (by rw[an i,hi];rfl);have D:Path t (hk H w (g a)) t.place[i]:=D;rw[ar]at D;let#[M,c1,c2]:=afQ T D #[i,hp] h1;let#[i',a',d1,d2,d3]:=h2 M c1;have d1:.pM t M (.f6 .lo)=.live i':=d1;rw[c2,Vq T.up hp]at d1;grind
  have av:.wg<=.a8:=by have:=((oY.start t .lo).steps (m:=m)).jm;omega
  let#[h,p1,m1,l1,ag]:=T.put (e:=(.lo,jj b)) (pl:=t.plain) am av #[m,y,λM aw=>by let#[i,a,e1,_]:=h2 M aw;exact#[i,YT T.up T.nd e1]];have et:{.AR with plain:=t.plain}=.AR:=y;rw[et]at h;refine .G0;ext h;show .ai (do
   let ax<-if(t.put (jL t m (t.probeStart (hk H w (g b)))).j).1.plain then hashByValue 8 (.ref b)else pure f'
   let c:=if ax then(t.put (jL t m (t.probeStart (hk H w (g b)))).j).1 else{(t.put (jL t m (t.probeStart (hk H w (g b)))).j).1 with plain:=ij}
   storeSet d (abT f (t.put (jL t m (t.probeStart (hk H w (g b)))).j).2 (hk H w (g b),.ref b)) c
   if !ij&&c.tooFull then setRelay d (yQ (f.size+1))
   return f') _ _ _;generalize aF:(t.put .wg).2=pp at*;generalize aG:.AR=c at*;generalize aH:abT f pp (.lo,jj b)=I at*;rw[ag,ae];simp only[if_true];refine iH (acT (s:=.wf) hb ?_);simp only[if_true];let#[C,q1,q2]:∃C:@D,C.Perm (b::as)/\I.toList=.eH C:=by refine MS (JX:=as) ?_;grind[elts]
  have aI:.gz=.fR+1:=by rw[<-yF,q2];show(C.map _).length=_;rw[i0,q1.length_eq,lH]
  have ay:(C.map g).Nodup:=.h
  have aJ:7<=.a8:=by have:2^3<=2^k:=Kg .E k1;omega
  have az:.gz<=c.mask:=.t
  have aA:.gz<=@Q:=ja (show .gz<=2001 by omega) .E;refine iH (abM (s:=.wf) J Y ?_ aA);have aa:(.wi).get? d=O {o with data:=.set I (ep+1) c}:=by have:=Al (y3 I c) J (by rw[putSet_of I c Y];rfl);grind[putSet_of]
  have ah:vT d .O .wi:=xk _ _ _;by_cases q:c.tooFull=f'
  .rw[q];simp only[Sk,Bool.and_self,if_true];ext ah;unfold setRelay;refine iH (yH (s:=.G1) aa y (h.fits az) ?_);ext h;have aK:.op=4*.gz:=by grind[yQ]
   let#[v,order,r1,r2,r3,r4,r5,r6]:=afK (t:=c) (es:=I) (wanted:=.op) @h @h;have aB:abD .op<=2^13:=by let#[k',_,k5,k6,_]:=Ol (n:=.op) @h;rw[k6];exact Kg .E k5
   have aL:4*.gz<abD .op:=by let#[k',_,k5,k6,k7]:=Ol (n:=.op) @h;omega
   rw[il (Nat.not_lt.mpr (.ju aB))];rw[r1];have aC:(.fk (I[·]?)).size=.gz:=by rw[<-yF,r3.length_eq,yF]
   refine iH (CZ (a:=.AS) ?_ ?_);.exact(il (by rw[aC];simp):(if(.fk (I[·]?)).size !=.gz then(unsupported "internal:set-table-lost-an-element">>=λ_=>pure .AS)else pure .AS)=_)
   ext h;generalize .fk (I[·]?)=p at*;let#[ab,q3,q4]:∃ab:@D,ab.Perm C/\p.toList=.eH ab:=MS (JX:=as) .q;refine abM (s:=.G1) aa y ?_ @h;have aD:((.wi).update d (y3 p v)).get? d=O {o with data:=.set p (ep+1+1) v}:=by have:=Al (y3 p v) aa .z;grind[putSet_of]
   refine i6 (fin f' _ ab x (ah.trans (xk _ _ _)) #[_,p,ep+1+1,v,aD,hx,y,r2,?_,.h,.h,q4,.h] .q B);omega
  .have q:c.tooFull=ij:=.h
   rw[q];simp only[Sk,acy,qE,if_false];refine i6 (fin f' _ C x ah #[_,I,ep+1,c,aa,hx,y,h,?_,ag.trans ae,l1.trans af,q2,ay] (@n #[ao,q1]) B);unfold SetTable.tooFull acF at q;rw[h.nd,h.sz]at q;grind
theorem amu:Manifest.owners.lookup (String.ofList "rotareti_tes".toList.reverse)=O Manifest.sig_set_iterator:=.oq
theorem Ba:Slot "set_iterator" "__next__" "set_iterator.__next__":=.hJ (n:="__next__") .z .z .z .z (.n .z) .z
theorem WS:Slot "set_iterator" "__iter__" "set_iterator.__iter__":=.hJ (n:="__iter__") .z .z .z .z (.n .z) .z
theorem ZL:.fP "set_iterator.__next__"=O Builtin.«set_iterator.__next__»:=.Dr
theorem ZN(a:iB):argsOk "set_iterator.__next__" #[[a],[]]:=.Q
theorem ajL(a:iB):argsOk "set_iterator.__iter__" #[[a],[]]:=.Q
theorem aik:.fP "set.__iter__"=O Builtin.«frozenset.__iter__»:=entryFor_alias (id':="frozenset.__iter__") .oq y .iu .oq
theorem ajE:.fP "set_iterator.__iter__"=O Builtin.«dict_keyiterator.__iter__»:=entryFor_alias (id':="dict_keyiterator.__iter__") .oq y .iu .oq
def agU(h:jo)(I:U)(slot:Nat)(i:Nat)(d:U)(n ep:Nat):.n:=∃o,.jH I/\o.cls=.af "set_iterator"/\.e0=.a5 (.a6 [.h slot 0,.h i 0,.aD,.h n 0,.h ep 0])
def order(w:jR)(d:U)(ep:Nat)(f:.aN rM):.aN rM:=if .hH=f' then .AT else f
theorem YF(next:.dr):∀(f k:Nat)(left:.aA)(s:.aN α),.rR=f->(pickOrder.go next f k left s).toList.Perm (s.toList++left)
 |0,k,left,s,h=>by rw[aa2.mp h,t8];rfl|f+1,k,left,s,h=>by rw[pickOrder.go];have L:next k%.rR<.rR:=GL _ @h;rw[mP L];ext h;refine(YF next f .a4 _ _ .q).trans ?_;rw[Array.toList_push,rP];refine List.Perm.append_left _ ?_;rw[List.eraseIdx_eq_take_drop_succ];refine(ab7 (a:=left[next k%.rR]) (l₁:=left.take (next k%.rR))).symm.trans ?_;rw[List.getElem_cons_drop,Fj]
theorem Dc(w:jR)(d:U)(ep:Nat)(f:.aN rM):(.ot).toList.Perm .rM:=by
 unfold order;split;.have:=YF (w.params.setOrder d ep) .a5 0 .rM .cU (yF);ext Q
 rfl
def JM(w:jR)(I d:U)(f:.aN rM)(ep:Nat)(t:pZ)(i:Nat)(h:jo):.n:=∃slot:Nat,agU h I slot i d .a5 ep/\(∃o,.jH d/\.wd)/\(.hH=f'\/.cB slot=i)
structure Calm(w:jR)(es:Array rM)(t:pZ):Prop where
 tab:tO t es
 le:es.size<=t.mask
 pl:t.plain=f'
 led:t.led=(!w.params.followText "set-order")
theorem WV(C:.rS)(k:.gd)(T:.wd){slot:Nat}(m:.hH=f'\/.cB slot=i){Q:.E (iB×Nat)->.dA}(h:∀B e,.ot[i]? =O e->(.hH=f'\/.cB B=i+1)->Q (O (e.2,B)) s)(a:.ot[i]? =e'->Q e' s):.ai (setNext d slot i ep) Q E s:=by
 have r:=C.tab.fits C.le;unfold setNext;refine .AU;ext cF;by_cases c:.hH=f'
 .have p:.AV=f':=c;rw[ip p,il @I];unfold setWalk;refine iH .AU;ext cF;rw[ip p];refine iH (Fu .cH);have v:.ot=.AT:=by grind[order]
  rw[v]at h a;refine .cH;show Q (GJ _ (.AT[i]?)) s;grind
 .have p:¬.AV=f':=c;have l:.cB slot=i:=m.resolve_left c;rw[il p];refine .G2;.exfalso;have I:.G3=f':=I;rw[C.pl]at I;cases I
  have g:t.led=f':=by rw[C.led];grind
  refine iH (CZ (a:=()) ?_ ?_);.show(if(!t.led&&!f.isEmpty)=f' then unsupported "set:maker-not-led"else pure ())=_;grind
  rw[l];have v:.ot=f:=by grind[order]
  rw[v]at h a;have x:∀j,.om->.cB .bK=i+1:=λj q=>afd C.tab.up q;by_cases u:i<.a5
  .have y:i<t.place.size:=.mj C.tab.sz u
   grind[i6]
  grind[i6]
theorem ajA(C:.rS)(c:d≠I)(st:.f7 t i .O)(u:i<.a5){Q:.E iB->.dA}(h:∀v D,.G4->.f7 t .ah D->vT I .O D->Q (O v) .em):wpAny (model L w) A (pyNext (@h I)) Q E s:=by
 let#[slot,#[H,g,x,q],#[o,k,T],p]:=st;ext bJ;ext cG;ext cH;rw[il @I];refine iH (WV C k T (slot:=slot) (i:=i) p (λB e a r=>?_) λJ=>?_)
 .ext h;refine .mL g q;have g1:=Al (xw .AX) g (Kf (yG q _));have l:(xw .AX H).data=.rC B 0 i ep:=by grind[yG,rawInt]
  refine .mL g1 l;have sb:=(xk .O I (xw .AX)).trans (xk _ I .G5);refine i6 #[_,y,i6 (h e.2 _ #[e,a,y] #[B,#[_,Al .G5 g1 (Kf (yG l _)),?_,?_],#[o,.pD d c k,T],r] sb)];.grind[RS]
  grind[yG,rawInt]
 .exfalso;have:=.G6;grind
theorem ajB(p:.dY)(C:.rS)(st:.f7 t .a5 .O){Q:.E iB->.dA}(h:∀D,SY I .O D->Q e' .em):wpAny (model l w) A (pyNext (@h I)) Q E s:=by
 let#[slot,#[H,g,x,q],#[o,k,T],c]:=st;ext bJ;ext cG;ext cH;rw[il @I];refine iH (WV C k T (slot:=slot) (i:=f.size) c (λB e a r=>?_) λu=>?_);.exfalso;have:=.G6;grind
 .ext h;refine .mL g q;ext br;refine .DE;exact i6 (h _ .yf)
theorem afk(p:.dY)(C:.rS)(c:d≠I):Walks M w A I [I,d] [I] .a5 (λi v=>.G4) (.f7 t)where
 sub:=@E
 frame:=λi h D st hk=>by let#[slot,#[H,g,r],#[o,U,T],a]:=st;exact#[slot,#[H,hk I @I _ g,r],.h,a]
 item:=λi s Q E B st u=>ajA C c st B λv D L k sb=>u v D .dW L k λb o l e=>.gB e
 done:=λs Q E st u=>ajB p C st λD J=>u D .dW λb o l e=>J b o .q e
 self:=λi s Q E st u=>by let#[slot,#[H,g,x,q],_]:=st;ext bJ;refine Ko m WS (uN WS m ajE ?_ (ajL _));show .aw (ret (@h I)) _ _ s;exact .ow m u
theorem ah6(C:.rS)(k:.gd)(v:.oo)(T:.wd)(h:Q .db {s with heap:=.a8 {cls:=.af "set_iterator",data:=.rC (0:Nat) 0 (0:Nat) ep}}):.DA:=by
 have m:.dz .aD "set":=#[o,k,v.1];have r:=C.tab.fits C.le;refine Ko m ach (uN ach m aik ?_ (F.args_set_iter_1 _));unfold Builtin.«frozenset.__iter__»ami amh amg;refine iH (iH (m:=slotArgs "__iter__" 0 _) .cH);ext h;refine .cH;refine iH (iH (RE k T r .cH));ext ah;unfold setDrawn;refine .AU;ext h;unfold setsByText;refine iH (iH (Fu (i6 .cH)));refine .G2;.exfalso;have I:(! .AV&&.G3)=f':=I;rw[C.pl]at I;simp at I
 ext aq;refine iH (wpAny_setEpoch_of k T r ?_);simp only[newFields];refine iH (vK ?_ (by size_fits));exact .ow #[_,.cG,y] h
end Sx
namespace Sx
open PySem PySem.SetTable PyProof.Rows
section
variable{prog:kS}{w:jR}{A:oR}{E:iB->iV->Prop}{s:iV}{d:U}{o:jA}{es:Array rM}{ep:Nat}{t:pZ}
theorem ah'(m:.dz .aD "set")(h:Q ij s):.eG (aaO .aD) Q E s:=by unfold aaO;refine iH (R8 m F.slot_set_len.lookup ?_);generalize c:("set.__len__":String)=a;wp_delta;rw[show splitId a=O ("set","__len__")from by subst c;rfl];subst c;refine iH (RX (T:="set") (b:=f') m .z ?_);refine Kz @I (λ_=>?_);refine Kz (λ_=>?_) (λI=>.Z .z I);exact iH (K6 m (i6 h))
theorem aiL(C:.wj):PySem.W.KdlSrc prog w "set" d d .dt (λi v=>∃e,(order w d ep es)[i]? =O e/\v=e.2) (λh=>∃o,.jH d/\.oo/\.rP)where
 type:=λ_ M=>let#[o,a,c,_]:=M;#[o,a,c.1]
 there:=λ_ M=>let#[o,a,_]:=M;#[jZ a,jZ a]
 keep:=.h
 notList:=.b0
 notTuple:=.b0
 hint:=λ_ _ _ _ M g=>let#[o,a,c,_]:=M;ah' #[o,a,c.1] g
 iter:=λA s p M=>by
  let#[o,a,c,T]:=M;refine#[_,_,(λ_ _ g=>ah6 C a c T g),afk p C (mT (jZ a)),#[0,.es,.to,?_]];refine @n ?_;have D:=(below_at C.tab.up 0);cases l:.cB 0 with
  |zero=>rfl
  |succ k=>rw[l]at D;have:=D.2.1 0 t.place[0] @h @I;omega
theorem adj(p:.dY)(C:.wj)(k:.gd)(v:.oo)(T:.rP)(f:.dt<=@Q)(h:∀D x g c,.vf->g.toList=.jw->.b6 @L=.ox g c->R (.ok (.ret .db)) .ka):codeAny (model prog w) A (.aj "proto.collect" #[[.aD],[]]) R s:=by
 refine yJ F.entry_proto_collect ?_;rw[Am F.plain_proto_collect _];show .dA (newList []>>=λl=>again (.aj "list.__iadd__" #[[l,.aD],[]])) _ _ s;refine iH (vK ?_);refine i6 #[CJ ab2 _,yJ F.entry_list_iadd ?_];rw[Am ab2 _];have m:=jZ k;show .dA (Builtin.List.listExtendWith .db .aD .db) _ _ _;refine PySem.W.kdl_extend (A:=A) (s:={s with heap:=.a8 .x5}) (R:=R) (aiL (d:=d) (ep:=ep) C) p .bU @L (yV m) (yV m) .db 0 .cG (λD x a r hk q B=>?_) f;refine h D x a r (λb o e=>hk b o (mT .h8) (kZ _ e)) ?_ q;have I:(order w d ep es).size=.dt:=by have:=.G7;omega
 ext ay;rw[jI,vI,vI];by_cases c:i<a.size;.let#[e,u,H]:=B.2 i _ (qo c);rw[u,qo c,H];rfl
 .have:=B.1;grind
theorem ad7(p:.dY)(C:.wj)(k:.gd)(v:.oo)(T:.rP)(f:.dt<=@Q)(h:∀D x g,.vf->@L<.mB->g=.jw->Q g .ka):.eG (collect .aD) Q E s:=by grind[collect,iH,wpAny_runValue,adj,wpAny_load,i6,jZ]
theorem aej(p:.dY)(C:.wj)(r:.gd)(u:.oo)(T:.rP)(f:.dt<=@Q)(H:TupsOf .O shape .jw fs)(hk:∀v∈.jw,∃l,zd .O shape v=O l)(h:∀(B:jo)(x:Nat)(a:U)(k:.gT)(c:Nat)(q:.aN (iB×iB)),(∀b o,.cE->B.get? b=O o)->@L<=a->B.get? a=O {cls:=.dU,data:=.seq k c}->k=q.map .bC->q.Perm (pairsOf .jw)->(∃D:jo,aaX .O D/\SortedToK (LX D shape) q (pairsOf .jw).size)->.aU (.ph s B x)):.eG (call .ve [.aD]) Q E s:=by
 refine Calls.call_function_entry kind_sorted plain_sorted entry_sorted (args_sorted1 _) ?_;unfold Builtin.«sorted»;refine iH (m:=checkCount "sorted" 1 1 _) .cH;refine iH (ad7 (A:=A.in1) p C r u T f λD x g L M aa=>?_);subst aa;have Y:(.jw).length<=@Q:=by rw[i0,.G7,yF];exact f
 generalize .jw=g at*;refine iH (wpAny_newList ?_ (hsz:=Y));have J:(.rT).get? .mB=O (seqObj "list" .ik 0):=.cG;have k0:∀b o,.cE->(.rT).get? b=O o:=.to
 have I:aaX .O .rT:=λb o e _=>k0 b o e;have ab:∀v∈g,∃l,zd .rT shape v=O l:=by grind[G.tupKeyC_some,zd,T2,tupKey]
 show .aw _ _ _ .G8;refine iH (sT (uN slot_list_sort #[_,J,y] entry_list_sort (G.list_sort_tups (shape:=shape) (s:=.G8) J (G.TupsOf.keep I H) ab Y λm a1 a2 a3=>.cL) (args_list_sort _)));let#[c,ac]:=sortedHeap_at (vs:=g) (out:=(arrOf m).map .bC) J;refine i6 #[_,y,h _ x .mB _ c (arrOf m) .cx (vS M) ac y a1 #[_,I,a2]];have hb:b<.mB:=jZ (L b o e);grind[sortedHeap_old,size_push']
end
end Sx
end
namespace L2
open PySem PySem.Spec PyProof.Rows
theorem adC{h:jo}{s:.ew}{q:.aN (iB×iB)}{ps:@D}{kf:U->.nE}(B:∀p∈ps,zd h s .hG=O (kf p))(u:q.Perm (pairsOf .eJ))(H:SortedToK (LX h s) q .zM):∃qs:@D,qs.Perm ps/\(q.map .bC).toList=.hF/\qs.Pairwise λa b=>Ab (kf a) (kf b):=by
 have T:q.toList.Perm ((.eJ).zip .eJ):=.lw u
 have r:(q.toList.map .bC).Perm .eJ:=by grind[acw]
 let#[qs,c,v]:=VI r;refine#[qs,c,.aW,?_];have D:∀x∈q.toList,x.1=x.2:=.h
 rw[Fg];intro i j t k Q;have l:.zM=.d6:=.FX
 have:=H i j (vS Q) @h;have g:∀(m:Nat)(M:m<.d6),KK (LX h s) q m=kf qs[m]:=λm M=>by
  have f:q.toList.length=.d6:=.lx v
  have w:m<q.toList.length:=.t
  have C:q[m]? =O q.toList[m]:=@E
  have A:q.toList[m].2=jj qs[m]:=by
   have y:(q.toList.map .bC)[m]? =.hF[m]? :=.j3 v
   grind
  grind[KK]
 rw[g i t,g j k]at this;ext Q
def wX:.ew:=λ_=>ij
def qK(l:.af):.nE:=@M iO
theorem MW:∀(l:.af)(i:Nat),tU wX i .rU=O (qK l)
 |[],i=>y|n::l,i=>by show(if wX i=f' then e' else(tU wX .ah .rU).map .zK)=_;rw[il (by unfold wX;decide),MW l .ah];rfl
theorem VX{P:kS}:∀{l:.af}{us:.Y},.ac .rU us->PySem.ItemsAre (FN P w) l us
 |[],_,r=>by cases r;ext ae|n::l,_,r=>by
  cases r with
  |cons r v=>ext E;exact .J (by show Lu n (.h n t)=f';simp[Lu]) (VX v)
def SJ3(P:kS)(w:jR)(d:U)(g:U->.af)(ps:@D)(i:Nat)(h:jo):.n:=∃as:@D,Sx.QN P w (! .hH) g h d as/\(∀a∈as,a∈ps.take i)/\(∀p∈ps.take i,g p∈.rQ)/\.fR<=i/\∀p∈ps,R1 (FN P w) h (g p) p
def akR(K:jd)(f:TE):TE:=λσ H Q=>.c3 λv B=>∃(l:U)(ps:@D)(g:U->.af),v=.cw/\iD K B l .eu/\(∀p∈ps,jz K B p ((g p).map .a6)/\g p≠[])/\.bh<2000/\∀(qs:@D)(a:U),(∀q∈qs,q∈ps)->(.d1 g).Nodup->(∀p∈ps,g p∈.d1 g)->qs.Pairwise (λa b=>Ab (qK (g a)) (qK (g b)))->B a=e'->.aU (.pa B a (qs.map .bZ))
section
variable{X:Cx}{e:Expr}{te:TE}{p1 p2 aaf ER:Pos}
theorem ai3(hc:.en)(hu:.j8 10)(am:X.mg "sorted"=e')(an:X.mg "set"=e')(he:.ao te)(ao:Gl X "sorted":=by rfl)(ap:Gl X "set":=by rfl)(ac:.bH [.wk] .M=(ij,.av .wk .M)::.gk:=by rfl)(ae:.kA=.fE::.gk:=by rfl):.H (.an (.Name "sorted" p1) [.wk] [] aaf) (akR X.K te):=by
 ext q;refine uJ (uj I ao am (.Q:.b8 "sorted"=O .ve) ?_ .E .E);refine J6 ?_ ac .z;rw[ac];show .mR ((ij,.av .wk .M)::.c2 aaf .gk) s;refine uL ?_;refine .qu I ap an;refine Ai ?_ ae .z;rw[ae];show .mR (.fE::.c2 ER .gk) s;refine uL (iW (he @t s σ H _ I h) λu m#[x,H1,w,r1,q1]=>vM ?_);obtain⟨l,ps,g,rfl,hs,aq,hb,q⟩:=q1;cases r1;let#[aP,rv,hl,_]:=w.list hs;have ei:=MC rv;subst ei;have hz:(.eJ).toArray.size=.bh:=@E
 have tup:∀p∈ps,(∃o us n,m.heap.get? p=O o/\.lX/\.e0=.seq us n/\.ac ((g p).map .a6) us.toList):=λp J=>by let#[us,aQ,#[o,k,Y,n,hd],_]:=w.tuple (aq p J).1;grind
 have ar:∀p∈ps,R1 (FN .bI X.w) m.heap (g p) p:=λp J=>by let#[o,us,n,k,Y,hd,L]:=tup p J;exact#[o,us,n,k,Y,hd,VX L]
 have af:∀p∈ps,p<.bT:=λp J=>by let#[o,_,_,k,_]:=tup p J;exact jZ k
 have aR:∀p∈ps,∀D:jo,(∀b o,b<.bT->.AZ->.h7)->R1 (FN .bI X.w) D (g p) p:=λp J D hk=>by let#[o,us,n,k,r]:=ar p J;exact#[o,us,n,hk p o (af p J) k,r]
 refine PySem.XN (U:=λA=>.AP) .q (SJ3 .bI X.w .bT g ps) (w.ok.hd hc) hl.isList (λled D el hk hg=>?_) (λi h1 h2 hk#[as,B,C,M,a4,a5]=>#[as,?_,C,M,a4,λp J=>?_]) (λi A' E' s2 v Q' hU hi L#[as,B,C,M,a4,a5]fin=>?_) λD tk#[as,B,C,M,a4,a5]aS=>?_;.refine#[[],#[_,.cU,0,.fresh 0 0 led,hg,#[y,y,y],y,?_,by show 0*5<7*3;decide,y,el,y,yR],@E,@E,.bV,.h];exact#[y,ab0,by grind[amj],y,#[3,.b0,.b0,y],@E]
 .let#[o,es,ep,t,k,au]:=B;exact#[o,es,ep,t,hk _ _ .ba k,au]
 .let#[o,us,n,k,r]:=a5 p J;exact#[o,us,n,hk p o (vS (af p J)) k,r]
 .rw[hz]at hi;have L:.eJ[i]? =O v:=.h
  rw[jI]at L;obtain⟨p,J,rfl⟩:=.M L;refine Sx.add_tuple hU B .q (a5 p (kO J)) @h λr D av tk sb s' aw le=>?_;refine fin r D tk sb #[av,s',?_,?_,?_,λp' ax=>?_] le;.rw[G7 J];grind
  .rw[G7 J];grind
  .rcases aw with⟨_,rfl⟩|⟨_,pm⟩;.omega
   .rw[pm.length_eq,lH];omega
  .let#[o,us,n,k,r]:=a5 p' ax;exact#[o,us,n,(sb.2 p' .q).trans k,r]
 .have I2:.Y H1 (.ph m D tk):=w.kept (by grind[jZ]);rw[hz]at C M a4;rw[pB]at C M;let#[o,es,ep,t,k,ay,hd,T,aT,az,aA,aB,aU]:=B;have hn:.dt<=2000:=by grind[Sx.elts,i0]
  obtain⟨bs,aC,aD⟩:=Sx.MS (JX:=as) ((Sx.Dc X.w .bT ep es).trans (.j3 aB));have ag:(Sx.order X.w .bT ep es).toList.map .bC=bs.map jj:=by rw[aD];unfold Sx.elts;simp
  have ah:∀b∈bs,b∈ps:=.h
  have ai:∀(J:jo),(∀b o,.AZ->.lX->J.get? b=O o)->∀p∈ps,zd J wX .hG=O (qK (g p))/\∃f,TupOf J wX .hG f:=λJ aE p aF=>by
   let#[o',us,n,aG,Y,aj,L]:=tup p aF;have aa:=aE p o' aG Y;refine .m0;.unfold zd;rw[ip (by unfold T2;simp[aa,Y])];unfold tupKey;simp only[aa,aj];exact(Hq 0 L _ (MW (g p) 0))
   .cases aH:g p with
    |nil=>grind|cons n0 r0=>
     rw[aH]at L;cases ab:us.toList with
     |nil=>rw[ab]at L;cases L|cons u aV=>
      rw[ab]at L;cases L with
      |cons r1 r2=>obtain⟨t1,rfl⟩:=r1;exact#[_,p,o',us,n,y,aa,Y,aj,by rw[<-vI,ab];rfl,@E,.i4]
  have ak:∀b o,.AZ->.lX->.h7:=by grind[jZ]
  have hT:∀l:@D,(∀p∈l,p∈ps)->∃fs,TupsOf D wX (@M jj) fs:=by
   intro l;induction l with
   |nil=>exact λ_=>#[[],.nil]|cons p l ih=>intro hh;let#[fs,h1]:=ih λp J=>hh p (nD _ J);let#[f,h2]:=(ai D ak p (hh p jO)).2;exact#[f::fs,.J h2 h1]
  let#[fs,hT]:=hT bs ah;refine vM ?_;refine Sx.aej (shape:=wX) (fs:=fs) (s:=.ph m D tk) (w.ok.hd hc) (#[T,.t,az,aA]) k ay hd (.ju hn) .q (λv L=>?_) λh2 aI a aW c aJ aK al aL aM pm#[h3,aN,so]=>?_;.rw[ag]at L;obtain⟨p,J,rfl⟩:=@Q L;ext t
  .rw[ag]at pm so;let#[qs,g1,g2,g3]:=adC (kf:=λp=>qK (g p)) (λp J=>(ai h3 (λb o e cl=>aN b o (ak b o e cl) cl) p (ah p J)).1) pm so;have aO:qs.Perm as:=g1.trans aC;refine#[.aX,_,I2.laid (t':=aI) aK al (show .cK _ h2 a (@E .hE)from#[by rw[i0,aO.length_eq];grind,.hF,c,MO qs,?_]),y,q qs a .q .q .q g3 (I2.je.fresh al)];rw[aL,aM];have:aJ.map .bC=(.hF).toArray:=by rw[<-g2]
   rw[this]
end
end L2
namespace Tm
open PySem PySem.Spec PyProof.Rows L2
open Vaattx(Rec Flat)
abbrev Qj:i5:=top 47
def oH(l:@n)(n:Nat):Nat:=(l.findIdx? λm=>m==n).getD 0
def JF(a:@n)(x:Rec×Nat):Rec:={x.1 with id:=x.2,kids:=x.1.kids.map (oH a)}
def lz(F:@H):@H:=#[0,F.recs.zipIdx.map (JF .b1)]
def uA(a:@n):.aI:=a.zipIdx.map λx=>.A0
theorem Xy:∀{a:@n}(k:Nat),n∈a->jN .G9 .ec=O (.jq (k+oH a n:Nat))
 |[],k,h=>.b4|m::a,k,h=>by
  rw[ab6,j6];by_cases e:m=n;.grind[qJ,oH]
  .have r:n∈a:=.h
   rw[.nI e q,Xy .a4 r];have:oH (m::a) n=oH a n+1:=by
    unfold oH;rw[List.findIdx?_cons];have l:(m==n)=ij:=.h
    rw[l];cases q:a.findIdx? λx=>x==n with
    |none=>grind|some i=>rfl
   grind
theorem Xl(h:n∈a):jN (uA a) .ec=O (@Z (oH a n:Int)):=by have:=Xy 0 h;rw[AB]at this;ext Q
theorem Hs(h:a.Nodup)(e:a[i]? =O n):oH a n=i:=by
 unfold oH;let#[t,c]:=o1.mp e;have:a.findIdx? (λm=>m==n)=O i:=by grind[aaL,ab9]
 grind
def Yl(t:Tc):Sp:=λg H Q _=>∃(x:U)(F:Flat),.iX/\.gq/\(∀r∈F.recs,∀k∈r.kids,k∈.b1)/\∀y L,.I->j7 t .dl y (lz F)->Q (@h y) L
def IP(H:Hp)(a:@n)(ps:@D):.n:=.bh=.c1/\∀(j:Nat)p n,.mF j p->a[j]? =O n->H p=O (@L [.ou,.jn j])
theorem IP.paired:∀{a:@n}{ps:@D}(k:Nat),.bh=.c1->(∀(j:Nat)p n,.mF j p->a[j]? =O n->H p=O (@L [.ou,.jn (k+j:Nat)]))->.cH (λp(m:Key×V)=>.aJ p [kV m.1,m.2]) ps .G9
 |[],[],k,_,_=>.nil|[],_::_,k,h,_=>.b4|_::_,[],k,h,_=>.b4|n::a,p::ps,k,h,q=>by rw[ab6,j6];refine .J (.bM (q 0 p n y y)) (IP.paired .a4 .q λj v B D M=>?_);have:=q .bK v B D M;grind
theorem aeQ(h:a.Nodup):oG [] (uA a)=uA a:=by
 rw[C5 _ [] ?_];.rfl
 .rw[KH];have:(uA a).map .bS=a.map λ(n:Nat)=>.d5:=by unfold uA;rw[kQ];have e:((λx:Key×V=>x.1)∘λx:Nat×Nat=>.A0)=(λn:Nat=>.d5)∘lO:=y;grind[List.zipIdx_map_fst]
  grind
theorem vb:jb ["tree","numbers","k","number","nodes","node","children","child"] .bP (i4 Qj):=.J
theorem ahB(F:.D "renumbered" Qj f fd)(T:.az)(aJ:mg "dict"=e')(aK:mg "enumerate"=e')(RN:.m9 aq 3)(RT:.na aq 2):@H aq .aG 3 f fd .bP (Yl t):=by
 refine .t vb λa0 A a1 s H vs Q E hr h=>?_;obtain⟨x,g,rfl,⟨dt,l,as,h1,h2,h3,h4,h5⟩,aL,k⟩:=h;ext am;refine#[_,iy (.aK vb.nd y .fH (wb (My y) .z aJ .rc (Y (DV (lX (g:=JJ K 2 (zR (qR 2) (zR (qR 3) JK))) y vb.nd (ahr y aK .rH) (kr (own:=[("k",2),("number",3)]) .z) (.n7 (.bZ vb.nd y @q) (rr (.a3 vb.nd y @q) zz)) .bA (λ_ _ _ _ _=>l7 (.mb 3 2)))) iw))) (iy (.bE vb.nd y @q DE) (iy (xU (.bo (NM .aE) (zG y (rr (.a3 vb.nd y @q) (rr (.dJ vb.nd y @q) zz))) (iy (ue (i:=6) (te:=BB .fV (i9 7)) y vb.nd y y .z (kJ (.jg 5)) (.kX 7) (λ_ _ _ _ _=>jK (i:=7) vb.nd y @q) .bA (λ_ _ _ _ _=>.ff (J 7) .ai)) (iE (zx hu .cN (.ff .ak .ai) (qS RN hr (Y (.jg 5) (Y (.jg 5) (.js 6)))) y))))) (.pv RT hr (Y iY .n3)))),?_];have ar:=oB h3;refine#[l,_,h2,.dE,λm=>?_];have l1:@z l .hQ x=.Ha:=.Z
 have l2:@z l .hQ l=O .hQ:=iG;have au:∀L,iu (@z l .hQ) L->.pU L l g.recs:=.n9
 have aM:∀b,@z l .hQ b=e'->.be:=.Z
 generalize @z l .hQ=Hl at l1 l2 au aM⊢;refine#[_,y,x,.ar,dt,_,_,y,l1,.as,.bb,kI,l,m,_,y,l2,.uq];refine QF (n:=(.wl).length) (λi L=>iu Hl L/\∃ps:@D,L D=.hu/\IP L ((.fY).take i) ps) #[@t hD,[],iG,y,@E] (λL q=>#[q.1 _ _ l2,.bV]) (λi L hi q=>#[q.1 _ _ l2,hi]) ?_ ?_
 .rintro i H1 v H2 hi⟨sm,ps,av,ag,ak⟩⟨Tt,ky,vv,aN,rfl,ab,rfl⟩;obtain⟨a,r,ha,ac,rfl,rfl⟩:=zk aN;have ah:.fY[i]? =O .am:=.h
  have ai:=.jQ ah;refine#[Tt,_,y,.uS,y,_,_,y,_,_,y,y,y,mY #[_,y,_,y,@Z,.fy]];have a2:H1 p=e':=(@t ab).free hp;have aO:p≠D:=.h
  have aw:((.fY).take i).length=i:=.h
  refine#[_,@t hp _ _ (.hK ab _ _ av),?_,.cx,ps++[p],?_,?_,λj q n hq hn=>?_];.rw[i0,ag,aw];rw[i0]at ai;exact oN ai (.ju h5)
  .rw[.mc e hD];exact @t hp _ _ ((.d4 (.hK ab)) _ _ e)
  ext ac
  .grind
  .rw[.a2 ah]at hn;by_cases c:j<i;.ext M
   .have aj:=.jQ hq;rw[j9,Cf]at aj;have hj:j=i:=.t
    subst hj;rw[xh @h,show j-.bh=0 by omega]at hq;rw[xh @h,aw,SE]at hn;cases hq;cases hn;rw[iC aO,iG];rfl
 .rintro H1⟨sm,ps,av,ag,ak⟩;rw[ar,<-.Av,pB]at ag ak;refine#[.bz l2,D,ps,uA .fY,y,by grind[iD.of,iC],IP.paired 0 ag (λj p n hp hn=>?_),λI al=>?_];.have:=ak j p n hp hn;rw[iC (mI .bM (.bz l2) @I),AB];ext Q
  rw[aeQ h4];have sA:=au H1 sm;generalize .pm H1 l .wl=H2 at al sA⊢;have sB:=sA.trans (@t (o:=.dK (uA .fY)) al);have ax:.pJ H2 I (uA .fY)=.jo (uA (.g4 .al)):=iG;generalize upd H2 I (.dK (uA .fY))=H3 at sB ax⊢;intro B am;have sC:=sB.trans (@t (o:=.dK []) am);have ay:upd H3 B .d1 B=O .d1:=iG;have aP:=@t (o:=.dK []) am _ _ ax;generalize upd H3 B .d1=C at sC ay aP⊢;have an:H B=e':=sB.free am;have aQ:H I=e':=sA.free al;have az:I≠B:=.h
  have g1:=sC _ _ h1;have g2:=sC _ _ h2;have aA:l≠B:=jg h2 an;have a3:l≠I:=jg h2 aQ;refine#[l,_,g2,.dE,λm=>?_];have m1:.f8 x=.Ha:=.Z
  have m2:.f8 l=O .hQ:=iG;have m3:iX (.aH .wn) as g.recs:=(.mJ h3.imp sC).imp .GQ;have m4:.f8 B=O .d1:=.Z
  have m5:.f8 I=.jo (uA (.g4 .al)):=.Z
  have m6:Ext C .wn:=Ext.upd y;have aB:∀L,jB B .wn L->.pU L l g.recs:=λL u b o e=>by
   by_cases hb:b=l;ext ac
   .rw[iC hb];exact .bw (.pf hb sC e) (jg e an)
  generalize .wn=Hm at m1 m2 m3 m4 m5 m6 aB⊢;have aR:(lz g).recs.length=g.recs.length:=by grind[lz,List.length_zipIdx]
  have aC:∀i r,g.recs[i]? =O r->(lz g).recs[i]? =O (JF .fY (r,i)):=λi r h=>by show(g.recs.zipIdx.map _)[i]? =_;grind
  refine#[_,y,x,.ar,dt,_,_,y,m1,.as,.bb,kI,l,m,_,y,m2,MY (d:=l) (o:=m) (kvs:=.wl) (λi σ L=>∃(v2 v3 v5 v6 v7:.aV)(M:@D),σ=[.fh,.ja I,v2,v3,.ja B,v5,v6,v7]/\jB B Hm L/\Ext C L/\L B=.jo (iF M (.d8 i))/\iX (.mD C L) M (.d8 i)) #[e',e',e',e',e',[],y,.k8,m6,m4,.nil] (λi σ L#[_,_,_,_,_,_,_,u,_]=>u _ _ m2 aA) ?_ ?_]
  .rintro i ky v σ L Tt hi⟨v2,v3,v5,v6,v7,M,rfl,u,xt,ao,hA⟩ab;obtain⟨a,r,ha,ac,rfl,rfl⟩:=zk hi;let#[r2,aD,dn,cl,p,q1,q2,q3,q4,q5]:=m3.get i a ha;rw[ac]at aD;cases aD;have ah:.fY[i]? =O .am:=.h
   have ai:=.jQ ac;have uT:jB B Hm (.aD Tt .lg):=u.trans (.da (@t ab));have aE:=@t (o:=.lg) ab _ _ ao;have xT:=xt.trans (.de (@t (o:=.lg) ab));have ae:iX (.mD C (.aD Tt .lg)) M (.d8 i):=.nF hA.imp (@t ab);refine .lf Tt;generalize .aD Tt .lg=H1 at uT aE xT ae⊢;have ap:a≠B:=.h
   have aF:cl≠B:=.h
   refine#[_,y,a,.aQ,dn,_,_,y,.dg q1 ap,.aT,T.nC,qt,cl,y,.jd (.dg q3 aF),λD hD=>oP (Q9 (oH .fY)) .bF .b9 hD (@D (.dg q3 aF)) (.kH q5) (λj aa H2 Ky Kn hx s2 a4 hy hn=>?_) λH2 ys s2 aS aG=>?_];.ext bb;obtain⟨c,hc,rfl⟩:=.fU;refine .jF #[_,y,_,y,I,_,y,.n #[_,.jf c,.n (.cV (.dg m5 az)),y,(Xl (aL r (kO ac) c (kO hc))).symm],hy _ H2 .bN y #[c,y,y]]
   rw[mU]at aG;have aT:=NU aG;subst aT;refine#[_,y,a,.aQ,dn,_,_,y,.cV (.dg q1 ap),.aT,T.nP,vX,_,y,a,.aQ,dn,_,_,y,.cV (.dg q1 ap),.aT,T.nV,yZ,_,y,y,λaa dy H6 ny aU s6 hy=>?_];have af:=.eD s6;have a5:=Hs h4 ah;have aV:lZ H6 I (.jn r.id) (O .ov):=.n #[_,.jf r.id,.mN af (.dg m5 az),y,by grind[Xl]];have aW:=ae.len;have aH:(.d8 i).length=i:=.h
   have aX:jN (iF M (.d8 i)) (.jf i)=e':=by
    rcases ub (i:Int) ae with⟨e,_⟩|⟨r',a',_,e2,_,e4,_⟩;.exact e
    .let#[j,hj]:=.aG e4;have aj:=.jQ hj;rw[aH]at aj;rw[Rq aj,aC j _ (mP @h)]at hj;have:=.aA .al (pD hj);have this:j=r'.id:=this;omega
   refine#[_,y,_,y,_,y,I,_,y,aV,B,_,y,uG.k (k:=.jf i) (af _ _ aE) (by rw[oB ae,aH];exact oN ai (.ju h5)),?_];rw[A4 _ aX];have aI:=aC i r ac;have aY:iF M (.d8 i)++[((.jf i:Key),.ap aa)]=.Hb:=by rw[.a2 aI];unfold iF;rw[KG aW,mR];rfl
   rw[aY];have aZ:H1 aa=e':=s2.free ny;have nk:=.rr C H6 .Hb ay;refine#[_,_,_,_,_,M++[aa],y,?_,.m0 xT.trans (.de af),iG,?_];.exact uT.trans λb o e hb=>.pf hb af e
   .rw[nk,.a2 aI];refine(.nF ae.imp af).snoc #[dy,D,p,?_,q2,?_,q4,?_];.rw[lh ((xT aa).1 aZ)];exact hy
    .rw[lh ((xT D).1 hD)];exact s6 _ _ aS
    .show(.aO _).length<=4000;grind
  .rintro σ L⟨v2,v3,v5,v6,v7,M,rfl,u,xt,ao,hA⟩;rw[ar,<-aR,pB]at ao hA;refine#[u _ _ m2 aA,#[_,y,y,λaa dy H9 ny aU s9 hy=>?_]];have so:=aB L u;have nn:=.rr C L .wl g2;refine k aa H9 (so.trans s9) #[dy,B,M,?_,?_,?_,?_,?_];.rw[lh (so.free ny)];exact hy
   .rw[lh an];exact s9 _ _ .Z
   .refine hA.imp λa b q=>.bD ?_;rw[<-nn];exact .nE s9 sC
   .have e:.kK g=kH g.recs.length:=by show(g.recs.zipIdx.map _).map _=_;rw[kQ,show(.al∘JF .fY)=wd from y];simp[List.zipIdx_map_snd,List.range_eq_range']
    grind
   omega
def cN(s:.ep)(n:Int):iA×Int:=(s,n)
def QM:@q (iA×Int):=[cN "TEXT_TOO_LONG" (-1),cN "NO_GRAMMAR" (-2),cN "NO_GRAMMAR_HELD" (-3),cN "NO_TREE" (-4),cN "NO_TREES_HELD" (-5),cN "NO_SUCH_NODE" (-6),cN "MAY_NOT_STAND_THERE" (-8),cN "TOO_LARGE" (-9),cN "ONE_WITHIN_THE_OTHER" (-10),cN "HOLDS_NO_NUMBER" (-11),cN "VALUE_OUT_OF_BOUNDS" (-12),cN "NO_SUCH_SIDE" (-13),cN "IS_THE_ROOT" (-14),cN "NUMBERS_USED_UP" (-16),cN "CONFLICTS_LEFT" (-17),cN "LONGEST_TEXT" 3000,cN "MOST_NEW_NUMBERS" 900,cN "LARGEST_VALUE" 999999999999999999,cN "NUMBER_CHANGED" 1,cN "PLACE_CHANGED" 2,cN "GONE" 3,cN "NEW" 4,cN "NUMBERS_CLASH" 1,cN "NODES_CLASH" 2,cN "STANDS_TWICE" 3,cN "WORK_LOST" 4,cN "BASE" 2,cN "GRAMMAR" 0,cN "TREE" 1,cN "REPLACE" 2,cN "NUMBER" 3,cN "SWAP" 4,cN "LIFT" 5,cN "FORM" 6,cN "NODES" 7,cN "CHANGES" 8,cN "CONFLICTS" 9,cN "MERGE" 10,cN "ORIGIN" 11,cN "ACCEPT" 12]
structure Mod(mg:iA->Option iB):Prop where
 ci:∀x n,QM.lookup x=O n->∃tk,mg x=O (.int n tk)
 no:∀x∈(["len","all","abs","ord","str","dict","list","sorted","set","enumerate","reversed","range","max"]:List iA),mg x=e'
theorem pC{n:Int}(M:Mod X.mg)(h:QM.lookup x=O n:=by rfl)(q:.dS:=by rfl)(T:.da:=by decide):.H (.bq a) (tC .cd):=by let#[c,e]:=M.ci x n h;exact kU (v:=.cd) q e .br T
structure lW where
 x:U
 dx:U
 sl:U
 gl:U
 b:U
 a0:U
 a1:U
def IS(b s g:V):.bg:=jx "given" g (jx "sides" s (jx "base" b []))
structure sv(K:jd)(C3:U):Prop where
 cl:lS K C3
 nB:jV K C3 "base"
 nS:jV K C3 "sides"
 nG:jV K C3 "given"
structure ks(C3:U)(t:Tc)(G H:Hp)(D:lW)(B F0 F1:Flat)(g0 g1:Nat):Prop where
 sub:iu G H
 JT:G D.sl=e'
 JU:G D.gl=e'
 hx:H D.x=O (.ins C3 D.dx (IS (.ref D.b) (.ref D.sl) (.ref D.gl)))
 hs:H D.sl=O (.lst [.ref D.a0,.ref D.a1])
 hg:H D.gl=O (.lst [.int g0,.int g1])
 tb:j7 t G D.b B
 t0:j7 t G D.a0 F0
 t1:j7 t G D.a1 F1
theorem ks.keep(h:.bu)(s:.I):ks v t G L D B I u g0 g1:=#[h.sub.trans s,h.JT,h.JU,.ae h.hx,.ae h.hs,.ae h.hg,h.tb,h.t0,h.t1]
theorem ks.ne(h:.bu):.bf≠D.gl:=λq=>by have a:=h.hs;rw[q,h.hg]at a;cases a
def pick(z:Int)(a b:α):α:=if z=0 then a else b
theorem ks.side(h:.bu)(z:Int):j7 t G (.cn D.a0 D.a1) .jx:=by
 unfold pick;split;.exact h.t0
 .exact h.t1
theorem at2(c:.ow):ox [a,b] z=O (.cn a b):=.wo
theorem BV(c:.ow):w8 [a,b].length z=O (.cn 0 1):=.wo
def qd(H:Hp)(a:U)(r:.af):.n:=H a=.ji (r.map V.int)
def Ref(H:Hp)(Q:VK)(z:Int):.n:=∀a L,.cT->.I->.cY [z]->.aU L
structure ZP(D:lW)(side:Int)(y:U)(g0 g1 n:Nat)(H H':Hp):Prop where
 keep:∀b o,H b=O o->b≠D.sl->b≠D.gl->H' b=O o
 sl:H' D.sl=O (.lst (pick side [.ref y,.ref D.a1] [.ref D.a0,.ref y]))
 gl:H' D.gl=O (.lst (pick side [.int ((g0+n:Nat):Int),.int g1] [.int g0,.int ((g1+n:Nat):Int)]))
def Done(t:Tc)(D:lW)(A:Int)(G H:Hp)(g0 g1:Nat)(Q:VK)(F:@H)(n:Nat)(s:.af):.n:=∀a y L,.cT->.cY s->ZP D A y g0 g1 n H L->(∀J,iu G J->iu .dl J->j7 t J y F)->.aU L
def pQ(F:@H)(z:Int):.ab:=F.recs.any .vy
def ku(I u:@H)(A:Int)(w:.af):Int:=if .rV then-13 else if w.all (pQ .a9)=f' then 0 else-6
theorem XC(h:.ey .dq)(z:Int):(jN (.bg .dq) (iO z)).isSome=pQ F z:=by grind[pQ,ub]
theorem A6(h:pQ F z=f'):∃n r,z=.hD/\.fW:=by
 let#[r,c,e]:=Fz.mp h;have:(jq F .am).isSome=f':=by grind[jq]
 let#[m,D]:=.bV .bM;grind
abbrev N1:i5:=top 59
abbrev Ng:i5:=top 60
abbrev Qi:i5:=top 65
abbrev Pf:i5:=.mn 58 0
def zf(K:jd)(v:U)(t:Tc):Sp:=λg H Q _=>∃(D:lW)(G:Hp)(B I u:Flat)(g0 g1:Nat)(A:Int)(w:.af)(C:U),g=[.bQ,.h A,@h C]/\.bu/\.kz C/\.bJ<=10/\.pY Q (.bj A w) L
def L0(t:Tc):Sp:=λg H Q _=>∃(x:U)(F:Flat)(n:Nat)(r:Rec)(s:@n),g=[.a2,.cd,.jj s]/\.gq/\.gp/\.fW/\.pc Q (.q (n=.a7)||.q (s=.nY)) H
def Io(v:U)(t:Tc):Sp:=λg H Q _=>∃(D:lW)(G:Hp)(B I u:Flat)(g0 g1:Nat)(A:Int),g=[.bQ,.h A]/\.bu/\(.rV->.jp 13)/\(.fZ->.fl B 0 [0])
def Nw(v:U):Sp:=λg H Q _=>∃(x l b:U),g=[.a2,.b3]/\H x=O (.ak v l [])/\∀M D L,H M=e'->H D=e'->(∀q o,H q=O o->q≠x->L q=O o)->L x=O (.ak v l (IS .b3 (@h M) .mw))->L M=O (@E [.b3,.b3])->L D=O (@E [.fg,.fg])->.aV L
def InZ(F:@H)(_:Hp)(x C:V):.n:=∃z:Int,x=.ds/\C=.bl (pQ F z)
theorem Xw:∀{l:.af}{ys:.L},iX (InZ F H) .rU ys->ys=(@M (pQ F)).map V.bl
 |[],_,h=>.ge|n::l,_,h=>by
  cases h with
  |cons h t=>obtain⟨c,D,rfl⟩:=h;have:n=c:=V.int.inj D;ext Y;rw[Xw (l:=l) t];rfl
theorem ML:jb ["trees","side","numbers","number"] .hR (i4 N1):=.J
theorem aeC(F:.D "unknown" N1 f fd)(T:.az)(T3:sv K C3)(M:.bm):@H ah .aG 1 f fd .hR (zf K C3 t):=by
 refine .t ML .Hc;obtain⟨D,G,B,I,u,g0,g1,U,a,la,rfl,h3,hL,ab,k⟩:=h;refine#[_,iy (jh (ju SS @M (l7 (Y iY .iZ)) .z) (.jb (pC M)) jn) (iy (jh (vi (kW (kA (Qr y) .z .bn boot_all (Y (lX (te:=EH .gm (nh K (.fm (nh K (i9 0) "sides") .fV) "nodes")) y ML.nd .rf .jy (λ_ _ _ _ _=>.a3 ML.nd y @q) .bA (λ_ _ _ _ _=>Je (Jf (og hr) .ak (iL .wp y)))) iw)))) (.jb (pC M)) jn) (iE (iR iY))),?_];refine#[_,y,@Z,λm ac=>.kZ m];have p:.I (.kM m):=@t ac;have g:=.cC p;have r:=p.seq hL;have x:∀L,iu (.kM m) L->Q (.h (.bj U a)) L:=λL s'=>k L (p.trans s');generalize .kM m=H1 at g r x⊢;by_cases c:U=0\/U=1
 .have C:.A1=f':=.wo
  show .Hd;rw[C];refine iU #[_,y,la,y,#[_,r],λDl hD=>oP (InZ .du) .bF .b9 hD r (by rw[i0];exact .ju ab) (λi ak H2 Ky Kn hx l al hy hn=>?_) λH2 ys l ae aa=>?_];.rw[jI]at hx;obtain⟨z,hz,rfl⟩:=.fU;let#[dt,nd,as,q1,q2,q3,q4,q5]:=((g.side U).keep g.sub).keep l;refine .jF #[_,y,_,y,D.x,C3,.bq,_,_,y,l _ _ g.hx,T3.cl,T3.nS,y,_,y,.bf,_,_,_,y,y,.mv l g.hs,at2 c,_,.ar,dt,_,_,?_,q1,.as,T.tN,kI,nd,_,y,lZ.k (k:=iO z) q2,hy _ H2 .bN y #[z,y,by rw[XC q3]]];grind[pick]
  rw[mU]at aa;have af:=Xw aa;subst af;refine#[Dl,_,y,@D ae,_,y,?_];have hk:=x H2 l;have ag:¬(U≠0/\U≠1):=.t
  unfold ku at hk;rw[il ag]at hk;have ea:(a.map (pQ .du)).all id=.A2:=@E
  rw[ea];show if(! .A2)=f' then _ else _;cases hc:.A2 with
  |true=>rw[ip hc]at hk;exact iU hk|false=>rw[.jw hc]at hk;exact iQ hk
 .have C:.A1=ij:=by
   show([@Z 0,@Z 1].any _)=ij;rw[CC];intro v hv;rcases kc.mp hv with rfl|hv;.intro q;exact c (.n (.oy 0 q))
   .rw[uK.mp hv];intro q;exact c (@n (.oy 1 q))
  show .Hd;rw[C];ext aa;have hk:=x H1 .bN;unfold ku at hk;rw[ip #[λq=>c (.n q),λq=>c (@n q)]]at hk;exact hk
theorem aeo:jb .ox .ox (i4 Ng):=.J
theorem Wn:(.kx a=.kx b)↔a=b:=by
 ext n;.intro h;exact(.aA (λx:iA=>.kV) (V.str.inj h))
 grind
theorem adS(F:.D "may_stand" Ng f a)(T:.az)(q:.al "symbol_of" 1 .ch (DQ t) L l):.bG 2 f a .ox (L0 t):=by
 refine .t aeo λM A I s H U Q E c h=>?_;obtain⟨x,p,n,r,sy,rfl,m,v,B,k⟩:=h;refine .jW (Jt (pG mH @M .cM .aw) (Ee (pG mH .ad (iS q c iI (.mb 0 1)) .aw)));let#[g,nd,as,D,_]:=id m;refine#[_,y,_,y,x,.ar,g,_,_,y,D,.as,T.tR,rR,y,_,y,?_];have e:.q (@Z .aY=.jq p.root)=.q (n=p.root):=.h
 rw[e];cases C:.q (n=p.root)with
 |true=>grind|false=>rw[C,acN]at k;refine iU #[_,y,_,y,_,y,x,p,n,r,y,m.at,v,B,y,?_];grind[Wn]
theorem Ys:.hL (i4 Qi):=.J
theorem HF(h:.bj A w=0):.fZ/\∀z∈w,pQ .a9 z=f':=.oy
theorem A5(c:.ow):[a,b].set (.cn 0 1) C=.cn [C,b] [a,C]:=.wo
theorem ks.ZM{side:Int}(r:.bu)(m:.I f)(c:side=0\/side=1)(p:upd f .bf .oz a=e'):ZP D side C g0 g1 0 H (upd (upd f .bf .oz) a .pe):=by
 have A:∀b o,upd f .bf .oz b=O o->upd (upd f .bf .oz) a .pe b=O o:=.Z
 refine#[λb o e T g=>A _ _ (.pf T m e),A _ _ iG,A _ _ ?_];rw[.j5 r.ne,m _ _ r.hg];rcases c with rfl|rfl<;>rfl
theorem ahA(F:.D "reset" Qi f g)(T:.az)(M:sv K v)(q:.L m .an "unknown" 1 .hR (zf K v t) fu ab):@H m .aG 2 f g .lp (Io v t):=by
 refine .t Ys λac A ae s H vs Q E C h=>?_;obtain⟨D,G,B,I,u,g0,g1,l,rfl,r,k1,k2⟩:=h;refine .md (.ag Ys.nd y @q (iS q C iI (.ke (Y .dJ iw)))) (.g5 (iy (Eb .aE (Ed .aE @M set_list)) (.jb .jz)));refine#[_,y,_,y,.au,λla L=>#[D,G,B,I,u,g0,g1,l,[],la,y,.bh (@t L),.hS,.au,.rW]];have x:=.mW L s1;refine .cA;by_cases c:l=0\/l=1
 .have U:.bj l []=0:=.oy
  rw[U];have k:=.bh x;refine iU #[_,y,D.x,v,.bq,_,_,y,k.hx,M.cl,M.nB,y,_,y,D.x,v,.bq,_,_,y,k.hx,M.cl,M.nS,y,_,y,.bf,_,_,_,y,y,k.hs,BV c,?_];rw[A5 c];refine#[@Z,λa p=>?_];have aa:.cT:=by
   have:a≠.bf:=.kY
   rw[iC .bM]at p;exact x.free p
  refine k2 c a D.b _ aa iG (r.ZM x c p) λaf sJ _=>r.tb.keep sJ
 .have U:.bj l []=-13:=.oy
  rw[U];refine iQ #[_,y,@Z,λa p=>k1 @h a _ (x.free p) (x.trans (@t p)) iG]
abbrev Mn:i5:=top 62
abbrev QG:i5:=top 63
abbrev QH:i5:=top 64
def HJ(v:U)(t:Tc):Sp:=λg H Q _=>∃(D:lW)(G:Hp)(B I u:Flat)(g0 g1:Nat)(A node l:Int),g=[.bQ,.h A,.h .bG,.h l]/\.bu/\.gp/\(.oA≠0->.di .oA)/\∀n r,.fZ->.bG=.hD->jq .a9 n=O r->(.eb=ij->.jp 11)/\(.eb=f'->(.He->.jp 12)/\(l.natAbs<=999999999999999999->.fl #[.gA,(.a9).recs.map (kX n l)] 0 [0]))
def IW(v:U)(t:Tc):Sp:=λg H Q _=>∃(D:lW)(G:Hp)(B I u:Flat)(g0 g1:Nat)(A a b:Int)(M:.dr),g=.Hf/\.bu/\.gp/\(∀n r,.rX=O r->M .am<M n)/\(.wr≠0->.di .wr)/\∀n m s c,.fZ->a=.hD->b=(m:Nat)->jq .a9 n=O s->jq .a9 m=O c->(.Hg->.jp 10)/\(¬.b3 .a9 m n->¬.b3 .a9 n m->(.oB≠.au c.prod->.jp 8)/\(.oB=.au c.prod->∃(l:@n)(d:Nat),.bf (mw .jA .a9) .Hh l d/\.eK/\.n0/\(.lq=f'->.jp 9)/\(.lq=ij->.fl #[.Hh,.bp (mw .jA .a9) l] 0 [0])))
def IX(v:U)(t:Tc):Sp:=λg H Q _=>∃(D:lW)(G:Hp)(B I u:Flat)(g0 g1:Nat)(A a:Int),g=[.bQ,.h A,.h a]/\.bu/\.gp/\(.bj A [a]≠0->.di (.bj A [a]))/\∀n s,.fZ->a=.hD->jq .a9 n=O s->(.rX=e'->.jp 14)/\∀p,.rX=O p->jq .a9 p.id=O p/\(.Hi=ij->.jp 8)/\(.Hi=f'->∃(l:@n)(d:Nat),.bf (mw .rY .a9) (.n8 p.id n) l d/\.eK/\.n0/\.fl #[.n8 p.id n,.bp (mw .rY .a9) l] 0 [0])
theorem akm(h:n≠m)(v w:V):oG [] [(.d5,v),(.jf m,w)]=[(.d5,v),(.jf m,w)]:=by grind[C5]
theorem Xx(h:H d=O (.dK [(.d5,.jq m)])):Bm H d (λx=>.pE x n m):=#[_,h,λx=>by
 by_cases e:x=n;.grind[qJ]
 .rw[.nI e q,il e];rfl]
theorem ah8(h:H d=O .ws):Bm H d .jA:=#[_,h,λx=>by
 by_cases e:x=n;.grind[qJ]
 .rw[.nI e q,il e];by_cases A:x=m;.grind[qJ]
  .rw[.nI A q,il A];rfl]
theorem xI(h:∀n∈l,∃r,.fW):(.hT).map .al=l:=by
 induction l with
 |nil=>rfl|cons n l I=>let#[r,e]:=h n jO;grind[recsOf,nZ]
theorem LC:∀{l:@n},(∀n∈l,∃r,.fW)->∀n∈l,∀root,jq #[.cj,.hT] n=jq F n
 |[],_,n,f,_=>.jr f|m::l,h,n,f,root=>by
  let#[r,e]:=h m jO;have B:.bp F (m::l)=r::.hT:=by grind[recsOf]
  show(.bp F (m::l)).find? _=_;rw[B,FG,nZ e];by_cases q:m=n;.grind
  .rw[show(m==n)=ij from .q];rcases kc.mp f with z|z;.omega
   .exact LC .q n z .cj
mutual
theorem zE:∀{n:Nat}{l:@n}{d:Nat},.bf F n l d->.Hj->.bf s n l d
 |_,_,_,.node h k,q=>.bX .q (X3 k .q)
theorem X3:∀{w l:@n}{d:Nat},.Aw->.Hj->Mx.jM s w l d
 |_,_,_,.nil,_=>.nil|_,_,_,.cons a b,q=>.J (zE a .q) (X3 b .q)
end
theorem Ij(h:.bf F .cj l d):.bf #[.cj,.hT] .cj ((.hT).map .al) d:=by rw[.r0];exact zE h λm M=>LC h.recs m M .cj
theorem LA:jb ["trees","side","number","value","refusal","tree"] .wt (i4 Mn):=.J
theorem Js:.cn (.ap a) (.ap b)=@h (.cn a b):=by grind[pick]
theorem ks.finish{side:Int}(r:ks v t G H D B L u g0 g1)(c:Done t D side G H g0 g1 Q s 0 [0])(x:.I f)(h:.I I)(w:side=0\/side=1)(A:.az .bf .oz a=e')(m:∀k,iu G k->iu (jt f I) k->j7 t k C s):.aU (upd (.az .bf .oz) a .cu):=by
 have p:I a=e':=by grind[iG,iC]
 refine c a C _ (h.free p) iG (r.ZM h w A) λk g l=>m k g ?_;refine iu.trans .cx l;have e:=qG (H':=I) (.de x) _ _ e;rw[L9 (h.free p),qu r.hs y,iC (λq=>by rw[q,lh (h.free p),p]at e;cases e)];exact e
theorem Ref.use(h:.di z)(g:.I I)(p:I a=e'):.aU (.az a (.kg z)):=h a _ (g.free p) (.bC (@t p)) iG
theorem af1(F:.D "set_number" Mn f fd)(T:.az)(g:sv K v)(M:.bm)(Gu:.c8 .an "unknown" 1 .hR (zf K v t) fu ah)(Gw:.c8 .an "with_value" 3 .vV (Vj t) fw ai):@H ab .aG 4 f fd .wt (HJ v t):=by
 refine .t LA λaj A ak s H vs Q E L h=>?_;obtain⟨D,G,B,F0,F1,g0,g1,u,node,l,rfl,C,hP,k1,k2⟩:=h;refine#[_,iy (.bE LA.nd y @q (iS Gu (L.mono @h) iI (.ke (Y (jF .iP) iw)))) (iy .Hk (iy (.db LA.nd y @q .wp) (iy (jh (vi (xP (iL (iL (qx (og L) (.jg 5) .ad .ai) y) y) .cY)) .hU jn) (iy (.kN (kA aiv .z .bn (.Q:.b8 "abs"=O (.aj "abs")) .nI)) (iy (Eb (iS Gw L iI (Y .cq .q7)) .A3) (.jb .jz)))))),?_];refine#[_,y,_,y,_,y,@Z,λla ac=>#[D,G,B,F0,F1,g0,g1,u,[.bG],la,y,C.keep (@t ac),.hS,@E,.rW]];have x:=.mW ac s1;refine .cA;by_cases I:ku F0 F1 u [.bG]=0
 .rw[I];let#[c,ag]:=HF I;obtain⟨n,r,rfl,aa⟩:=A6 (ag .bG @I);let#[c1,c2]:=k2 n r c y aa;have k:=C.keep x;have hT:=k.side u;let#[dt,nd,h1,h2]:=(hT.keep k.sub).at;let#[a,dg,dn,cl,p,g3,g4,g5,g6,g7]:=h2.at aa;let#[m,q1,dp,al,rl,rs,q2,_]:=(hP.keep x T.G).get g4;have eo:.eb=m.own:=by grind[Tc.own]
  refine iU #[_,y,D.x,v,.bq,_,_,y,k.hx,g.cl,g.nS,y,_,y,.bf,_,_,_,y,y,@D k.hs,at2 c,?_];rw[Js];refine#[_,y,_,.ar,dt,_,_,y,h1,.as,.bb,kI,_,y,nd,_,y,dg,a,.aQ,dn,_,_,y,g3,.aT,T.nP,vX,p,t.g.Cp,dp,_,_,y,q2,T.G.p,T.G.pH,LF,_,y,?_];rw[<-eo];show if(! .eb)=f' then _ else _;cases ho:.eb with
  |false=>exact iQ #[@Z,λa U=>(c1 ho).use x U]|true=>
   obtain⟨c3,c4⟩:=c2 ho;refine iU #[_,y,_,y,_,_,y,y,_,y,?_];have ea:((.nW l 0):Int)=l.natAbs:=.t
   rw[ea];by_cases hv:.He;.rw[.nJ 999999999999999999 l.natAbs];exact iQ #[@Z,λa U=>(c3 hv).use x U]
   .rw[.nK 999999999999999999 l.natAbs];refine iU #[_,y,_,y,_,y,_,_,n,l,r,G,y,k.sub,hT,aa,ho,λam H2 s2 hy=>?_];have ae:=x.trans s2;have af:=C.keep ae;refine#[_,y,D.x,v,.bq,_,_,y,af.hx,g.cl,g.nS,y,_,y,.bf,_,_,_,y,y,af.hs,BV c,?_];rw[A5 c];refine#[@Z,λa U=>?_];exact C.finish (c4 @h) x ae c U hy
 .rw[.rl (ku F0 F1 u [.bG]) 0 I .wu];exact iQ #[_,y,@Z,λa U=>(k1 I).use x U]
theorem IZ:jb ["trees","side","number","other","refusal","tree","edited"] .wv (i4 QG):=.J
theorem ai7(F:.D "swap" QG f fd)(T:.az)(T3:sv K C3)(M:.bm)(Gu:.ck "unknown" 1 .hR (zf K C3 t) fu aE)(Gw:.ck "is_within" 2 .vE (WJ t) fw aF)(Gs:.ck "symbol_of" 1 .ch (DQ t) fs aG)(Gr:.ck "rebuilt" 3 .n2 (Ha t) fr aH)(Gt:.ck "is_too_large" 2 .bP (GO t) ft aI):@H g .aG 4 f fd .wv (IW C3 t):=by
 refine .t IZ λaJ A aK s H vs Q E hr h=>?_;obtain⟨D,G,B,I,u,g0,g1,U,za,zb,rk,rfl,r,hP,ak,k1,k2⟩:=h;ext am;have ae:.b8:=.aO;have af:.i3:=.aO;refine#[_,iy (.bE IZ.nd y @q (iS Gu ae iI (.ke (Y (jF .q7) iw)))) (iy .Hk (iy (.db IZ.nd y @q .wp) (iy (jh (PW.pt (Jr (kW (iS Gw af iI (Y .cq .q7))) (Jd (kW (iS Gw af iI (Y .cq (.mb 3 2))))))) .hU jn) (iy (jh (.bN (.ra Gs ae 5 2) (.ra Gs ae 5 3) .aw) .hU jn) (iy (.eC IZ.nd y @q (iS Gr hr iI (.oz 5 (DD .ad .ak (DD .ak .ad Iv))))) (iy (jh (kW (.pe Gt af 6)) .hU jn) (iy (Eb .dM .A3) (.jb .jz)))))))),?_];refine#[_,y,_,y,_,y,_,y,@Z,λla al=>#[D,G,B,I,u,g0,g1,U,[za,zb],la,y,.bh (@t al),.hS,@E,.rW]];have aa:=.mW al s1;refine .cA;by_cases eu:.bj U [za,zb]=0;.rw[eu];let#[k,am]:=HF eu;obtain⟨n,v,rfl,an⟩:=A6 (am za @I);obtain⟨m,C,rfl,ao⟩:=A6 (am zb @I);let#[c1,c2]:=k2 n m v C k y y an ao;have ap:=.bh aa;refine iU #[_,y,D.x,C3,.bq,_,_,y,ap.hx,T3.cl,T3.nS,y,_,y,.bf,_,_,_,y,y,@D ap.hs,at2 k,?_];rw[Js];have L:.A4:=.Hl;refine#[_,y,_,y,_,y,_,_,n,m,rk,y,L H1 aa,ak,λb1 H2 s2 ab=>.cL];have ag:=.r1;cases b1 with
  |true=>exact iQ (iQ #[.jA 1,λa p=>(c1 (.n (ab.mp y))).use ag p])|false=>
   refine iU #[_,y,_,y,_,y,_,_,m,n,rk,y,L H2 ag,ak,λb2 H3 s3 aq=>.cL];have c:=ag.trans s3;cases b2 with
   |true=>exact iQ #[.jA 1,λa p=>(c1 (@n (aq.mp y))).use c p]|false=>
    let#[c3,c4]:=c2 (λq=>by cases ab.mpr q) (λq=>by cases aq.mpr q);have ar:=hP.keep c T.G;refine iU #[_,y,_,y,_,_,n,v,y,(L H3 c).at,ar,an,_,y,_,y,_,_,m,C,y,(L H3 c).at,ar,ao,y,_,y,?_];by_cases hs:.au v.prod=.au C.prod
    .rw[iq (show .Hm by rw[hs])];let#[l,d,ah,aw,ax,c5,c6]:=c4 hs;obtain⟨dt,nd,as,q1,q2,q3,q4,q5⟩:=L H3 c;have ay:n≠m:=λq=>by rw[q]at ab;cases ab.mpr .here
     refine iU #[_,y,_,.ar,dt,_,_,y,q1,.as,T.tR,rR,_,y,_,.ar,dt,_,_,y,q1,.as,.bb,kI,λins az=>#[_,y,_,y,_,y,_,y,iG,[(.ec,.jn m),(.jf m,.ou)],y,@E,?_]];rw[mz,akm ay];have ac:=@t (o:=.ws) az;have ai:=.dF ac;have hI:upd H3 ins .ws ins=O _:=iG;generalize upd H3 ins .ws=H4 at ac ai hI⊢;refine#[nd,ins,.cZ I u,(.du).root,_,l,d,y,#[as,.mN ac q2,.mJ q3.imp ac,q4,q5],ah8 hI,ah,aw,ax,λaA H5 s5 hy=>?_];have aB:=ai.trans s5;have aC:=.d9 .gw;refine#[_,y,aA,_,d,y,aC,Ij ah,λH6 s6=>.cL];have aj:=aB.trans s6;have aD:.Hn=.ac:=by have:=.aA yY (xI ah.recs);ext t
     show .lC (60<.Hn);rw[aD];cases au:.lq with
     |true=>exact .sc 1 c5 au aj p|false=>have av:=.bh aj;refine iU #[_,y,_,y,D.x,C3,.bq,_,_,y,av.hx,T3.cl,T3.nS,y,_,y,.bf,_,_,_,y,y,av.hs,BV k,?_];rw[A5 k];exact#[.jA 1,λa p=>r.finish (c6 au) ai aj k p λaL _ nJ=>(.d9 (qH s6)).keep nJ]
    .rw[ir (show¬.Hm from λq=>hs (Wn.mp q))];exact .sc 1 c3 hs c p
 .rw[.rl (.bj U [za,zb]) 0 eu .wu];exact iQ #[_,y,@Z,.ru k1 eu aa p]
theorem Ja:jb ["trees","side","number","refusal","tree","parent"] .ww (i4 QH):=.J
theorem ajc(F:.D "lift" QH f fd)(T:.az)(C:sv K L)(M:.bm)(Gu:.fo "unknown" 1 .hR (zf K L t) fu ar)(Gp:.fo "parent_of" 1 .ch (Ny t) fp au)(Gs:.fo "symbol_of" 1 .ch (DQ t) fs av)(Gr:.fo "rebuilt" 3 .n2 (Ha t) fr aw)(Gm:.fo "may_stand" 2 .ox (L0 t) fm ax):@H k .aG 4 f fd .ww (IX L t):=by
 refine .t Ja .Fe;obtain⟨D,G,B,I,u,g0,g1,U,za,rfl,r,hP,k1,k2⟩:=h;have ac:.b8:=.aO;refine#[_,iy (.aL Ja.nd y @q (iS Gu ac iI (.ke (Y (jF .iP) iw)))) (iy (jh (.bN .ak iY .aw) (.kO 3) jn) (iy (.bE Ja.nd y @q .wp) (iy (.db Ja.nd y @q (.ra Gp ac 4 2)) (iy (jh (ju Bv .cq pJ .z) .hU jn) (iy (jh (vi (kW (iS Gm .aO iI (Y .cN (Y .cq (Y (.ra Gs ac 4 2) iw)))))) .hU jn) (iy (Eb (iS Gr hr iI (.oz 4 (DD .cq .ad Iv))) .A3) (.jb .jz))))))),?_];refine#[_,y,_,y,_,y,@Z,λla af=>#[D,G,B,I,u,g0,g1,U,[za],la,y,.bh (@t af),.hS,@E,.rW]];have aa:=.mW af s1;refine .cA;by_cases eu:.bj U [za]=0;.rw[eu];let#[m,al]:=HF eu;obtain⟨n,v,rfl,ag⟩:=A6 (al za @I);let#[c1,c2]:=k2 n v m y ag;have ah:=.bh aa;refine iU #[_,y,D.x,L,.bq,_,_,y,ah.hx,C.cl,C.nS,y,_,y,.bf,_,_,_,y,y,@D ah.hs,at2 m,?_];rw[Js];have hT:.A4:=.Hl;refine#[_,y,_,y,_,_,n,y,hT H1 aa,λx s2=>.cA];have c:=.r1;cases hp:mG .du n with
  |none=>exact iQ #[@Z,λa g=>(c1 hp).use c g]|some p=>
   let#[am,c3,c4]:=c2 p hp;have ai:=hP.keep c T.G;refine iU #[_,y,_,y,_,y,_,y,_,_,n,v,y,(hT x c).at,ai,ag,_,_,p.id,p,.au v.prod,y,hT x c,ai,am,_,y,?_];show if(! .Ho)=f' then _ else _;cases hm:.Ho with
   |false=>exact iQ #[@Z,λa g=>(c3 hm).use c g]|true=>let#[l,d,an,ao,ap,c5]:=c4 hm;obtain⟨dt,nd,as,q1,q2,q3,q4,q5⟩:=hT x c;refine iU #[_,y,_,.ar,dt,_,_,y,q1,.as,T.tR,rR,_,y,_,.ar,dt,_,_,y,q1,.as,.bb,kI,λins aq=>#[_,y,_,y,iG,[(.jf p.id,.ou)],y,@E,?_]];rw[mz];have ab:=@t (o:=.dK .r2) aq;have ae:=.dF ab;have hI:upd x ins (.dK .r2) ins=O _:=iG;have em:oG [] .r2=.r2:=y;rw[em];generalize upd x ins (.dK .r2)=H3 at ab ae hI⊢;refine#[nd,ins,.cZ I u,(.du).root,_,l,d,y,#[as,.mN ab q2,.mJ q3.imp ab,q4,q5],Xx hI,an,ao,ap,λaA H5 s5 hy=>?_];have aj:=ae.trans s5;have ak:=.bh aj;refine#[_,y,D.x,L,.bq,_,_,y,ak.hx,C.cl,C.nS,y,_,y,.bf,_,_,_,y,y,ak.hs,BV m,?_];rw[A5 m];exact#[@Z,λa g=>r.finish c5 ae aj m g λaB _ nJ=>.d9 nJ]
 .rw[.rl (.bj U [za]) 0 eu .wu];exact iQ #[_,y,@Z,λa g=>(k1 eu).use aa g]
abbrev N5:i5:=top 61
def putAt(n first:Nat)(x:Nat):Nat:=if x=n then first else x
def pO(F:@H)(rs:.cP):@H:=#[.a7,.dq++rs]
def G9(K:jd)(v:U)(t:Tc):Sp:=λh H Q _=>∃(D:lW)(G:Hp)(B I u:Flat)(g0 g1:Nat)(A node:Int)(f a:U)(c:@n)(g:xr),h=[.bQ,@h f,.h A,.h .bG,.aX]/\.bu/\yu t H f/\uy t/\(∀ts,.vR)/\.aB a (l4 c)/\.gJ<=4000/\(.oA≠0->.di .oA)/\∀n r,.fZ->.bG=.hD->jq .a9 n=O r->(3000<.gJ->.jp 1)/\(.gJ<=3000->match(Mx.o (o2 c)).bind (.dL .jB)with
  |e'=>.jp 4|O s=>(¬ud t .r3->.jp 4)/\(ud t .r3->.bw<=60->∃C,jq #[.jB,.r3] .jB=O C/\(.Hq=ij->.jp 8)/\(.Hq=f'->(∀x∈(.a9).recs,∀y∈.r3,x.id≠y.id)/\(.a9).recs.length<=1000/\∃(l:@n)(d:Nat),.bf .Hr (.dj .jB .gA) l d/\.eK/\.n0/\(.lq=f'->.jp 9)/\(.lq=ij->(900<.bA g0 g1+.bw->.jp 16)/\(.bA g0 g1+.bw<=900->.fl #[.dj .jB .gA,.bp .Hr l] .bw [0,((.jB:Nat):Int)])))))
theorem VL{qs:.cP}(h:.fR=rs.length):.dN++iF f qs=iF (as++f) (rs++qs):=by grind[iF]
theorem UD(h:.rh):(.dN).map .bS=.bP λr=>.rE:=by unfold iF;rw[kQ];have e:((λx:Key×V=>x.1)∘λx:U×Rec=>.Gq)=(λr:Rec=>.rE)∘wd:=y;rw[e,<-kQ,List.map_snd_zip (by rw[h.len];omega)]
theorem nodup_keys:(.bP λr=>.rE).Nodup↔(.bP .al).Nodup:=.h
theorem iX.append{P:.g3}{as:.aA}(h:.i6)(k:iX P v Q):iX P (as++v) (f++Q):=by
 induction h with
 |nil=>exact k|cons h _ I=>exact .J h I
theorem MQ{a b:Nat}:.cn (.jq a) (.jq b)=.jn (.cn a b:Nat):=by grind[pick]
theorem zh:jb ["trees","grammar","side","number","text","refusal","first","new","tree","nodes","edited"] .wx (i4 N5):=.J
theorem QV{tb:XK->TS}(T:qy X.mg .dQ C)(k:ux X)(l:∀g W c,tY .iC C c->qW .iC h (tb c))(w:∀e,qW .mK (s::t) a)(q:Gl X "Unreadable":=by rfl):PS X (.Try h [.ExceptHandler (O .E0) e' (s::t) I] [] [] u) (λD σ H=>tb (λ_ _ L=>∀r,a D r L) D σ H):=by let#[B,v,x,m,p,M]:=T.own;exact ai0 k p M.hasBase q l w
theorem aeF(F:.D "replace" N5 f fd)(T:.az)(v:sv K C3)(M:.bm)(Er:qy mg ac .an)(hF:.Hs)(aL:.pO aF 1000 2000)(Gu:.cD "unknown" 1 .hR (zf K C3 t) fu a7)(Gq:.cD "read_tree" 7 .rC (GS K t) fq a8)(Gs:.cD "symbol_of" 1 .ch (DQ t) fs a9)(Gr:.cD "rebuilt" 3 .n2 (Ha t) fr ba)(Gm:.cD "may_stand" 2 .ox (L0 t) fm bb)(Gt:.cD "is_too_large" 2 .bP (GO t) ft bc):@H ac .aG 8 f fd .wx (G9 K C3 t):=by
 refine .t zh .Ga;obtain⟨D,G,B,I,u,g0,g1,U,node,ga,a,tx,g,rfl,k,aq,aM,aN,hL,aO,k1,k2⟩:=h;have ar:.b8:=.aO;have au:.i3:=.aO;have al:=.wy;refine#[_,iy (.db zh.nd y @q (iS Gu ar iI (Y .ae (Y .ad (Y (jF .nI) iw))))) (iy (jh (.bN .cq iY .aw) (.kO 5) jn) (iy (.kN (.mu al 4)) (iy (.eC zh.nd y @q (.bK (jG zJ (.ml aF hF) .ad .ai) .A5)) (iy (.oA Er (i8 (i:=7) zh.nd y @q (iS Gq hr ok (Y .cN (.mb 1 6))))) (iy (i8 (i:=8) zh.nd y @q .A5) (iy (jh (vi (kW (iS Gm au iI (Y (J 8) (Y .ak (Y (.ra Gs ar 7 6) iw)))))) .hU jn) (iy (i8 (i:=9) zh.nd y @q (wb U2 .z (M.no "dict" .E) .rc (.kf 8))) (iy (jf (lP Kc aaW PySem.F.type_dict_update agk (J 9) (.kf 7))) (iy (i8 (i:=10) zh.nd y @q (iS Gr .aO iI (Y (.jg 8) (Y (J 9) (Y (Iy (DD .ak .dM Iv) y y @I .E) iw))))) (iy (jh (kW (.pe Gt au 10)) .hU jn) (iy (.kN (.bK .A5 (.d3 al lN (Y (.jg 7) iw)))) (iy (Eb (J 10) (Ed .aE .ad set_list)) (iy (ai1 .aE .ad aie (.nH al 7) zK set_list) (.li (.js 6))))))))))))))),?_];refine#[_,y,_,y,_,y,.jA 1,λla av=>#[D,G,B,I,u,g0,g1,U,[.bG],la,y,k.keep (@t av),.hS,by show 1<=10;decide,.rW]];have aa:=.mW av s1;refine .cA;by_cases eu:.bj U [.bG]=0
 .rw[eu];let#[m,aP]:=HF eu;obtain⟨n,r,rfl,aw⟩:=A6 (aP .bG @I);let#[c1,c2]:=k2 n r m y aw;have ax:=k.keep aa;refine iU (.n9 a (aa.seq hL));rw[vf];by_cases aQ:3000<tx.length;.rw[.nJ 3000 tx.length];exact .sc 1 c1 aQ aa p
  .rw[.nK 3000 tx.length];have c2:=c2 @h;refine iU #[_,y,aF,_,_,_,y,y,aL _,at2 m,_,y,D.x,C3,.bq,_,_,y,ax.hx,v.cl,v.nG,y,_,y,D.gl,_,_,_,y,y,@D ax.hg,at2 m,?_];have e1:.cZ (@Z 1000) (@Z 2000)=.jn (.A6:Nat):=by unfold pick;split<;>rfl
   rw[e1,MQ];refine .zd;show .n6 6 (.jh (((.A6:Nat):Int)+((.cZ g0 g1:Nat):Int)));rw[<-Int.natCast_add];generalize bf:.A6+.cZ g0 g1=L at c2⊢;have hT:.A4:=λH' s'=>(k.side U).keep ((k.keep s').sub);refine#[_,y,_,y,_,y,a,ga,tx,L,g,y,aa.seq hL,aO,aq.keep aa T.G,aM,aN,?_];cases ay:(Mx.o (o2 tx)).bind (.dL L)with
   |none=>rw[ay]at c2;exact λH2 s2 σ'=>#[.jA 1,λa p=>Ref.use c2 .r1 p]|some c=>
    rw[ay]at c2;let#[c3,c4]:=c2;refine#[λaR am y0 H2 s2 aS=>?_,λaT H2 s2 σ'=>#[.jA 1,λa p=>(c3 aT).use .r1 p]];let#[r0,aU,c5,c6]:=c4 aR am;have af:=.r1;have az:=k.keep af;have aA:=aS.keep .gw;have aB:pI t H2:=by let#[_,_,_,_,_,z]:=aq.keep af T.G;exact z
    refine#[_,y,D.x,C3,.bq,_,_,y,az.hx,v.cl,v.nS,y,_,y,.bf,_,_,_,y,y,@D az.hs,at2 m,?_];rw[Js];refine#[_,y,_,y,_,y,_,y,y0,_,L,r0,y,aA.at,aB,aU,_,_,n,r,.au r0.prod,y,hT H2 af,aB,aw,_,y,?_];show if(! .Ht)=f' then _ else _;cases hm:.Ht with
    |false=>exact .sc 1 c5 hm af p|true=>
     let#[aV,aW,l,d,an,aX,aY,c7,c8]:=c6 hm;let#[dt,nd,as,q1,q2,q3,q4,q5]:=hT H2 af;let#[dy,aj,bs,w1,w2,w3,w4,w5]:=id aA;refine iU #[_,y,_,.ar,dt,_,_,y,q1,.as,.bb,kI,nd,_,y,.n q2,λkd ak=>?_];have ag:=@t (o:=.dK (.bg (.du).recs)) ak;have aZ:kd≠aj:=λq=>by rw[q,w2]at ak;cases ak
     refine#[_,y,@n (.j2 #[y,.n #[_,iG]]),_,y,y0,.ar,dy,_,_,y,ag _ _ w1,.as,.bb,kI,kd,aj,_,_,y,y,aZ,iG,ag _ _ w2,?_,?_];.rw[oB q3,oB w3];exact ja (acv aW (by rw[sZ];exact am)) .E
     have aC:((.A7).map .al).Nodup:=by rw[mR,sO];refine#[q4,w4,λx hx ae hy=>?_];obtain⟨rx,a0,rfl⟩:=@Q hx;obtain⟨ry,a1,rfl⟩:=@Q hy;exact aV rx a0 ry a1
     have em:oG (.bg (.du).recs) (iF bs (jl L c))=.A8:=by rw[C5 _ _ ?_,VL q3.len];rw[VL q3.len,UD (q3.append (w3.imp λa b q=>q)),nodup_keys];exact aC
     rw[mz,em];have ag:=@t (o:=.dK .A8) ak;have aD:.pJ H2 kd .A8=O _:=iG;generalize .pm H2 kd (iF (as++bs) ((.cZ I u).recs++jl L c))=H3 at ag aD⊢;refine#[_,y,_,.ar,dt,_,_,y,ag _ _ q1,.as,T.tR,rR,_,y,λins a2=>#[_,y,_,y,iG,[(.ec,.jn L)],y,by show 1<=15;decide,?_]];rw[mz];have a3:oG [] .r4=.r4:=y;rw[a3];have ao:=@t (o:=.dK .r4) a2;have hI:upd H3 ins (.dK .r4) ins=O _:=iG;generalize upd H3 ins (.dK .r4)=H4 at ao hI⊢;have ap:=ag.trans ao;have aE:=af.trans ap;have bg:(jl L c).length<=60:=by rw[sZ];exact am
     refine#[kd,ins,pO .du (jl L c),(.du).root,.dj L,l,d,y,#[as++bs,.mN ao aD,(q3.append w3).imp λa b q=>.bD ap,aC,by show(.A7).length<=4000;rw[j9];omega],Xx hI,an,aX,aY,λae H5 s5 hy=>?_];refine#[_,y,ae,_,d,y,.d9 .gw,Ij an,λH6 s6=>.cL];have ab:=.pb aE.trans s5 s6;have ah:=ap.trans (s5.trans s6);have a4:.Hu=.ac:=by have:=.aA yY (xI an.recs);rwa[i0]at this
     show .lC (60<.Hu);rw[a4];cases aG:.lq with
     |true=>exact .sc 1 c7 aG ab p|false=>
      let#[c9,a5]:=c8 aG;have C:=k.keep ab;refine iU #[_,y,D.x,C3,.bq,_,_,y,C.hx,v.cl,v.nG,y,_,y,D.gl,_,_,_,y,y,@D C.hg,at2 m,?_];rw[MQ];have aH:(iF bs (jl L c)).length=.gJ:=by rw[oB w3];exact sZ _ _
      refine#[_,y,y0,.ar,dy,_,_,y,.cx w1,.as,.bb,kI,aj,_,y,.cx w2,_,_,y,y,_,_,y,y,_,y,?_];rw[aH];by_cases a6:900<.cZ g0 g1+.gJ;.rw[iq (show(900:Int)<.wz by omega)];exact .sc 1 c9 a6 ab p
      .rw[ir (show¬(900:Int)<.wz by omega)];refine iU #[_,y,_,y,D.x,C3,.bq,_,_,y,C.hx,v.cl,v.nS,y,_,y,.bf,_,_,_,y,y,C.hs,BV m,?_];rw[A5 m];have aI:.hM D.gl=O (@E [.h g0,.h g1]):=.ma (my k.ne) C.hg
       have kx:∀b o,H6 b=O o->b≠.bf->.hM b=O o:=λb o e q=>.ma q e
       refine#[_,y,D.x,C3,.bq,_,_,y,kx _ _ C.hx (mI C.hx C.hs .lr),v.cl,v.nG,y,_,y,D.gl,_,_,_,y,y,@D aI,at2 m,?_];rw[MQ];refine#[_,y,y0,.ar,dy,_,_,y,kx _ _ (.cx w1) (mI (.cx w1) C.hs .lr),.as,.bb,kI,aj,_,y,kx _ _ (.cx w2) (mI (.cx w2) C.hs .lr),_,_,y,y,D.gl,_,_,_,y,y,aI,BV m,?_];rw[A5 m,aH];refine#[_,y,.jA 2,λa p=>?_];have eg:.cZ [@Z .wz,.h g1] [.h g0,@Z .wz]=.cZ [.jq (g0+c.length:Nat),.h g1] [.h g0,.jq (g1+c.length:Nat)]:=by rcases m with rfl|rfl<;>rfl
       rw[eg]at p⊢;have aJ:a≠.bf:=λq=>by rw[q,iC k.ne,iG]at p;cases p
       have aK:a≠D.gl:=λq=>by rw[q,iG]at p;cases p
       have ai:H6 a=e':=by rw[iC aK,iC aJ]at p;exact p
       refine a5 @h a ae _ (ab.free ai) iG #[λb o e n1 n2=>?_,?_,?_] λbh _ nJ=>(.d9 (qH s6)).keep ?_;.rw[.mc (ab _ _ e) ai,iC n2,iC n1];exact ab _ _ e
       .rw[.j5 aJ,iC k.ne,iG]
       .rw[.j5 aK,iG]
       .refine iu.trans .cx nJ;have e:=qG (H':=H6) (.de aE) _ _ e;rw[L9 (ab.free ai),qu k.hg y,qu k.hs y,iC (λq=>by rw[q,lh (ab.free ai),ai]at e;cases e)];exact e
 .rw[.rl (.bj U [.bG]) 0 eu .wu];exact iQ #[_,y,.jA 1,.ru k1 eu aa p]
end Tm
namespace L2
open PySem PySem.Spec PyProof.Rows
set_option maxHeartbeats 1000000 in
theorem ae6(l:U)(f:.gT)(n:Nat)(b:U)(I:.gT)(p:Nat)(u:.E U)(M:.py)(k:¬(!f.isEmpty&&Fh (.a5+.gz))=f')(a:.a5<=@Q)(m:.a5+.gz<=@Q+1):Meets (Builtin.«list.extend» #[[.cw,.b3],[]]) (λ_ R s=>.ah l=.ox f n/\.ah b=O {cls:=.kk,dict:=u,data:=.seq I p,slots:=M}/\R (.ok (.ret pX)) {s with heap:=.en l (GK λx=>x++I),toks:=s.toks}):=.of_wp λH w A R s h=>by let#[Q,g,d,q,os]:=s;let#[L,c,h]:=h;wp_walk using(wpAny_updateSeq L y (hz:=a) (_hz':=.q)),BZ L,BZ c;grind
theorem aeW:J2 X "list.extend" (λx g H Q=>∃l b xs a,x=.ap l/\g=[.b3]/\.ip/\jz X.K H b a/\.ag+.c1<=@Q/\.aV (.bu l (xs++a))):=by
 ext aU;obtain⟨l,b,xs,a,rfl,rfl,w,J,hz,q⟩:=h;ext bo;cases k;let#[z,M,n,r,hl,e]:=I.zX w;let#[m,r2,#[D,A,B,p,T],_]:=.bS J;have aa:=r2.length;have ab:.x0<=@Q:=.h
 have U:.C9:=by grind[Xm]
 let#[Y,c,C,L]:=D;replace B:Y=.kk:=B;replace T:C=.seq m.toArray p:=T;subst B T;refine GG abK #[_,e,y] abA .z (ae6 l .c8 n b m.toArray p c L U @h @h) #[e,A,?_];refine .Da;grind
end L2
namespace Tm
open PySem PySem.Spec PyProof.Rows L2
open Vaattx(Rec Flat)
theorem EL(e:.I)(h:.lY):jz K L a xs:=by
 rcases h with(h|⟨o,h⟩)|h;.exact .n (.mN e h)
 .exact .kj #[o,e _ _ h]
 .exact @n h
def Q3(K:jd)(H:Hp)(p:U)(z:.af):.n:=.aJ p (z.map .a6)
def qh(K:jd)(H:Hp)(l:U)(r:.bv):.n:=∃ps:@D,H l=.hu/\iX (Q3 K H) ps r
def z0(K:jd)(f:V->.af)(H:Hp)(x C:V):.n:=∃p,C=.e5/\Q3 K H p (f x)
theorem ME(H L:Hp)(x C:V)(s:.I)(h:z0 K f H x C):z0 K f L x C:=by let#[p,e,q]:=h;exact#[p,e,EL s q]
theorem Wq:∀{xs ys:.L},iX (z0 K f H) xs ys->∃ps:@D,ys=.eu/\iX (Q3 K H) ps (.a4 f)
 |_,_,.nil=>#[[],y,.nil]|_,_,.cons h t=>by obtain⟨p,rfl,q⟩:=h;obtain⟨ps,rfl,r⟩:=Wq t;exact#[p::ps,y,.J q r]
theorem U9(r:.q6)(h:iX (z0 K f .lb) xs ys):qh K H D (.a4 f):=by obtain⟨ps,rfl,q⟩:=Wq (h.imp λx C q=>ME _ _ _ _ (tA D H) q);exact#[ps,r,q]
theorem Wr(a:.pp H D ys)(Q:.dZ)(e:r=(f x).map .a6):z0 K f (.be (.bt (@L r))) x .hG:=by refine#[p,y,.bM ?_];grind[rD,iG]
theorem qh.keep(h:qh K H l r)(s:.I):qh K L l r:=by let#[ps,D,M]:=h;exact#[ps,.ff,M.imp λa b q=>EL s q]
theorem qh.more{ys:.bv}(h:qh K H l r)(k:qh K H m ys):∃ps qs:@D,H l=.hu/\H m=.hz/\qh K .Hv l (r++ys)/\.bh=.ek/\.d6=.e3:=by
 ext cI;ext aK;.exact .oa q D
 .exact .oB q D
 .exact @n q
theorem iX.eqs:∀{xs ys:.L},iX (λx C=>C=x) xs ys->ys=xs
 |_,_,.nil=>y|_,_,.cons h t=>by rw[h,iX.eqs t]
theorem rV(h:.rh):vu .dN=iK (.bP .al):=by unfold vu iK;have:=.aA (A1 kV) (UD h);rw[kQ,kQ]at this;rw[kQ];ext Q
theorem sj.has(h:.nX)(n:Nat):∃g k o,.vx/\lZ H k .ou o/\o.isSome=nY F n:=by let#[g,k,D,as,M,r,_]:=h;refine#[g,k,_,D,.n #[_,.ec,M,y,y],?_];grind[nY,Ib,ub]
theorem sj.get(h:.nX)(c:.fW):∃g k a,.vx/\.Gr:=by let#[g,k,D,M]:=h;let#[a,f,B]:=M.at c;grind
def uB(f:.ew)(x:V):.ab:=match x with
 |.int z=>f z.toNat|_=>ij
theorem uU(f:.ew)(l:@n):(iK l).filter (uB f)=iK (l.filter f):=by unfold iK;rw[List.filter_map];rfl
def mX(B S:@H):@n:=(.jD).filter (nY S)
def oW(B S:@H):@n:=(S.recs.map .al).filter λn=>! .hV
def valN(t:Tc)(F:@H)(n:Nat):V:=((jq F n).map (valOf t)).getD .iM
def oa(t:Tc)(B S:@H):@n:=(.f0).filter λn=>! .q .oC
def om(B S:@H)(n:Nat):.bv:=.hN λ(k:Nat)=>.wA
def mq(B S:@H):.bv:=.r5++.A9
theorem Xu{S:@H}(h:n∈.f0):∃p rs,.hW=O p/\jq S n=O rs:=by
 let#[D,M]:=oy.mp h;let#[r,c,e]:=@Q D;let#[rs,M]:=.bV (show(jq S n).isSome=f' from M);have:(.hW).isSome=f':=by grind[jq]
 let#[p,a]:=.bV .bM;grind
abbrev QI:i5:=top 116
abbrev Qn:i5:=top 117
def BC(t:Tc)(f:Flat->Flat->@n):Sp:=λg H Q _=>∃(u xs:U)(B S:Flat),.wB/\.cE u B/\.r6/\∀l L,.dc->.I->L l=.jU (f B S)->.ez
theorem PM:.hO (i4 QI):=.J
theorem ajd(F:.D "kept_nodes" QI f fd)(T:.az):.fh 1 f fd .ca (BC t mX):=by
 refine .t PM λah A ai s H vs Q E hr h=>?_;obtain⟨u,xs,B,S,rfl,hB,hS,k⟩:=h;refine .jW (DV (lX (te:=i9 2) (tt:=tB (EH (i9 2) (.kP 1))) y PM.nd (zy .cM) (.kW ("number",2)) (λ_ _ _ _ _=>.bZ PM.nd y @q) (λ_ _ _ _ _=>rX (tF (Jf (og hr) .ad .i0))) (.kA 2)));let#[g,U,as,h1,M,r,h4,h5]:=id hB;refine .lj M;have a:=hS.at.lock (od:=l) M;have c:.bO .oD u=.pi g (.h .ls) .lu:=.Z
 have Y:.bO .oD U=O .oD:=iG;have m:∀L,iu (.bO .oD) L->.I (.aD U (.dK (.bg B.recs))):=.n9
 have p:∀b,.bO .oD b=e'->.be:=.Z
 generalize .bO .oD=Hl at a c Y m p⊢;refine .sp u g c l #[_,Y,λD C=>Bk (λ_ x aa=>aa=x) (uB (nY S)) .b9 C Y (.m3 r h5) (λi x L Ky Kn v sm aj hy hn=>?_) λHf ys I ab hA=>?_];.rw[rV r]at v;ext az;obtain⟨n,ak,rfl⟩:=.M v;let#[ac,ae,o,g1,g2,g3]:=(a.keep sm).has n;refine .sf xs ac g1 ae g2;rw[g3];cases hh:nY S n with
  |true=>exact iQ #[_,y,.d2 hh y]|false=>exact iU (hn L .bN hh)
 .rw[rV r,uU]at hA;have:=hA.eqs;ext Y;have af:D≠U:=.h
  exact#[I _ _ Y,k D _ (p D C) (m Hf I) (.ma af ab)]
abbrev Qm:i5:=top 118
def wB(B S:@H):.n:=∀n p rs,.hW=O p->jq S n=O rs->.dG=.Ba
def Qx(K:jd)(t:Tc):Sp:=λg H Q _=>∃(u xs:U)(B S:Flat),.wB/\.cE u B/\.r6/\wB B S/\.Bb/\∀l L,.dc->.I->qh K L l .jF->.ez
theorem VB(n i:Nat)(h:i<n):.wD[i]? =O .ov:=.ld
theorem NT{D:U}{g:TG}{w:TT}{f:TE}{v:@n}{σ:L2.St}{B:Hp}{k:.aq}(R:.nF)(p:.gW)(q:.nH)(r:.gc)(hz:n<=@Q)(step:∀(i:Nat)(L:Hp)(u:.gQ)(A:.aq),i<n->iu B L->.vj->(∀C T,iu L T->p .ov=f'->R (.be T) .ov C->u C T)->(∀h,iu L h->p .ov=ij->A h)->g .ov (.aW v) L λl I=>.mx l v/\w l I λb h=>if b=f' then f l h u else A h)(hd:∀a ys,iu B a->a D=.ji ys->iX (R (.be a)) ((.wD).filter p) ys->k a):∃W:.gY,.gZ/\∀i m H,.ko->((sH 0 n).stop i H/\k H)\/((sH 0 n).go i H/\∃c:.aq,(∀L,c L->.zR)/\∀x L,(sH 0 n).pq i H x L->.sg g x v L l):=by
 have J:(.wD).length=n:=by grind[lj]
 refine ah3 (lo:=0) (.dd .wD) (Made.zero r) (λi H t M=>?_) λH M=>?_;.rw[Int.zero_add];exact step i H _ _ t M.1 (by let#[_,ys,Y,_]:=M;grind) (λC T s Q y=>M.yes q r (VB n i t) s Q y @h) (λh s Q=>M.no q (VB n i t) s Q)
 grind[Made]
theorem OG:.hO (i4 Qn):=.J
theorem ahN(F:.D "changed_numbers" Qn f fd)(T:.az)(Gk:.cD "kept_nodes" 1 .ca (BC t mX) fk aj):@H ac .aG 2 f fd .ca .Bc:=by
 refine .t OG λak A al s H vs Q E c h=>?_;obtain⟨u,xs,B,S,rfl,U,p,k⟩:=h;have M:=og c;refine#[_,iE (iR (lX (te:=i9 2) y OG.nd (kJ (.ra Gk c 0 1)) (.jK ("number",2)) (λ_ _ _ _ _=>.bZ OG.nd y @q) (tt:=tB (nj Rg (nh K (BB (.kP 1) (i9 2)) "value") (nh K (BB (.kP 0) (i9 2)) "value"))) (λ_ _ _ _ _=>rX (.bN (iL (qx M .fj .ad .ai) y) (iL (qx M .aE .ad .ai) y) .aw)) (.kA 2))),?_];refine#[_,y,_,y,u,xs,B,S,y,U,p,λl H1 hl m C=>#[l,y,.jd C,λD L=>oP (λ_ x ae=>ae=x) (uB λn=>! .q .oC) .b9 L (@D C) ?_ (λi x I Ky Kn v g am hy hn=>?_) λI ys g af aa=>?_]];.rw[lj];have a:=U;let#[_,_,_,_,_,_,_,a]:=a;exact .cF (by rw[i0];exact .ju a)
 .ext az;obtain⟨n,ag,rfl⟩:=.M v;let#[rb,rs,e1,e2]:=Xu (kO ag);let#[db,nb,ab,b1,b2,ah,an,pb,b3,_]:=(U.keep (m.trans g)).at.get e1;let#[ds,ns,as,c1,c2,ai,ao,ps,c3,_]:=(p.keep (m.trans g)).at.get e2;refine#[y,_,y,xs,.ar,ds,_,_,y,c1,.as,.bb,kI,_,y,ns,_,y,c2,as,.aQ,ai,_,_,y,c3,.aT,T.nV,yZ,_,y,u,.ar,db,_,_,y,b1,.as,.bb,kI,_,y,nb,_,y,b2,ab,.aQ,ah,_,_,y,b3,.aT,T.nV,yZ,?_,_,y,?_];.unfold valOf;cases .cy rs.prod<;>cases .cy rb.prod<;>rfl
  have ev:∀F r,.fW->valN t F n=.as r:=by grind[valN]
  rw[<-ev S rs e2,<-ev B rb e1];cases hd:.q .oC with
  |true=>exact .pP hn I (! .q .oC)|false=>exact .qf hy I (! .q .oC)
 .rw[uU]at aa;have:=aa.eqs;ext Y;exact k D I (m.free L) (m.trans g) af
theorem zw:jb ["base","tree","places","number","before","now","k"] .ca (i4 Qm):=.J
theorem FX{α β:Type}{f:α->.ei}{l:.aA}{x:α}(h:.kO):(.bY .ah).flatMap f=(.bY i).flatMap f++f x:=by rw[.a2 h,aby];simp
theorem TB(l:.aA)(i:Nat):((.bY i).flatMap f).length<=.mf l.flatMap f:=by grind[Fj]
theorem ahM(F:.D "changed_places" Qm f fd)(T:.az)(M:.bm)(hR:.wE=.ja c)(am:.pO c (-1) 0)(Gk:.L an .an "kept_nodes" 1 .ca (BC t mX) fk aF):@H an .aG 2 f fd .ca (Qx K t):=by
 refine .t zw λaG A aH s H vs Q E hr h=>?_;obtain⟨C,xs,B,S,rfl,hB,hS,ao,af,k⟩:=h;ext am;refine#[_,iy (.ag zw.nd y @q .dJ) (iy (jh (.bN .fj .aE .aw) (iE (.kV (.ml c hR))) jn) (iy (.bo (kJ (.ra Gk hr 0 1)) (.a3 zw.nd y .fH) (iy (.bE zw.nd y .fH (iL (qx hu .aE .ak .ai) y)) (iy (.db zw.nd y .fH (iL (qx hu .fj .ak .ai) y)) (iE (jf (.dk (Y (lX (te:=.rD i j 6 1) (tt:=tB (nj Rg (.fm (i9 5) (i9 6)) (.fm (i9 4) (i9 6)))) y zw.nd (.ll .n3) (.jK ("k",6)) (λ_ _ _ _ _=>jK (i:=6) zw.nd y @q) (λ_ _ _ _ _=>rX (.bN (.ax .cq .dM .ai) (.ax .cN .dM .ai) .aw)) (.lE (.bK .dM iY))) iw))))))) .lf)),?_];let#[db,nb,aI,b1,b2]:=id hB;let#[ds,ns,aJ,c1,c2]:=id hS;refine#[.au,λU aa=>?_];have I:.I (.bO .ap):=@t aa;refine#[_,y,xs,.ar,ds,_,_,y,I _ _ c1,.as,T.tR,rR,_,y,C,.ar,db,_,_,y,I _ _ b1,.as,T.tR,rR,y,_,y,?_];have e:.q (@Z (S.root:Int)=.jq B.root)=.q .wF:=.h
 rw[e];cases hc:.q .wF;focus have ac:S.root≠.ls:=.cO hc;refine iQ #[_,y,.n #[y,_,.hS],U,_,_,y,y,iG,@Z,?_];rw[mz];have g:.I (.bO (.k0 c)):=@t aa;have m:qh K (.bO (.k0 c)) U .r5:=#[[c],iG,by rw[il ac];exact .J (am _) .nil];generalize .bO (.k0 c)=HX at g m⊢
 ext D;focus have ac:.wF:=.kd hc;ext L;have g:.I (.bO .ap):=I;have m:qh K (.bO .ap) U .r5:=#[[],iG,by rw[ip ac];ext ae];generalize .bO .ap=HX at g m⊢
 all_goals
  clear I;refine#[_,y,_,y,C,xs,B,S,y,hB.keep g,hS.keep g,λlk H1 aK s1 ag=>?_];have ap:lk≠U:=λq=>by let#[ps,z,_]:=m;grind
  refine#[lk,y,.jd ag,.d0 (a:=lk) (xs:=iK .f0) (λi σ L=>∃v3 v4 v5:.aV,σ=[.ja C,.ja xs,O .lu,v3,v4,v5,e']/\.I/\L lk=.jU (mX B S)/\qh K L U (.r5++((.f0).take i).flatMap (om B S))) #[e',e',e',y,.bC s1,ag,by rw[acx,List.flatMap_nil,t8];exact m.keep s1] (by grind[iD.of]) ?_ ?_]
  .rintro i v σ L hi⟨v3,v4,v5,rfl,r,ah,u⟩;unfold iK at hi;rw[jI]at hi;obtain⟨n,ai,rfl⟩:=.M hi;let#[a,rs,e1,e2]:=Xu (kO ai);let#[aq,ar,ab,g1,g2,au,aj,pb,g3,_,g4,_,g5]:=(hB.keep r).at.get e1;let#[av,aw,as,w1,w2,ax,ay,ps,w3,_,w4,_,w5]:=(hS.keep r).at.get e2;refine#[_,y,C,.ar,aq,_,_,y,g1,.as,.bb,kI,_,y,ar,_,y,g2,ab,.aQ,au,_,_,y,g3,.aT,T.nC,qt,?_];refine#[_,y,xs,.ar,av,_,_,y,w1,.as,.bb,kI,_,y,aw,_,y,w2,as,.aQ,ax,_,_,y,w3,.aT,T.nC,qt,?_];have ae:∃zs,L U=.ji zs:=by let#[ps,z,_]:=u;grind
   let#[zs,ae]:=ae;have aL:=ao n a rs e1 e2;refine#[_,y,.jl ae,_,y,aj,_,y,.jD g4,(a.kids.length:Int),by rw[lj],.t,.t,.uq];rw[yI];refine NT (z0 K .Hw) (uB λk=>! .kB k) ME hD (.ju g5) (λj H2 Ky Kn hj l az hy hn=>?_) λH2 ys l aA ak=>?_
   .have aM:j<.Ba:=.t
    have aB:ox (iK rs.kids) .mn=.jh (rs.kids[j]:Int):=.Bd
    have at2:ox (iK a.kids) .mn=.jh (a.kids[j]:Int):=.Bd
    refine#[y,_,y,_,y,ay,_,_,_,y,y,.mv l w4,aB,_,y,_,y,aj,_,_,_,y,y,.mv l g4,at2,y,_,y,?_];have ed:.nk (rs.kids[j]:Int) (a.kids[j]:Int)=.kB j:=.h
    rw[ed];cases hd:.kB j with
    |true=>exact .pP hn H2 (! .kB j)|false=>refine iQ #[_,y,_,y,_,_,y,y,@Z,λp hp=>hy _ _ (@t hp) (by show(! .kB j)=f';grind) (Wr az hp y)]
   .rw[uU]at ak;have al:=U9 aA ak;have ep:(iK ((kH a.kids.length).filter λk=>! .kB k)).map .Hw=.oE:=by unfold om iK;rw[Mx.wm e1,Mx.wm e2,kQ];rfl
    rw[ep]at al;let#[p1,p2,z1,z2,z3,z4,z5]:=(u.keep l).more al;have aC:.f0[i]? =O n:=ai;have aD:=TB (f:=om B S) .f0 .ah;rw[FX aC,j9]at aD;unfold mq at af;rw[j9]at af;rw[j9]at z4;have aE:∀b o,.cn->b≠U:=.h
    refine#[U,D,_,_,y,y,z1,z2,?_,#[_,_,_,y,λb o q=>?_,?_,?_]];.rw[i0,i0,z4,z5];exact .jL 100000
    .rw[iC (aE b o q)];exact .pd l r q
    .rw[iC ap];exact l _ _ ah
    grind[FX]
  .rintro σ L⟨v3,v4,v5,rfl,r,ah,u⟩;rw[lj,pB]at u;exact#[_,y,k U L aa r u]
def alh(R:Hp->β->V->.n)(p:β->Bool)(D:U)(B:Hp)(r:.ei)(i:Nat)(H:Hp):.n:=iu B H/\∃ys,.q6/\iX (R .lb) ((.b2 i).filter p) ys
theorem zo{β:Type}{a D:U}{zs:.ei}{g:TG}{w:TT}{q:TE}{c:@n}{σ:L2.St}{B:Hp}{t:.aq}(R:Hp->β->V->.n)(p:β->Bool)(ac:.nH)(r:.gc)(hl:.s2)(aa:.ag=zs.length)(hz:zs.length<=@Q)(step:∀(i:Nat)(x:V)(z:β)(L:Hp)(u:.gQ)(A:.aq),.fv->zs[i]? =O z->iu B L->.vj->(∀C T,iu L T->p z=f'->R (.be T) z C->u C T)->(∀h,iu L h->p z=ij->A h)->.f0 λl I=>.mx l c/\w l I λb h=>if b=f' then q l h u else A h)(hd:∀f ys,iu B f->f D=.ji ys->iX (R (.be f)) (zs.filter p) ys->t f):∃W:.gY,.gZ/\.FZ:=by
 refine OX (alh R p D B zs) #[@t r,[],iG,.nil] .F0 (λi x H hx M=>?_) λH M=>?_
 .let#[y,ys,J,Y]:=M;have ab:i<zs.length:=.h
  have v:=mP ab;refine step i x zs[i] H _ _ hx v y #[ys,J] (λC T s Q hR=>#[ys,.ae J,?_,.cx,ys++[C],iG,?_]) λh s Q=>#[y.trans s,ys,.ae J,?_];.rw[<-Y.len];grind
  .rw[.mc e r];exact .ae (y _ _ e)
  .rw[Pw,GA p v,ip Q];exact(Y.imp .vi).snoc hR
  .rw[GA p v,.jw Q,t8];exact Y.imp .vi
 .rw[aa]at M;let#[y,ys,J,Y]:=M;grind
abbrev Pd:i5:=top 119
abbrev Of:i5:=top 115
def vp(B S:@H)(n:Nat):@n:=.hN λ_=>n
def o8(t:Tc)(B S:@H):@n:=oW B S++(.r7++.r8)
def isRoot(z:.af):.ab:=.q (z=[-1,0])
theorem VF(B S:@H):((.jF).filter .wG).map (λz=>@Z .oF)=iK .r8:=by
 have D:∀n:Nat,(.oE).filter .wG=.oE:=by grind[List.filter_eq_self,om,isRoot]
 have M:(.r5:.bv).filter .wG=[]:=by
  split;.rfl
  .rfl
 unfold mq;rw[RK,M,KH];induction .f0 with
 |nil=>rfl|cons n l I=>rw[uM,RK,mR,I,D,uM];unfold iK;rw[mR];congr 1;unfold om vp;simp
def Xb(B S:@H):∀z∈.jF,∃a b:Int,z=[a,b]:=by grind[mq,om]
def WI(t:Tc):Sp:=λg H Q _=>∃(u xs:U)(B S:Flat),.wB/\.cE u B/\.r6/\wB B S/\.Bb/\∀l L,.dc->.I->L l=.jU (o8 t B S)->.ez
theorem Hr(a b:@n):iK a++iK b=iK (a++b):=.ld
theorem Dz:jb ["base","tree","worked","number","place"] .ca (i4 Pd):=.J
theorem NV{xs:U}{S:@H}(v:.r6)(I:.cE u B):∃g k as,H xs=.Hx/\H k=O .oG/\.ey S.recs/\S.recs.length<=4000/\∀l,∀m,m=@z k (.iT l .oG)->sj t m u B/\m xs=.Hx/\m k=O (.iT l .oG)/\(∀L,iu m L->.I (.pm L k (.bg S.recs)))/\.Hy:=by let#[g,k,as,D,M,r,a,T]:=id v;refine#[g,k,as,D,M,r,T,λl m e=>?_];subst e;refine#[I.at.lock M,.Z,iG,.n9,λb c=>?_];grind[iG,iC]
theorem afR(F:.D "worked_on" Pd f fd)(T:.az)(hR:.wE=.ja m)(ao:.pO m (-1) 0)(Gn:.L af .an "changed_numbers" 2 .ca .Bc fn aE)(Gp:.L af .an "changed_places" 2 .ca (Qx K t) fp aF):@H af .aG 3 f fd .ca (WI t):=by
 refine .t Dz λaG A aH s H vs Q E c h=>?_;obtain⟨u,xs,B,S,rfl,I,r,ap,ag,k⟩:=h;refine#[_,iy (xU (.ew (te:=i9 3) (tt:=.k1 0) y Dz.nd y y .z (zy .fj) .jy (λ_ _ _ _ _=>.a3 Dz.nd y @q) (.kG (AV (og c) .ak .aE)) (.kA 3))) (iy (jf (.dk (Y (.ra Gn c 0 1) iw))) (iy (jf (.dk (Y (lX (te:=nj (aae K) (i9 4) (tC .fg)) (tt:=tB (nj (aad K) (i9 4) (tC (@h m)))) y Dz.nd (kJ (.ra Gp c 0 1)) (.jK ("place",4)) (λ_ _ _ _ _=>.ev Dz.nd y @q) (λ_ _ _ _ _=>rX (ju (ZF c.units) .cN (.ml m hR) .aw)) (λ_ _ _ _ _=>jG zJ .cN iY .ai)) iw))) .lf)),?_];let#[dt,U,as,h1,h2,C,h5,hk]:=NV r I;refine#[U,_,h2,.dE,λod=>?_];let#[lB,l1,g,ah,nw]:=hk od _ y;generalize .bO (.iT od .oG)=Hl at lB l1 g ah nw⊢;refine .sp xs dt l1 od #[_,g,λD hD=>Bk (λ_ x aa=>aa=x) (uB λn=>! .hV) .b9 hD g (.m3 C h5) (λi x H' Ky Kn v sm aq hy hn=>?_) λHf ys sf ar hA=>?_];.rw[rV C]at v;ext az;obtain⟨n,aI,rfl⟩:=.M v;let#[au,av,o,g1,g2,g3]:=(lB.keep sm).has n;refine .sf u au g1 av g2;rw[g3];cases hh:.hV with
  |false=>exact .qf hy H' (! .hV)|true=>exact .pP hn H' (! .hV)
 .rw[rV C,uU]at hA;have:=hA.eqs;ext Y;let#[ab,aw]:=nw D hD;refine#[sf _ _ g,?_];have M:=ah Hf sf;have ac:upd Hf U .oG D=.jU (oW B S):=.ma aw ar
  generalize upd Hf U .oG=H0 at M ac⊢;refine#[_,y,.jl ac,_,y,_,y,u,xs,B,S,y,I.keep M,.bh M,λax H1 aJ s1 ay=>?_];have aK:(oW B S).length<=4000:=.cF .q;have aL:.Be<=4000:=.ob I z
  have aM:.wH<=4000:=.cF (.cF .q);refine#[D,ax,_,_,y,y,s1 _ _ ac,ay,by rw[lj,lj];exact .jL 8000,?_];rw[Hr];have l:.I (.pa H1 D (iK .Bf)):=.rg e ab s1 M
  have ae:.bL D (@E (iK (oW B S++.r7))) D=.jU .Bf:=iG;generalize .pa H1 D (iK .Bf)=H2 at l ae⊢;refine#[_,y,.jl ae,_,y,_,y,u,xs,B,S,y,I.keep l,.bh l,ap,ag,λlp H3 aN s3 az=>?_];obtain⟨ps,ai,aj⟩:=az;refine#[lp,y,.jd ai,λD2 aA=>zo (zs:=.jF) (λ_ z aa=>aa=.h .oF) .wG .b9 aA (@D ai) (.kk aj.len) (.ju ag) (λi x z H' Ky Kn v aB sm aq hy hn=>?_) λaO aP ak al aC=>?_]
  .rw[jI]at v;obtain⟨p,hp,rfl⟩:=.M v;let#[z',am,aD]:=aj.get i p hp;rw[aB]at am;cases am;obtain⟨a,L,rfl⟩:=Xb B S z .q;have an:=EL sm aD;refine#[y,_,y,.nM a L,.nM (-1) 0,@L an (.ld (.h _)),@L (ao _) (.ld (.h _)),y,y,_,y,?_];have er:GI (.nM a L) (.nM (-1) 0)=isRoot [a,L]:=by unfold isRoot;show((a==-1)&&((L==0)&&f'))=_;grind
   rw[er];cases hi:isRoot [a,L]with
   |true=>grind[iu.refl]|false=>exact iQ #[_,y,p,_,_,_,y,y,an,.fP,.wI]
  .have ey:=DM aC;subst ey;rw[VF]at al;have aQ:(.r8).length<=100000:=by grind[VF,lj]
   refine#[D,D2,_,_,y,y,.pd ak s3 ae,al,by rw[lj,lj,j9];exact .jL 108000,_,y,?_];rw[Hr,rP];refine k D _ ab .cx iG;rw[.mc e ab];exact .pd ak s3 (l _ _ e)
def z6(H:Hp)(p:U)(z:.af):.n:=H p=.Bg
def oX(H:Hp)(l:U)(r:.bv):.n:=∃ps:@D,H l=.hu/\iX (z6 H) ps r
def sE(f:β->.af)(H:Hp)(x:β)(C:V):.n:=∃p,C=.e5/\z6 H p (f x)
theorem vZ(H L:Hp)(x:β)(C:V)(s:.I)(h:sE f H x C):sE f L x C:=by let#[p,e,q]:=h;exact#[p,e,.ae q]
theorem Ws:∀{xs:.ei}{ys:.L},iX (sE f H) xs ys->∃ps:@D,ys=.eu/\iX (z6 H) ps (.a4 f)
 |_,_,.nil=>#[[],y,.nil]|_,_,.cons h t=>by obtain⟨p,rfl,q⟩:=h;obtain⟨ps,rfl,r⟩:=Ws t;exact#[p::ps,y,.J q r]
theorem xK{xs:.ei}(r:.q6)(h:iX (sE f .lb) xs ys):oX H D (.a4 f):=by obtain⟨ps,rfl,q⟩:=Ws (h.imp λx C q=>vZ _ _ _ _ (tA D H) q);exact#[ps,r,q]
theorem xO(r:.pp H D ys)(Q:.dZ)(e:a=(f x).map .a6):sE f (.be (.bt (@L a))) x .hG:=by refine#[p,y,?_];let#[ys,r]:=r;show .be (.bt (@L a)) p=_;grind[rD,iG]
theorem oX.keep(h:oX H l r)(s:.I):oX L l r:=by let#[ps,D,M]:=h;exact#[ps,.ff,M.imp λa b q=>.ae q]
theorem oX.more{ys:.bv}(h:oX H l r)(k:oX H m ys):∃ps qs:@D,H l=.hu/\H m=.hz/\oX .Hv l (r++ys)/\.bh=.ek/\.d6=.e3:=by ext cI;show @z l _ a=_;rw[iC (mI q D @I)];exact q
def wZ(H:Hp)(p:U):.af:=match H p with
 |O (.tup g)=>g.map λv=>match v with
  |.int z=>z
  |_=>0
 |_=>[]
theorem Jh{z:.af}(h:z6 H p z):wZ H p=z:=by unfold wZ;rw[show H p=.Bg from h];show(z.map .a6).map _=z;rw[kQ];exact xF z
theorem OY:∀{ps:@D}{r:.bv},iX (z6 H) ps r->ps.map (wZ H)=r
 |_,_,.nil=>y|_,_,.cons h t=>by rw[j6,Jh h,OY t]
theorem DL{P:.g3}:∀{as:.aA}{f:.ei},.i6->∀a∈as,∃b∈f,P a b
 |_,_,.nil,a,h=>.b4|_,_,.cons h t,a,p=>by
  rcases kc.mp p with rfl|p;.grind
  .let#[b,l,q]:=DL t a p;grind
theorem Oj:∀(qs:@D),(∀q∈qs,∃z,z6 H q z)->iX (z6 H) qs (.d1 (wZ H))
 |[],_=>.nil|q::qs,h=>by let#[z,c]:=h q jO;exact .J (by grind[Jh]) (Oj qs .q)
def Ey(B S:@H):@n:=oW S B
def lb(c:Int)(n:Nat):.af:=[c,n,0]
def uD(t:Tc)(B S:@H):.bv:=.wJ++(.Bh++(.Bi++.wK))
def Ag(a b:.af):.n:=Ab (qK a) (qK b)
def Vp(t:Tc):Sp:=λg H Q _=>∃(u xs:U)(B S:Flat),.wB/\.cE u B/\.r6/\wB B S/\.Bb/\∀l L r,.dc->.I->oX L l r->r.Perm .r9->.oH->.ez
def iz(x:V):Int:=match x with
 |.int z=>z|_=>0
theorem tells:(iK l).map (λx=>[c,iz x,0])=@M (lb c):=by unfold iK;rw[kQ];rfl
theorem uV:jb ["base","tree","found","number","place"] .ca (i4 Of):=.J
theorem aeO(F:.D "changes_of" Of f fd)(T:.az)(M:.bm)(Gn:.L aL .an "changed_numbers" 2 .ca .Bc fn bR)(Gp:.L aL .an "changed_places" 2 .ca (Qx K t) fp bS):@H aL .aG 3 f fd .ca (Vp t):=by
 refine .t uV λbT A bU s H vs Q E hr h=>?_;obtain⟨xb,xs,B,S,rfl,hB,hS,bg,aM,k⟩:=h;ext am;refine#[_,iy (.ew (te:=.nb 1 0) y uV.nd y y .z (kJ (.ra Gn hr 0 1)) .jy .Bj .bA .sb) (iy (jf (.dk (Y (.hP uV.nd (kJ (.ra Gp hr 0 1)) .Hz (.n7 (.a3 uV.nd y @q) (rr (.ev uV.nd y @q) zz)) .bA .HA) iw))) (iy (jf (.dk (Y (DV (lX (te:=.nb 3 0) (tt:=.k1 1) y uV.nd (zy .aE) .jy .Bj (.kG (AV hu .ak .fj)) .sb)) iw))) (iy (jf (.dk (Y (DV (lX (te:=.nb 4 0) (tt:=.k1 0) y uV.nd (zy .fj) .jy .Bj (.kG (AV hu .ak .aE)) .sb)) iw))) (.jb (kA (Mv (shape:=wX)) .z (.eI .E) boot_sorted .iP))))),?_];have bh:.Be<=4000:=.ob hB z
 have bi:S.recs.length<=4000:=.ob hS z
 have bj:.wH<=4000:=.cF (.cF .q);have aN:∀A C:@H,C.recs.length<=4000->(oW A C).length<=4000:=λA C h=>.cF .q;refine#[_,y,_,y,xb,xs,B,S,y,hB,hS,λl1 H1 bV s1 aO=>#[l1,y,.jd aO,λD hD=>oP (.pQ 1 x 0) .bF vZ hD (@D aO) (.kH bj) (λi x H2 Ky Kn v s2 ae hy hn=>?_) λH2 ys s2 aP ay=>?_]];.ext bK;exact .jF #[_,y,@Z,λp U=>hy _ _ (@t U) y (xO ae U y)]
 rw[mU]at ay;have an:=xK aP ay;rw[tells]at an;have az:H D=e':=s1.free hD;have aA:=s1.trans s2;clear ay aP;let#[bW,aR,_]:=id an;refine#[_,y,.jl aR,_,y,_,y,xb,xs,B,S,y,hB.keep aA,hS.keep aA,bg,aM,λlp H3 bX s3 bk=>?_];let#[ps,aB,aC]:=bk;refine#[lp,y,.jd aB,λD2 bm=>zo (zs:=.jF) (sE λz=>2::z) .bF vZ bm (@D aB) (.kk aC.len) (.ju aM) (λi x z H' Ky Kn v bn sm ae hy hn=>?_) λH4 bY s4 ak af=>?_];.rw[jI]at v;obtain⟨p,U,rfl⟩:=.M v;let#[z',aS,bo]:=aC.get i p U;rw[bn]at aS;cases aS;obtain⟨x0,x1,rfl⟩:=Xb B S z .q;refine .qx p sm bo
 rw[mU]at af;have aT:=xK ak af;have aD:=.cz s4;let#[p1,p2,w1,w2,w3,w4,w5]:=(an.keep aD).more aT;rw[i0]at w4 w5;refine#[D,D2,_,_,y,y,w1,w2,.pZ w4 w5 104000,?_];have ao:.I .wL:=.rg e az aD aA
 generalize .wL=H5 at w3 ao⊢;clear w1 w2 aT af ak aC aB aD s4 s3 an aR;let#[bp,l,u,bZ,aU,aE,bq,br]:=NV (hB.keep ao) (hS.keep ao);let#[b0,bs,_]:=id w3;refine#[_,y,.jl bs,l,_,aU,.dE,λr=>?_];let#[aV,aW,al,aX,aY]:=br r _ y;have ap:∀I,I=.HB->oX I D .HC:=.qy w3 q aU
 have ap:=ap _ y;generalize .HB=b1 at aV aW al aX aY ap⊢;refine#[_,y,xb,.ar,bp,_,_,y,aW,.as,.bb,kI,l,r,y,.n #[_,al,λD3 aZ=>Bk (.pQ 3 x 0) (uB λn=>!nY S n) vZ aZ al (.m3 aE bq) .HD λaa b2 aq bt a0=>?_]];.rw[rV aE]at v;ext bK;let#[aF,aG,o,g1,g2,g3]:=(aV.keep sm).has n;refine .sf xs aF g1 aG g2;rw[g3];cases hh:nY S n with
  |false=>exact iQ #[_,y,@Z,.qA hy (!nY S n) ae]|true=>exact .pP hn H' (!nY S n)
 rw[rV aE,uU]at a0;have a1:=xK bt a0;rw[tells]at a1;let#[b3,bu]:=aY D3 aZ;let#[ag,ah,bv,bw,bx,a2,a3]:=(ap.keep aq).more a1;simp only[i0,j9]at a2 a3;have a4:D≠l:=.h
 have bz:.wN=upd (.ri aa D ag.map ah.map) l (.dK (iF u B.recs)):=by
  funext b;unfold upd;by_cases q1:b=D;.grind
  ext t
 refine#[aq _ _ al,D,D3,_,_,y,y,.ma a4 bv,.ma bu bw,by rw[i0,i0,a2,a3];exact .lh 108000,?_];have ar:.I .wN:=λb o e=>by rw[.mc e az];exact(aX aa aq) _ _ (ao _ _ e)
 have aH:oX .wN D .Bk:=by
  rw[bz];let#[qs,L,g]:=bx;have au:∀b o,upd aa D (@E .HF) b=O o->(∀d x,o≠.iT d x)->b≠l:=λb o e q z=>by rw[z,.j5 a4,aq _ _ al]at e;grind
  ext cJ;rw[iC (au _ _ q @I)];exact q
 generalize .wN=a5 at ar aH⊢;let#[bA,m,ab,b4,a6,aI,bB,bC]:=NV (hS.keep ar) (hB.keep ar);let#[b5,bD,_]:=id aH;refine#[_,y,.jl bD,m,_,a6,.dE,λr=>?_];let#[a7,a8,am,a9,ba]:=bC r _ y;have av:∀I,I=.HG->oX I D .Bk:=.qy aH q a6
 have av:=av _ y;generalize .HG=b6 at a7 a8 am a9 ba av⊢;refine#[_,y,xs,.ar,bA,_,_,y,a8,.as,.bb,kI,m,r,y,.n #[_,am,λD4 ak=>Bk (.pQ 4 x 0) (uB λn=>! .hV) vZ ak am (.m3 aI bB) .HD λac b7 aw bE af=>?_]];.rw[rV aI]at v;ext bK;let#[aF,aG,o,g1,g2,g3]:=(a7.keep sm).has n;refine .sf xb aF g1 aG g2;rw[g3];cases hh:.hV with
  |false=>exact iQ #[_,y,.jA 3,.qA hy (! .hV) ae]|true=>exact .pP hn H' (! .hV)
 rw[rV aI,uU]at af;have bb:=xK bE af;rw[tells]at bb;let#[b8,bF]:=ba D4 ak;let#[ai,aj,bG,bH,bI,bc,bd]:=(av.keep aw).more bb;simp only[i0,j9]at bc bd;have be:D≠m:=.h
 have bJ:.wO=upd (.ri ac D ai.map aj.map) m (.lm ab):=by
  funext b;unfold upd;by_cases q1:b=D;.grind
  ext t
 refine#[aw _ _ am,D,D4,_,_,y,y,.ma be bG,.ma bF bH,by rw[i0,i0,bc,bd];exact .lh 112000,?_];have aJ:.I .wO:=λb o e=>by rw[.mc e az];exact(a9 ac aw) _ _ (ar _ _ e)
 have bf:oX .wO D (.Bk++.wK):=by
  rw[bJ];let#[qs,L,g]:=bI;have au:∀b o,upd ac D (@E .HH) b=O o->(∀d x,o≠.iT d x)->b≠m:=λb o e q z=>by rw[z,.j5 be,aw _ _ am]at e;cases e;grind
  refine#[qs,.ma (au _ _ L .z6) L,g.imp .n8];show upd _ _ _ a=_;rw[iC (au _ _ q @I)];exact q
 generalize .wO=ax at aJ bf⊢;let#[qs,L,g]:=bf;have bK:=g.len;refine#[_,y,D,qs,λp=>qK (wZ ax p),y,@D L,λp U=>?_,?_,λrs p bL bM aK=>?_]
 .let#[z,c,hq]:=DL g p U;have bN:ax p=.Bg:=hq;have bO:∃a b,z=a::b:=by
   rcases k8.mp c with c|c
   .rcases k8.mp c with c|c
    .rcases k8.mp c with c|c;ext bL
     .obtain⟨n,_,rfl⟩:=@Q c;simp
    ext bL
   ext bL
  obtain⟨a,b,rfl⟩:=bO;exact#[.h a,b.map .a6,.bM bN,by grind[qK,wZ,Jh,MW]]
 .rw[bK];have e3:=aN S B bh;have e4:=aN B S bi;simp only[j9,i0];exact .jL 116000
 .have bP:.dZ:=aJ.free aK;have ez:=OY g;have bQ:=Oj (H:=ax) rs λq hq=>by let#[z,_,c]:=DL g q (bL.mem_iff.mp hq);grind
  refine k p _ (.bP (wZ ax)) bP (aJ.trans (@t aK)) #[rs,iG,bQ.imp λa b q=>@t aK _ _ q] ?_ ?_;.grind[uD,Ey]
  .rw[vL];exact bM
abbrev Ql:i5:=top 128
abbrev Mu:i5:=top 129
abbrev N4:i5:=top 130
abbrev N3:i5:=top 131
abbrev M3:i5:=top 132
abbrev LS:i5:=top 133
def nq[.lv](x C z:α):α:=.pE C x z
def l8[.lv](x C z:α):.ab:=.HI
def Ae(v:V):.n:=v=.iM\/∃z,v=.ds
theorem Ae.two(h:Ae x)(k:Ae C):QT x C=f':=by rcases h with rfl|⟨_,rfl⟩<;>rcases k with rfl|⟨_,rfl⟩<;>rfl
theorem Bb(t:Tc)(r:Rec):Ae (.as r):=by
 unfold valOf;split;.exact .gB
 .exact .n y
theorem ks.lock(h:ks a t G H D B I u g0 g1)(c:G k=e')(T:H k=O .c0):ks a t G (@z k v) D B I u g0 g1:=#[.pV e c h.sub,h.JT,h.JU,.oe h.hx T,.oe h.hs T,.oe h.hg T,h.tb,h.t0,h.t1]
def wg(K:jd)(f:V->V->V->V):Sp:=λg H Q _=>∃(l:U)(x y z:V),.ny/\.aB l [x,y,z]/\Ae x/\Ae y/\Ae z/\Q (f x y z) H
def Oz(v:U)(t:Tc):Sp:=λg H Q _=>∃(D:lW)(G:Hp)(B I u:Flat)(g0 g1:Nat),.oI/\.bu/\∀l,.dc->Q .d0 (@z l (.nf I.root u.root))
def xc(t:Tc)(H:Hp)(l:U)(C r1 r2:Rec):.n:=∃x u a,H l=O (@E [.a2,.fS,.aX])/\.aH H x C/\.aH H u r1/\.aH H a r2
def IV(t:Tc):Sp:=λg H Q _=>∃(l:U)(C r1 r2:Rec),.ny/\.sc/\∀m L,H m=e'->.I->L m=O (@E [.as C,.as r1,.as r2])->Q (@h m) L
def Dy(t:Tc):Sp:=λg H Q _=>∃(l:U)(k:Nat)(C r1 r2:Rec)(p q a:Nat),g=[.cw,.h k]/\.sc/\C.kids[k]? =O p/\r1.kids[k]? =O q/\r2.kids[k]? =O a/\∀m L,H m=e'->.I->L m=O (@E [.h p,.h q,.h a])->Q (@h m) L
def qL(B I u:@H)(n:Nat):.gs:=((.hW).or ((jq I n).or (jq u n)))
def Di(v:U)(t:Tc):Sp:=λg H Q _=>∃(D:lW)(G:Hp)(B I u:Flat)(g0 g1 n:Nat)(p:Rec),g=[.bQ,.cd]/\.bu/\.oK/\∀l L,.dc->.I->xc t L l .sd .wP .wQ->.ez
theorem aiT:jb .ck .ck (i4 Ql):=.cJ
theorem ahI{w:jR}{L:jo}{t:Tc}{f:U}{a:iZ}(F:.D "clash" Ql f a):@H L .aG 1 f a .ck .Bl:=by
 refine .t aiT λD A I s H g Q E M h=>?_;obtain⟨l,x,C,z,rfl,T,v,m,c,k⟩:=h;refine#[_,.jb (ZD .Bm (ZD .Bm (Ee .Bm))),?_];have p:ox [x,C,z] 0=O x:=y;have u:ox [x,C,z] 1=O C:=y;have r:ox [x,C,z] 2=O z:=y;refine#[_,y,l,_,_,_,y,y,T,u,_,y,l,_,_,_,y,y,T,p,m.two v,_,y,?_];have k:.pc Q .HI H:=k;cases B:.q (C=x)with
 |true=>grind|false=>
  rw[B]at k;refine iQ #[_,y,l,_,_,_,y,y,T,r,_,y,l,_,_,_,y,y,T,p,c.two v,_,y,?_];cases q:.q (z=x)with
  |true=>grind|false=>rw[q]at k;exact iQ #[_,y,l,_,_,_,y,y,T,u,_,y,l,_,_,_,y,y,T,r,m.two c,k]
theorem adG:jb .ck .ck (i4 Mu):=.cJ
theorem ac'{w:jR}{p:jo}{t:Tc}{f:U}{a:iZ}(F:.D "merged_one" Mu f a):@H p .aG 1 f a .ck (wg K nq):=by
 refine .t adG .cK;obtain⟨l,x,C,z,rfl,T,v,m,q,k⟩:=h;refine#[_,.jb (NO (ju mH .fc .fc .aw) .fc .fc),?_];have u:ox [x,C,z] 1=O C:=y;refine#[_,y,l,_,_,_,y,y,T,u,_,y,l,_,_,_,y,y,T,y,m.two v,_,y,?_];have k:Q (.pE C x z) H:=k;by_cases B:C=x;.rw[iq B];rw[ip B]at k;exact iQ #[_,y,l,_,_,_,y,y,T,y,k]
 .rw[ir B];rw[il B]at k;exact iU #[_,y,l,_,_,_,y,y,T,u,k]
theorem aiR:jb .bo .bo (i4 N4):=.cJ
theorem ahz(F:.D "roots_of" N4 f a)(T:.az)(p:sv K v):.bG 1 f a .bo (Oz v t):=by refine .t aiR λU A I s H c Q E hr h=>?_;obtain⟨D,G,B,F0,F1,g0,g1,rfl,r,k⟩:=h;refine .jW (jF (Y (iL .cM y) (Y (iL (.ax .cM iY .ai) y) (.k2 (.ax .cM iY .ai)))));let#[g,nb,_,q,_]:=r.tb.keep r.sub;let#[m,n0,_,C,_]:=r.t0.keep r.sub;let#[x,n1,_,M,_]:=r.t1.keep r.sub;exact#[_,y,D.x,v,.bq,_,_,y,r.hx,p.cl,p.nB,y,D.b,.ar,g,_,_,y,q,.as,T.tR,rR,_,y,D.x,v,.bq,_,_,y,r.hx,p.cl,p.nS,y,.bf,_,_,_,y,y,@D r.hs,.fP,D.a0,.ar,m,_,_,y,C,.as,T.tR,rR,_,y,D.x,v,.bq,_,_,y,r.hx,p.cl,p.nS,y,.bf,_,_,_,y,y,@D r.hs,.j4 1,D.a1,.ar,x,_,_,y,M,.as,T.tR,rR,@Z,λl L=>k l L]
theorem PL:jb ["three","node"] .ck (i4 M3):=.J
theorem We{β:Type}{f:β->V}{x C z:β}(h:iX (λr v=>v=f r) [x,C,z] ys):ys=[f x,f C,f z]:=DM h
theorem xc.get(h:.sc):∃ps:@D,H l=.hu/\.bh=3/\∀(i:Nat)p r,.mF i p->[C,r1,r2][i]? =O r->.aH H p r:=by let#[x,u,a,h,w,T,f]:=h;refine#[[x,u,a],h,y,λi p r Q c=>?_];grind
theorem ai6(F:.D "values_of" M3 f a)(T:.az):.fg 1 f a .ck (IV t):=by
 refine .t PL .HJ;obtain⟨l,Y,r1,r2,rfl,m,k⟩:=h;refine .jW (lX (te:=nh K .fV "value") y PL.nd (kJ .ae) (.kW ("node",1)) (λ_ _ _ _ _=>.fe PL.nd y @q) .bA (.kU 1));let#[ps,B,h2,c]:=m.get;refine#[_,y,l,y,.jd B,λD g=>zo (zs:=[Y,r1,r2]) (λ_ r v=>v=.as r) .bF .b9 g (@D B) .q .fd (λi x r H' Ky Kn U u I ae hy hn=>?_) λHf ys sf af C=>?_];.rw[jI]at U;obtain⟨p,L,rfl⟩:=.M U;let#[M,cl,pp,q1,_]:=c i p r L u;exact .jF #[_,y,p,.aQ,M,_,_,y,I _ _ q1,.aT,T.nV,yZ,.wI]
 .rw[mU]at C;have:=We C;grind
theorem NG:jb ["three","k","node"] .sf (i4 LS):=.J
theorem af9(F:.D "children_at" LS f m)(T:.az):@H ab .aG 1 f m .sf (Dy t):=by
 refine .t NG .HK;obtain⟨l,U,u,r1,r2,c0,c1,c2,rfl,I,e0,e1,e2,k⟩:=h;refine .jW (lX (te:=.fm (nh K (i9 2) "children") .fV) y NG.nd (kJ .ae) (.kW ("node",2)) (λ_ _ _ _ _=>.bZ NG.nd y @q) .bA (λ_ _ _ _ _=>.ax (.jg 2) @M .ai));let#[ps,Y,h2,L]:=I.get;refine#[_,y,l,y,#[_,@D Y],λD M=>zo (zs:=[u,r1,r2]) (λ_ r v=>v=.jn (r.kids.getD U 0:Nat)) .bF .b9 M (@D Y) .q .fd (λi x r H' Ky Kn a hz g af hy hn=>?_) λHf ys sf ag C=>?_]
 .rw[jI]at a;obtain⟨p,hp,rfl⟩:=.M a;let#[dn,cl,pp,q1,_,q3,_]:=L i p r hp hz;have B:∃c,r.kids[U]? =O c:=.h
  let#[c,B]:=B;have aa:ox (iK .bj) (U:Int)=O (.jn c):=.Bd
  exact .jF #[_,y,p,.aQ,dn,_,_,y,.b1 q1,.aT,T.nC,qt,_,y,cl,_,_,_,y,y,.mv g q3,aa,.wI]
 .rw[mU]at C;have:=We C;grind
def ym(t:Tc)(H:Hp)(o:.gs)(v:V):.n:=match o with
 |e'=>v=.iM|O r=>∃a,v=.aX/\.aH H a r
theorem ym.keep(h:ym t H o v)(s:.I):ym t L o v:=by
 cases o with
 |none=>exact h|some r=>let#[a,e,q]:=h;exact#[a,e,.bD s]
theorem xM:jb ["trees","number","found","tree","present","node"] .oL (i4 N3):=.J
theorem aeE(F:.D "three_of" N3 f fd)(T:.az)(T3:sv K C3):@H aD .aG 1 f fd .oL .sg:=by
 refine .t xM λaE A aF s H vs Q E hr h=>?_;obtain⟨D,G,B,F0,F1,g0,g1,n,p,rfl,h3,c,k⟩:=h;refine#[_,iy (.ew (te:=Zo (.kP 3) .fV) y xM.nd y y .z (kJ (lu vj (jF .rH) .aE)) (.jK ("tree",3)) (λ_ _ _ _ _=>.a3 xM.nd y @q) .bA (λ_ _ _ _ _=>Xf (og hr) (.jg 3) @M .k4)) (iy (.bE xM.nd y .fH (lX (te:=i9 5) y xM.nd .rf (.jK ("node",5)) .HL (λ_ _ _ _ _=>rX (ju YJ .cq pJ .z)) (.kA 5))) (iE (iR (lX (te:=tIf (tB (nj (λx ac H Q=>ac=.iM/\.gk H) (i9 5) (tC .iM))) (.fm (i9 4) (tC .fg)) (i9 5)) y xM.nd .rf (.jK ("node",5)) .HL .bA (λ_ _ _ _ _=>NO (ju Bv .cq pJ .z) (.ax .cN iY .ai) .cq))))),?_];refine#[_,y,D.x,C3,.bq,_,_,y,h3.hx,T3.cl,T3.nB,y,@Z,λl0 aj=>?_];have ak:=.cC (@t (o:=.wR) aj);refine#[_,y,D.x,C3,.bq,_,_,y,ak.hx,T3.cl,T3.nS,y,l0,.bf,_,_,y,y,iG,ak.hs,@Z,λl1 av=>?_];have ae:=(@t (o:=.wR) aj).trans (@t (o:=.Bp) av);have af:upd (@z l0 .wR) l1 .Bp l1=O (@E [@h D.b,@h D.a0,@h D.a1]):=iG;generalize upd (@z l0 .wR) l1 .Bp=H1 at ae af⊢;have ag:=.cC ae;refine#[l1,y,.jd af,λg al=>zo (zs:=[(D.b,B),(D.a0,F0),(D.a1,F1)]) (λH z v=>ym t H (jq z.2 n) v) .bF (λ_ _ _ _ s q=>.bD s) al (@D af) y .fd .HM λH2 ys s2 ah hA=>?_]
 .have U:x=@h z.1/\j7 t G z.1 z.2:=by
   match i,l,m with
   |0,l,m=>cases l;cases m;exact#[y,h3.tb]|1,l,m=>cases l;cases m;exact#[y,h3.t0]|2,l,m=>cases l;cases m;exact#[y,h3.t1]
  obtain⟨rfl,U⟩:=U;have aa:iu G (cut g L):=λb o e=>by have M:=ag.sub _ _ e;rw[rD (jg M al)];exact I _ _ M
  let#[dt,nd,as,q1,q2,q3,q4,q5]:=id U;have an:=.pd I ag.sub q2;refine .jF #[_,y,z.1,.ar,dt,_,_,y,.pd I ag.sub q1,.as,T.tN,kI,nd,y,.n #[_,.n an],_,y,_,lZ.k (k:=.ec) an,.d2 y ?_];rw[<-Ib];rcases ub (n:Int) q3 with⟨e,q⟩|⟨r,a,e,q,q6,_,q7⟩
  .rw[e];have:z.2.recs.find? (λr=>.hI==.aY)=e':=.h
   rw[this];rfl
  .rw[e,q6];exact#[a,y,q7.keep aa]
 rw[mU]at hA;match ys,hA with
 |[v0,v1,v2],.cons u (.cons C (.cons n2 .nil))=>
 have u:ym t .oM .hW v0:=u;have C:ym t .oM (jq F0 n) v1:=C;have n2:ym t .oM (jq F1 n) v2:=n2;have ao:=ae.trans s2;refine#[_,y,g,y,.jd ah,λD3 aw=>oP (λ_ x ac=>ac=x) (λv=>.kS v) .b9 aw (@D ah) .fd (λi x L Ky Kn l I am hy hn=>?_) λH4 aG s4 aq ax=>?_];.refine#[y,_,y,y,_,y,?_];cases hd:.q (x=V.iM)with
  |true=>grind[iu.refl]|false=>exact iQ #[_,y,.wI]
 have e4:=ax.eqs;subst e4;have ay:∃a,.aH .oM a p/\∃tl,[v0,v1,v2].filter (λv=>.kS v)=.aX::tl:=by
  unfold qL at c;cases hb:.hW with
  |some r=>rw[hb]at c u;cases c;obtain⟨a,rfl,q⟩:=u;grind|none=>
   rw[hb]at c u;have u:v0=.iM:=u;subst u;cases h0:jq F0 n with
   |some r=>rw[h0]at c C;cases c;obtain⟨a,rfl,q⟩:=C;grind|none=>rw[h0]at c C;have C:v1=.iM:=C;subst C;rw[show((e':.gs).or ((e':.gs).or (jq F1 n)))=jq F1 n from y]at c;rw[c]at n2;obtain⟨a,rfl,q⟩:=n2;grind
 let#[ap,az,tl,aA]:=ay;rw[aA]at aq;have ar:=s4 _ _ ah;refine#[_,y,g,y,.jd ar,λD5 ai=>zo (zs:=[(v0,.hW),(v1,jq F0 n),(v2,jq F1 n)]) (λH z v=>∃a,v=.aX/\.aH H a (z.2.getD p)) .bF (λ_ _ _ _ s q=>by let#[a,e,z]:=q;exact#[a,e,z.keep s]) ai (@D ar) y .fd .HM λH6 aB s6 aC au=>?_]
 .have U:x=z.1/\ym t .oM z.2 z.1:=.h
  obtain⟨rfl,U⟩:=U;have aa:iu .oM (cut D5 L):=λb o e=>by have M:=s4 _ _ (tA _ _ _ _ e);rw[rD (jg M ai)];exact I _ _ M
  refine#[y,mY .cA];cases ab:z.2 with
  |none=>rw[ab]at U;rw[show z.1=V.iM from U];exact iQ #[_,y,D3,_,_,_,y,y,.mv I aq,.fP,.d2 y #[ap,y,by rw[ab];exact az.keep aa]]|some r=>rw[ab]at U;let#[a,ea,q]:=U;rw[ea];exact iU #[_,y,.d2 y #[a,y,by rw[ab];exact .bD aa]]
 rw[mU]at au;match aB,au with
 |[u0,u1,u2],.cons #[a0,e0,m0] (.cons #[a1,M,m1] (.cons #[a2,e2,m2] .nil))=>subst e0 M e2;exact k D5 H6 (ao.free (s4.free ai)) (ao.trans (s4.trans s6)) #[a0,a1,a2,aC,m0.keep (tA _ _),m1.keep (tA _ _),m2.keep (tA _ _)]
abbrev LP:i5:=top 134
abbrev LO:i5:=top 135
def wN(C r1 r2:Rec)(k:Nat):Nat:=nq (C.kids.getD k 0) (r1.kids.getD k 0) (r2.kids.getD k 0)
def wI(C r1 r2:Rec):Rec:={C with num:=.HN,kids:=(.wS).map (wN C r1 r2)}
theorem YR{a b c:Nat}:nq (.jq a) (.jq b) (.jq c)=.jn (nq a b c:Nat):=by grind[nq]
theorem ajv(D:r1.prod=C.prod)(M:r2.prod=C.prod):nq (.as C) (.as r1) (.as r2)=.as (wI C r1 r2):=by unfold valOf nq;rw[D,M];show _=if .cy C.prod=f' then @Z .HN else .iM;grind[nq]
structure aar(r0 r1 r2:Rec):Prop where
 p1:r1.prod=r0.prod
 p2:r2.prod=r0.prod
 l1:r1.kids.length=r0.kids.length
 l2:r2.kids.length=r0.kids.length
def Yn(t:Tc):Sp:=λg H Q _=>∃(l:U)(C r1 r2:Rec),.ny/\.sc/\aar C r1 r2/\∀x L,H x=e'->.I->.aH .dl x (wI C r1 r2)->.kh
def aak(C r1 r2:Rec)(x:V):V:=match x with
 |.int z=>.h (wN C r1 r2 z.toNat:Nat)|_=>.iM
theorem OF:jb ["three","children","k"] .ck (i4 LP):=.J
theorem xc.keep(h:.sc)(s:.I):xc t L l C r1 r2:=by let#[x,u,a,h,w,T,p]:=h;exact#[x,u,a,.ae h,w.keep s,T.keep s,p.keep s]
theorem getD_some{l:@n}{k:Nat}(h:k<.ac):l[k]? =O (l.getD k 0):=.h
theorem ahF(F:.D "merged_node" LP f fd)(T:.az)(M:.bm)(Go:.al "merged_one" 1 .ck (wg K nq) fo af)(Gk:.al "children_at" 1 .sf (Dy t) fk ag)(Gv:.al "values_of" 1 .ck (IV t) fv ah)(RN:.m9 u 3):.bG 3 f fd .ck (Yn t):=by
 refine .t OF .Hc;obtain⟨l,C,r1,r2,rfl,r,v,k⟩:=h;have U:.b8:=.aO;refine#[_,iy (ue (i:=1) (te:=rE (wg K nq) [] .g8 (.og (Dy t) (.mY 0 2))) y OF.nd y y .z (.ll (Y (iL .fc y) iw)) (.jK ("k",2)) (λ_ _ _ _ _=>.bZ OF.nd y @q) .bA (λ_ _ _ _ _=>n8 Go U (Y (n8 Gk U .sj) iw))) (.jb (qS RN hr (Y (iL .fc y) (Y (iS Go U iI (Y (iS Gv U iI .ji) iw)) .dI)))),?_];let#[a,a1,a2,hl,n0,n1,n2]:=id r;obtain⟨dn,cl,p,q1,q2,q3,q4,q5⟩:=id n0;have aa:ox [.ap a,@h a1,@h a2] 0=.fz:=y;refine#[_,y,l,_,_,_,y,y,@D hl,aa,a,.aQ,dn,_,_,y,q1,.aT,T.nC,qt,cl,_,y,.jD q3,(C.kids.length:Int),by rw[lj],.t,.t,.uq];rw[yI];refine NT (λ_ x ac=>ac=aak C r1 r2 x) .bF .b9 hD (.ju q5) (λj H2 Ky Kn B g ak hy hn=>?_) λH2 ys g ae ab=>?_;.refine .jF #[_,y,_,y,l,j,C,r1,r2,_,_,_,y,.bh g,.ea B,.ea (.mj v.l1 B),.ea (.mj v.l2 B),λm H3 hm c I=>#[m,_,_,_,y,@D I,@n .br,@n .br,@n .br,?_]];rw[YR];exact hy _ H3 c y y
 rw[mU]at ab;have ey:=DM ab;have ek:(iK .wS).map (aak C r1 r2)=iK (wI C r1 r2).kids:=by unfold iK wI;rw[kQ,kQ];rfl
 rw[ek]at ey;subst ey;refine#[_,y,l,_,_,_,y,y,.mv g hl,aa,a,.aQ,dn,_,_,y,.b1 q1,.aT,T.nP,vX,_,y,l,C,r1,r2,y,.bh g,λm H3 hm c I=>#[m,_,_,_,y,@D I,Bb t _,Bb t _,Bb t _,?_]];rw[ajv v.p1 v.p2];refine#[_,y,y,λx dx H4 nx al s4 hx=>?_];have L:=.bC c;refine k x H4 (L.free nx) (.dP s4) #[dx,D,p,?_,q2,?_,q4,?_];.rw[lh (L.free nx)];exact hx
 .rw[lh hD];exact .pd s4 c ae
 .show((.wS).map _).length<=4000;grind
inductive qD(mr:Nat->Option Rec):List Nat->List Nat->List Nat->Nat->Prop
 |done{K:List Nat}:qD mr K [] K 0
 |skip{K st o:List Nat}{n m:Nat}:n∈K->qD mr K st o m->qD mr K (n::st) o (m+1)
 |go{K st o:List Nat}{n m:Nat}{r:Rec}:n∉K->mr n=some r->qD mr (K++[n]) (r.kids++st) o m->qD mr K (n::st) o (m+1)
theorem qD.len{K:@n}(h:.so):.hJ<=m/\K.length<=.sp:=by
 induction h with
 |done=>simp|skip _ _ I=>grind|go _ _ _ I=>grind
def j8(B I u:@H)(n:Nat):.gs:=(.ss).map λp=>wI .sd .wP .wQ
theorem aii(h:.oK):p.id=n:=by
 unfold qL at h;cases l:.hW with
 |some r=>grind[nZ]|none=>
  rw[l]at h;cases a:jq I n with
  |some r=>grind[nZ]|none=>grind[nZ]
theorem OS(h:.f1=O r):.am=n:=by
 obtain⟨p,Q,rfl⟩:=.M h;show(.sd).id=n;cases l:.hW with
 |some r=>exact nZ l|none=>exact aii Q
def JA(B I u:@H):.n:=∀n p,.oK->aar .sd .wP .wQ
def ml(B I u:@H):Nat:=nq .ls I.root u.root
def Ym(v:U)(t:Tc):Sp:=λg H Q _=>∃(D:lW)(G:Hp)(B I u:Flat)(g0 g1 m:Nat)(o:@n),.oI/\.bu/\JA B I u/\qD (j8 B I u) [] [.eQ] o m/\m<=100000/\.sp<=4000/\.st/\.jG/\∀x L,.I->j7 t .dl x #[.eQ,.oN]->.kh
theorem Bd:jb ["trees","root","nodes","waiting","number","child"] .bo (i4 LO):=.J
theorem ahE(F:.D "merged_tree" LO f fd)(T:.az)(M:.bm)(Go:.cD "merged_one" 1 .ck (wg K nq) fo a5)(Gr:.cD "roots_of" 1 .bo (Oz C3 t) fr a6)(Gt:.cD "three_of" 1 .oL .sg ft a7)(Gn:.cD "merged_node" 3 .ck (Yn t) fn a8)(RT:.na ac 2):@H ac .aG 4 f fd .bo (Ym C3 t):=by
 refine .t Bd λa9 A ba s H vs Q E hr h=>?_;obtain⟨D,G,B,F0,F1,g0,g1,m0,o,rfl,h3,aF,ar,aG,bb,bc,bd,k⟩:=h;ext am;have al:.b8:=.aO;have aH:.i3:=.aO;refine#[_,iy (.aK Bd.nd y @q (.py Go al (.pe Gr al 0))) (iy (.ag Bd.nd y @q DE) (iy (.aL Bd.nd y @q (jF .dI)) (iy (.bv (xP .ak .cY) (iy (.bE Bd.nd y @q (PX lE Ry Rw P0 .ak)) (iE (jh (tF (AV hu .cN .ad)) (iy (zx hu .ad .cN (.py Gn hr (.ra Gt al 0 4)) y) (iE (.bo (Td .z .bn (.k2 (qx hu .ad .cN .ai))) (.dJ Bd.nd y @q) (.jx (.ch .ak (.js 5)))))) jn)))) (.pv RT aH (.mb 1 2))))),?_];refine#[_,y,D,G,B,F0,F1,g0,g1,y,h3,λlr aI=>#[lr,_,_,_,y,.hS,.gB,.gB,.gB,?_]];rw[YR];have sR:=@t (o:=.nf F0.root F1.root) aI;generalize @z lr (.nf F0.root F1.root)=HR at sR⊢;show .n6 1 (.jh (ml B F0 F1:Nat));generalize be:ml B F0 F1=rt at ar k⊢;intro g am;refine#[_,y,@Z,λC an=>?_];have ao:.I (.f9 .su):=sR.trans ((@t am).trans (@t an));have ap:.f9 .su g=O .d1:=@t an _ _ iG;have ag:.f9 .su C=O .su:=iG;have aJ:g≠C:=.h
 have au:H g=e':=sR.free am;have av:H C=e':=sR.free ((@t am).free an);generalize .f9 .su=H0 at ao ap ag⊢;let u:=j8 B F0 F1;let W:.cp:=λm σ L=>∃(c st:@n)(as:@D)(v4 v5:.aV),σ=[.ja D.x,.jh rt,.ja g,.ja C,v4,v5]/\qD u c st o m/\m<=100000/\.I/\Ext H0 L/\L g=.jo (iF as .gC)/\L C=.lh/\iX (.mD H0 L) as .gC/\(.gC).map .al=c;refine .jY #[m0,[],[rt],[],e',e',y,ar,aG,ao,.q1,ap,ag,.nil,y];rintro m σ L⟨c,st,as,v4,v5,rfl,aa,hm,sm,xt,aK,ah,hA,aL⟩;refine .ks ah;cases st with
 |nil=>
  ext L;cases aa;refine#[_,y,_,y,y,λx dx H9 nx bf s9 hx=>?_];refine k x H9 (.d4 s9) #[dx,g,as,?_,?_,hA.imp λa b q=>.bD (.nE s9 ao),.h,?_];.rw[lh (sm.free nx)];exact hx
  .rw[lh au];exact s9 _ _ aK
  grind|cons n st=>
  have aM:.lg (n::st):=.z7
  rw[aM];refine iQ #[λσ' H2=>∃m',m'<m/\.cT H2,.q2,?_];have aN:.Gw:=by rw[Kt];unfold iK;simp
  rw[aN]at ah;refine .ou ah C;rw[RD];have aO:∀xs,.I (.pa L C xs):=λxs b o e=>.pf (jg e av) sm e
  have bg:=λxs=>.rh H0 L xs ag;have ai:.aD C (@E .eL) g=.jo (iF as .gC):=.Z
  have ae:.aD C (@E .eL) C=.lh:=iG;have aj:=aO .eL;have ab:iX (.mD H0 (.pa L C .eL)) as .gC:=.h
  have ak:Ext H0 (.pa L C .eL):=xt.trans .rq;generalize .pa L C .eL=H1 at ai ae aj ab ak⊢;have aP:(.Bq).isSome=f'↔n∈c:=by
   rw[XC (F:=#[0,.gC]) ab];unfold pQ;rw[Fz];ext n;.grind
   .intro h;have z:n∈(.gC).map .al:=.h
    obtain⟨r,bh,e⟩:=@Q z;grind
  refine#[_,y,_,y,g,_,y,lZ.k (k:=.ec) ai,_,y,?_];cases aa with
  |@skip _ _ _ _ m aQ aa=>rw[aP.mpr aQ];exact iU #[m,Aq _,c,st,as,_,_,y,aa,.t,aj,ak,ai,ae,ab,aL]|@go _ _ _ _ m r bi aw aa=>
   have aR:(.Bq).isSome=ij:=.h
   rw[aR];obtain⟨p,hp,er⟩:=.M aw;have aS:.Bq=e':=.aW
   refine iQ #[_,y,_,y,D,G,B,F0,F1,g0,g1,n,p,y,.cC aj,hp,λl H2 hl s2 aT=>#[l,_,_,_,y,aT,aF n p hp,λx I hx s3 hN=>?_]];rw[er]at hN;have aU:.am=n:=OS aw;have af:=.eD s3;have aV:=af _ _ ai;have aW:.mf c.filterMap u=.gJ:=.h
   have aX:=aa.len.2;rw[j9,Cf]at aX;refine .rq g n aV (by rw[oB ab,aW];exact .kI 4000);rw[A4 _ aS];have ax:.Br=.gC++[r]:=.aW
   have ay:.bg .gC++[(.d5,.ap x)]=iF (as++[x]) .Br:=by rw[ax];unfold iF;rw[KG ab.len,mR,<-aU];rfl
   rw[ay];have bj:H1 x=e':=s2.free hx;have bk:x≠g:=.h
   have nk:=qu (H:=H0) (H':=I) (x:=.wT) ap y;obtain⟨dn,cl,pp,q1,q2,q3,q4,q5⟩:=id hN;have bm:I cl=.nW:=.df q3;have bn:cl≠g:=.h
   have aY:cl≠C:=λq=>by
    rcases vU q3 with⟨_,z|⟨az,z,z2⟩⟩;.rw[q,.cV ae]at z;cases z
    .rw[q,.cV ae]at z;cases z;cases z2
   have bo:I x=.HO:=.df q1;have aZ:iX (.mD H0 .wU) (as++[x]) .Br:=by rw[nk,ax];exact(.nF ab.imp af).snoc (hN.keep (qG (ak.trans (.de s2))))
   have aA:.ga g=O .wT:=iG;have a0:.ga C=.lh:=.pf (my aJ) af ae
   have aq:.ga cl=.nW:=.Z
   have aB:.ga x=.HO:=.Z
   have aC:.I .wU:=.rg e au af aj
   have aD:Ext H0 .wU:=.m0 ak.trans (.de af);generalize .wU=H7 at aA a0 aq aB aC aD aZ⊢;have a1:lZ H7 g .ou .fh:=.n #[_,.ec,.n aA,y,by
    rw[<-ay];have:∀(l:.aI)(kk:Key)(v:V),jN l kk=e'->jN (l++[(kk,v)]) kk=O v:=λl kk v h=>by
     induction l with
     |nil=>exact qJ y|cons a l ih=>grind[qJ,jN]
    grind];have a2:=aa.len.1;rw[j9]at a2;refine#[_,y,_,y,g,_,y,a1,x,.aQ,dn,_,_,y,aB,.aT,T.nC,qt,cl,_,y,@D aq,Ek (J:=J5 K cl .z8) (n:=r.kids.length) (λi σ H2=>∃v5:.aV,σ=[.ja D.x,.jh rt,.ja g,.ja C,.jh n,v5]/\H2=.pa H7 C .Gx) #[v5,y,?_] (λσ H2 _=>.Gy) ?_ ?_ ?_];.rw[acx,t8];funext b;grind[iG,iC]
   .rintro i σ H2 hi⟨aE,rfl,rfl⟩;ext ba
    refine .Gz;grind[iK]
   .rintro i σ H2 az bp hi⟨aE,rfl,rfl⟩⟨rfl,hy⟩;ext ba
    have h8:=hy (iK .bj) (@D (.ma aY aq));rw[lj]at h8;unfold iK at h8;rw[jI,mP hj]at h8;have h8:.GA=az:=pD h8;subst h8;refine .lA C;.rw[lj,j9,Ck,Fy,Ck];exact .kI 104000
    .rw[mz];congr 2;have a3:.GB:=.h
     rw[.a2 a3,<-rP];unfold iK;simp
   .rintro σ H2⟨aE,rfl,rfl⟩;have a4:.GC:=by grind[Ck]
    rw[a4];have nf:=.rh H0 H7 (iK (.n1).reverse) ag;refine#[m,Aq _,c++[n],.n1,as++[x],_,_,y,aa,.t,.cx,aD.trans .rq,?_,iG,?_,?_];.rw[.mc e av];exact aC _ _ e
    .ext M
    .grind
    grind
abbrev KL:i5:=top 137
abbrev KU:i5:=top 138
abbrev Nh:i5:=top 139
abbrev Lr:i5:=top 136
def xY(M:@H):@n:=(.b2).filter λn=>.wV
def Yk(t:Tc):Sp:=λg H Q _=>∃(x:U)(M:Flat),.iX/\.cE x M/\(M.recs.flatMap .lw).length<=100000/\∀l L,.dc->.I->L l=.jU (xY M)->.ez
def BE(t:Tc)(B I u M:@H):@n:=(.wW).filter λn=>!nY M n
def Zv(v:U)(t:Tc):Sp:=λg H Q _=>∃(D:lW)(G:Hp)(B I u:Flat)(g0 g1:Nat)(x:U)(M:Flat),g=[.bQ,.a2]/\.bu/\.cE x M/\wB B I/\wB B u/\(mq B I).length<=100000/\(mq B u).length<=100000/\(o8 t B I).length<=100000/\(o8 t B u).length<=100000/\∀l L,.dc->.I->L l=.jU (BE t B I u M)->.ez
theorem agC(l:@n):iK l=(@M λn:Nat=>.aY).map .a6:=by unfold iK;simp
theorem agN(l:@n)(n:Nat):(@M λn:Nat=>.aY).count .aY=l.count n:=by
 induction l with
 |nil=>rfl|cons a l I=>grind
theorem jB.upd(h:jB d H L):jB d H (.aD d x):=λb o e l=>by rw[iC l];exact h b o e l
def alD(K:jd):.e4:=λx xs H Q=>∃(a:U)(w:.af)(k:Int),.cv/\xs=[.h k]/\.kz a/\Q (.h .Az) H
theorem DU:jb ["tree","standing","node","number"] .bP (i4 KU):=.J
theorem ahy(F:.D "standing_twice" KU f fd)(T:.az):@H au .aG 1 f fd .bP (Yk t):=by
 refine .t DU λav A aw s H vs Q E hr h=>?_;obtain⟨x,M,rfl,hT,ax,k⟩:=h;refine#[_,iy (.aK DU.nd y .fH (jF .rH)) (iy (xU (.bo (VH .aE) (.bZ DU.nd y @q) (.jx (.f1 @M (.kf 2))))) (iE (iR (DV (lX (te:=i9 3) (tt:=tB (nj (qB λi j=>.j6 (j<i)) (tBM K "list" (alD K) .fV (jW .gm ma)) (tC (.h 1)))) y DU.nd (zy .aE) .jy (λ_ _ _ _ _=>.a3 DU.nd y @q) (λ_ _ _ _ _=>rX (ju tJ (lP lE PySem.F.slot_list_count PySem.F.type_list_count agl @M .nI) iY .aw)) (.kA 3)))))),?_];let#[I,U,as,h1,h2,h3,h4,h5]:=id hT;refine#[_,y,x,.ar,I,_,_,y,h1,.as,T.tR,rR,@Z,λL hL=>?_];have u:.I (@z L .Bs):=@t hL;have aj:@z L .Bs L=.ji (iK [.jH]):=iG;generalize @z L .Bs=B at u aj⊢;have b2:=u _ _ h2;refine .lj b2;have lx:.bI U .f2 x=.pi I (.h .jH) .lu:=.qg u h1 b2
 have ln:.bI U .f2 U=O .f2:=iG;have lL:.bI U .f2 L=.ji (iK [.jH]):=.Z
 have ab:∀b o,.cn->.z5->.bI U .f2 b=O o:=λb o e z=>.pf (mI (u _ _ e) b2 (z _)) u e
 have ac:∀c,jB L (.bI U .f2) c->.I .Bt:=λc q b o e=>by
  by_cases z:b=U;ext ac
  .rw[iC z];exact q b o (.pf z u e) (jg e hL)
 have ae:L≠U:=.h
 generalize .bI U .f2=Hl at lx ln lL ab ac⊢;have ak:∀i,(.g6 .lw).length<=100000:=by grind[Fj]
 refine#[_,y,x,.ar,I,_,_,y,lx,.as,.bb,kI,U,l,_,y,ln,UM (d:=U) (o:=l) (kvs:=.bg .jI) (λi σ c=>∃v2:.aV,σ=[.fh,.ja L,v2,e']/\jB L Hl c/\c L=.jU (.jH::.g6 Rec.kids)) #[e',y,λ_ _ e _=>e,lL] (λi σ c#[_,_,g,_]=>.b1 ln (my ae)) ?_ ?_]
 .rintro i ky v σ c hi⟨v2,rfl,g,aa⟩;obtain⟨a,r,ha,al,rfl,rfl⟩:=zk hi;let#[r2,af,dn,cl,p,q1,g2,q3,g4,g5]:=h3.get i a ha;rw[al]at af;cases af;have am:=ak .ah;have an:(M.recs.take .ah).flatMap .lw=.g6 .lw++.bj:=by grind[RU]
  refine#[_,y,.jl aa,_,y,a,.aQ,dn,_,_,y,.b1 (ab _ _ q1 .rj) .q,.aT,T.nC,qt,L,cl,_,_,y,y,aa,.b1 (ab _ _ q3 .rj) (jg q3 hL),?_,_,y,g.upd,?_];.rw[lj,lj,lH];rw[an,j9]at am;exact .jL 100001
  grind[iG,Hr]
 .rintro σ c⟨v2,rfl,g,aa⟩;rw[oB h3,pB]at aa;refine#[.b1 ln (my ae),?_];have C:=ac c g;have ao:upd c U (.dK (.bg .jI)) L=.HP:=.Z
  generalize .Bt=m at C ao⊢;have c2:=C _ _ h2;refine .lj c2;have mx:.gb x=.pi I (.h .jH) .lu:=.qg C h1 c2
  have mn:.gb U=O .f2:=iG;have mL:.gb L=.HP:=.Z
  have ag:∀c,iu (upd m U .f2) c->iu m .Bt:=.n9
  have nw:∀b,.gb b=e'->m b=e':=.Z
  generalize upd m U .f2=Hm at mx mn mL ag nw⊢;refine .sp x I mx l #[_,mn,λD hD=>Bk (λ_ x ap=>ap=x) (uB λn=>.wV) .b9 hD mn (.m3 h3 h5) (λi x c Ky Kn hx sm ay hy hn=>?_) λHf ys sf aq hA=>?_]
  .rw[rV h3]at hx;ext bb;obtain⟨n,az,rfl⟩:=.fU;have ah:=.bz mL;have ai:=ah;rw[agC]at ai;refine#[y,_,y,.jl ah,_,y,L,_,_,y,y,@D ai,_,_,y,y,_,y,?_];rw[agN];have hd:.q ((1:Int)<((.HQ).count n:Nat))=.wV:=.h
   rw[hd];cases hh:.wV with
   |true=>exact iQ #[_,y,hy _ c .bN hh y]|false=>exact iU (hn c .bN hh)
  .rw[rV h3,uU]at hA;have:=hA.eqs;ext Y;have ar:D≠U:=.h
   exact#[sf _ _ mn,k D _ (C.free (nw D hD)) (C.trans (ag Hf sf)) (.ma ar aq)]
theorem I0:jb ["trees","tree","worked","number"] .eR (i4 Nh):=.J
theorem ajb(F:.D "lost_work" Nh f fd)(T:.az)(a:sv K v)(C:.c8 .an "worked_on" 3 .ca (WI t) fw am):@H ab .aG 4 f fd .eR (Zv v t):=by
 refine .t I0 λan A ao s H vs Q E l h=>?_;obtain⟨D,G,B,I,u,g0,g1,x,M,rfl,r,hM,ac,ae,p0,p1,w0,w1,k⟩:=h;refine#[_,iy (.ag I0.nd y @q (lu vj .HR .HR)) (.jb (lX (te:=i9 3) (tt:=.k1 1) y I0.nd .rf (.hQ .z) (λ_ _ _ _ _=>.a3 I0.nd y @q) (.kG (AV (og l) .ak .i0)) (.kA 3))),?_];refine#[_,y,D.x,v,.bq,_,_,y,r.hx,a.cl,a.nB,y,_,y,D.x,v,.bq,_,_,y,r.hx,a.cl,a.nS,y,.bf,_,_,_,y,y,@D r.hs,.fP,D.b,D.a0,B,I,y,r.tb.keep r.sub,r.t0.keep r.sub,ac,p0,λl0 H0 ap L af=>?_];have U:=.bh L;refine#[_,y,D.x,v,.bq,_,_,y,U.hx,a.cl,a.nB,y,_,y,D.x,v,.bq,_,_,y,U.hx,a.cl,a.nS,y,.bf,_,_,_,y,y,@D U.hs,.j4 1,D.b,D.a1,B,u,y,U.tb.keep U.sub,U.t1.keep U.sub,ae,p1,λl1 H1 aq s1 ag=>?_];refine#[l0,l1,_,_,y,y,s1 _ _ af,ag,by rw[lj,lj];exact .jL 200000,λc ah=>?_];rw[Hr];have g:=.dP (s1.trans (.m2 (iK .wW) ah));have m:.bL c (@E (iK .wW)) c=.jU (o8 t B I++o8 t B u):=iG;generalize .pa H1 c (iK .wW)=H2 at g m⊢;refine#[_,y,c,y,.jd m,λD2 aa=>oP (λ_ x ai=>ai=x) (uB λn=>!nY M n) .b9 aa (@D m) (by rw[lj,j9];exact .jL 200000) (λi x' H' Ky Kn p sm ar hy hn=>?_) λHf ys sf aj hA=>?_];.unfold iK at p;rw[jI]at p;obtain⟨n,au,rfl⟩:=.M p;let#[ak,al,o,g1,g2,g3]:=((hM.at.keep g).keep sm).has n;refine .sf x ak g1 al g2;rw[g3];cases hh:nY M n with
  |false=>exact .qf hy H' (!nY M n)|true=>exact .pP hn H' (!nY M n)
 .rw[uU]at hA;have:=hA.eqs;ext Y;exact k D2 Hf (g.free aa) (.bC sf) aj
def Apart(t:Tc)(G H:Hp)(x:U)(M:@H):.n:=∃J,iu J H/\(∀b q,J b=.jo q->G b=e')/\j7 t J x M
theorem Apart.keep(h:.sv)(s:.I):Apart t G L x M:=by obtain⟨J,D,a,r⟩:=h;exact#[J,D.trans s,a,r]
theorem Apart.un(h:.sv):.cE x M:=by obtain⟨J,D,a,r⟩:=h;exact .bh D
theorem Apart.lock(h:.sv)(r:.bu):∃g k as,H k=.jo (iF as .jI)/\.ey .jI/\.sw<=4000/\∀od,∀m,m=@z k (.pA od as .jI)->ks v t G m D B I u g0 g1/\m x=.pi g (.h .jH) (@h k)/\m k=O (.pA od as .jI)/\(∀L,iu m L->.pU L k .jI)/\.Hy:=by obtain⟨J,c,y,g,k,as,f,p,w,s,C⟩:=h;have A:=c _ _ p;refine#[g,k,as,A,.mJ w.imp c,C,λod m e=>?_];subst e;refine#[r.lock (y _ _ p) A,.qg c f A,iG,.n9,.h9];grind[iG,iC]
def EY(C r1 r2:Rec)(n:Nat):.bv:=((.wS).filter λk=>.qh C.kids.getD k 0).map λ(k:Nat)=>.wA
def uC(B I u:@H)(n:Nat):.bv:=match .ss with
 |e'=>[]|O p=>EY .sd .wP .wQ n
def tI(B I u:@H):.bv:=if .Bu=f' then[[-1,0]]else[]
def tX(B I u M:@H):.bv:=tI B I u++(.b2).flatMap (uC B I u)
def Known(B I u M:@H):.n:=∀n∈.fp .al,∃p,.oK
def ZA(K:jd)(v:U)(t:Tc):Sp:=λg H Q _=>∃(D:lW)(G:Hp)(B I u:Flat)(g0 g1:Nat)(x:U)(M:Flat),g=[.bQ,.a2]/\.bu/\.sv/\JA B I u/\Known B I u M/\(.dM M).length<=100000/\∀l L,.dc->.I->qh K L l (.dM M)->.ez
theorem V8{a b c:Nat}:l8 (.jq a) (.jq b) (.jq c)=l8 a b c:=by grind[l8]
theorem Bt:jb ["trees","tree","places","number","three","k"] .eR (i4 KL):=.J
theorem ajl{P:kS}{w:jR}{K:jd}{mg:.cV}{aa:jo}{t:Tc}{C3:U}{f fc fr ft fk aR:U}{fd av aw ax ay:iZ}(F:.D "clashing_places" KL f fd)(T:.az)(M:.bm)(hR:.wE=.ja aR)(az:.pO aR (-1) 0)(Gc:.bx .an "clash" 1 .ck .HT fc av)(Gr:.bx .an "roots_of" 1 .bo (Oz C3 t) fr aw)(Gt:.bx .an "three_of" 1 .oL .sg ft ax)(Gk:.bx .an "children_at" 1 .sf (Dy t) fk ay):.fg 2 f fd .eR (ZA K C3 t):=by
 refine .t Bt λaW A aX s H vs Q E hr h=>?_;obtain⟨D,G,B,I,C,g0,g1,x,c,rfl,h3,hM,aA,aB,aC,k⟩:=h;refine#[_,iy (.ag Bt.nd y @q .dJ) (iy (jh (kW (iS Gc hr iI (Y (.pe Gr hr 0) iw))) (iE (.kV (.ml aR hR))) jn) (iy (xU (.bo (zy .fj) (.a3 Bt.nd y .fH) (iy (.bE Bt.nd y .fH (.ra Gt hr 0 3)) (iE (jf (.dk (Y (lX (te:=.rD i j 5 1) (tt:=tB (rE .HT [] .g8 (.og (Dy t) (.mY 4 5)))) y Bt.nd (.ll (.k2 (.ax .cN iY .ai))) (.jK ("k",5)) (λ_ _ _ _ _=>.dJ Bt.nd y @q) (.oC hr (n8 Gk hr (.mb 4 5))) (.lE (.bK .cq iY))) iw))))))) .lf)),?_];refine#[.au,λu ah=>?_];have sA:.I (@z u .ap):=@t ah;refine#[_,y,D,G,B,I,C,g0,g1,y,.cC sA,λlr ak=>#[lr,_,_,_,y,.hS,.gB,.gB,.gB,_,y,?_]];rw[V8];have sB:.I .HU:=sA.trans (@t ak);have ab:upd (@z u .ap) lr (.nf I.root C.root) u=O .ap:=by grind[iC,iG]
 generalize .HU=HB at sB ab⊢;cases hc:l8 .ls I.root C.root;focus ext L;have sX:=sB;have hX:qh K HB u (tI B I C):=#[[],ab,by unfold tI;rw[.jw hc];ext ae];revert sX hX;generalize HB=HX;intro sX hX
 ext D;focus
  refine iQ #[_,y,.jl ab,u,_,_,y,y,ab,@Z,?_];have sX:.I .Bv:=.pV e ah sB
  have hX:qh K .Bv u (tI B I C):=#[[aR],iG,by unfold tI;rw[ip hc];exact .J (az _) .nil];generalize .Bv=HX at sX hX⊢
 all_goals
  clear sA sB ak ab;obtain⟨dt,g,as,e2,q3,q5,hk⟩:=(hM.keep sX).lock (.cC sX);refine#[g,_,e2,.dE,λL=>?_];obtain⟨l3,lx,ln,aD,nw⟩:=hk L _ y;have aE:qh K (upd HX g .f3) u (tI B I C):=by
   obtain⟨ps,z1,z2⟩:=hX;refine#[ps,.Z,z2.imp .n8];ext aK;.exact .oa q e2
   .exact .oB q e2
   .exact @n q
  have ae:ks C3 t G (@z g .f3) D B I C g0 g1/\@z g .f3 u=e'/\iu (@z g .f3) (upd HX g .f3)/\@z g .f3 x=.pi dt (.h c.root) (@h g)/\@z g .f3 g=O .f3/\∀H',iu (@z g .f3) H'->.pU H' g c.recs:=by
   obtain⟨al,am,aF,f2,f3,f5,fk⟩:=hM.lock h3;obtain⟨f6,f7,f8,f9,aY⟩:=fk L _ y;have aG:g=am/\dt=al:=by
    have z1:H x=.pi al (.h c.root) (@h am):=.Z
    have z2:=sX _ _ z1;rw[iC (λq=>by rw[q,ln]at lx;cases lx)]at lx;rw[lx]at z2;injection z2 with z2;injection z2 with _ za zb;injection zb with _ zb;injection zb with zb _;grind
   obtain⟨rfl,rfl⟩:=aG;have aH:iF aF c.recs=.bg c.recs:=by have:=sX _ _ f2;grind
   rw[aH]at f6 f7 f8 f9;refine#[f6,?_,.cx,f7,f8,f9];.ext M
   .by_cases q:b=g;.grind
    .rw[iC q];rw[iC q]at e;exact sX _ _ e
  obtain⟨ae,an,ai,aI,af,ao⟩:=ae;generalize @z g .f3=Hh at ae an ai aI af ao;generalize upd HX g .f3=Hl at l3 lx ln aD nw aE ai⊢;refine#[_,y,x,.ar,dt,_,_,y,lx,.as,.bb,kI,g,L,y,.n #[_,ln,aif (d:=g) (o:=L) (kvs:=.bg c.recs) (λi σ H'=>∃v3 v4:.aV,σ=[.ja D.x,.fh,.ja u,v3,v4,e']/\iu Hh H'/\qh K H' u (tI B I C++((.Bz).take i).flatMap (uC B I C))) #[e',e',y,ai,.h] (λi σ H'#[_,_,_,z,_]=>z _ _ af) ?_ ?_]]
  .rintro i ky v σ H' hi⟨v3,v4,rfl,sm,ac⟩;obtain⟨a,r,ha,aZ,rfl,rfl⟩:=zk hi;have aJ:.Bz[i]? =O .am:=.h
   obtain⟨p,hp⟩:=aB .am .q;have tr:=aA .am p hp;refine#[_,y,_,y,D,G,B,I,C,g0,g1,.am,p,y,ae.keep sm,hp,λl H2 hl s2 ap=>?_];have aj:∃zs,H2 u=.ji zs:=by obtain⟨ps,z,_⟩:=ac;exact#[_,.cV z]
   obtain⟨zs,aj⟩:=aj;obtain⟨a0,a1,a2,aK,n0,n1,n2⟩:=id ap;obtain⟨dn,cl,pp,w1,w2,w3,w4,w5⟩:=id n0;generalize aL:.pj B r.id p=r0 at*;generalize aM:.pj I r.id p=r1 at*;generalize aN:.pj C r.id p=r2 at*;refine#[_,y,.jl aj,_,y,l,_,_,_,y,y,@D aK,y,a0,.aQ,dn,_,_,y,w1,.aT,T.nC,qt,cl,_,y,.jD w3,(r0.kids.length:Int),by rw[lj],.t,.t,λDl aO=>?_];rw[yI];refine NT (z0 K .HV) (uB .HW) ME aO (.ju w5) (λj H4 Ky Kn hj s4 aP hy hn=>?_) λH4 ys s4 aQ aq=>?_
   .refine#[y,_,y,_,y,l,j,r0,r1,r2,_,_,_,y,ap.keep s4,.ea hj,.ea (l:=r1.kids) (k:=j) (.mj tr.l1 hj),.ea (l:=r2.kids) (k:=j) (.mj tr.l2 hj),λm H5 hm s5 aS=>#[m,_,_,_,y,@D aS,.gB,.gB,.gB,_,y,?_]];rw[V8];have aT:.pp H5 Dl ys:=by obtain⟨ys,z⟩:=aP;exact#[ys,s5 _ _ z]
    cases hd:.qh r0.kids.getD j 0 with
    |false=>exact iU (hn H5 s5 hd)|true=>exact iQ #[_,y,_,y,_,_,y,y,.jA 2,λq hq=>hy _ _ (s5.trans (@t hq)) hd (Wr aT hq y)]
   .rw[uU]at aq;have ar:=U9 aQ aq;have ep:(iK ((kH r0.kids.length).filter .HW)).map .HV=uC B I C .am:=by unfold uC iK;rw[hp,kQ];show _=EY (.pj B r.id p) (.pj I r.id p) (.pj C r.id p) .am;rw[aL,aM,aN];rfl
    rw[ep]at ar;obtain⟨p1,p2,z1,z2,z3,z4,z5⟩:=(ac.keep (.eD s4)).more ar;have aU:=TB (f:=uC B I C) .Bz .ah;rw[FX aJ,j9]at aU;have au:=aC;unfold tX at au;rw[j9]at au;rw[j9]at z4;refine#[u,Dl,_,_,y,y,z1,z2,?_,#[_,_,y,λb o q=>?_,?_]];.rw[i0,i0,z4,z5];exact .jL 100000
    .rw[.mc q an];exact .pd s4 s2 (sm _ _ q)
    grind[FX]
  .rintro σ H'⟨v3,v4,rfl,sm,ac⟩;rw[oB q3,<-.Av,pB]at ac;refine#[.bz af,#[_,y,k u _ ah (ao H' sm) ?_]];obtain⟨ps,z1,z2⟩:=ac;have aV:=.bz af;refine#[ps,.Z,z2.imp .n8];ext aK;.exact .oa q aV
   .by_cases hq:a=g;.grind
    .exact .kj #[o,.ma hq q]
   .exact @n q
def wG(t:Tc)(B I u:@H)(n:Nat):.ab:=match .ss with
 |e'=>ij|O p=>.HX
def pU(t:Tc)(B I u M:@H):.bv:=((.b2).filter .wX).map (lb 1)++((.dM M).map .lx++((xY M).map (lb 3)++(BE t B I u M).map (lb 4)))
structure Fits(t:Tc)(B F0 F1 M:Flat):Prop where
 JP:JA B F0 F1
 kn:Known B F0 F1 M
 sp0:wB B F0
 sp1:wB B F1
 kl:(M.recs.flatMap Rec.kids).length<=100000
 p0:(mq B F0).length<=100000
 p1:(mq B F1).length<=100000
 w0:(o8 t B F0).length<=100000
 w1:(o8 t B F1).length<=100000
 cl:(pU t B F0 F1 M).length<2000
def Zx(v:U)(t:Tc):Sp:=λg H Q _=>∃(D:lW)(G:Hp)(B I u:Flat)(g0 g1:Nat)(x:U)(M:Flat),g=[.bQ,.a2]/\.bu/\.sv/\.hR M/\∀l L r,.dc->.I->oX L l r->r.Nodup->.HY->.oH->.ez
theorem oX.off(h:oX H l r)(f:H k=O u)(D:∀xs,u≠@E xs)(M:∀xs,u≠@L xs):oX (@z k v) l r:=by let#[ps,L,c]:=h;refine#[ps,.Z,c.imp .n8];have q:H a=_:=q;show @z k v a=_;ext M
theorem air(B I u M:@H):∀z∈.dM M,∃a b:Int,z=[a,b]:=λz c=>by unfold tX at c;grind[tI,uC,EY]
theorem vh:jb ["trees","tree","found","number","place"] .eR (i4 Lr):=.J
theorem aji(F:.D "conflicts_of" Lr f fd)(T:.az)(M:.bm)(Gc:.ck "clash" 1 .ck .Bl fc bd)(Gt:.ck "three_of" 1 .oL .sg ft be)(Gv:.ck "values_of" 1 .ck (IV t) fv bf)(Gp:.ck "clashing_places" 2 .eR (ZA K C3 t) fp bg)(Gs:.ck "standing_twice" 1 .bP (Yk t) fs bh)(Gl:.ck "lost_work" 4 .eR (Zv C3 t) fl bi):@H g .aG 5 f fd .eR (Zx C3 t):=by
 refine .t vh .HZ;obtain⟨Dt,G,B,I,u,g0,g1,x,U,rfl,h3,hM,r,k⟩:=h;have ab:.b8:=.aO;refine#[_,iy (xU (.ew (te:=.nb 1 0) (tt:=tB (rE .Bl [] .g8 (.og (IV t) (jW (rE .sg [] .g8 (.mY 0 3)) ma)))) y vh.nd y y .z (zy .fj) .jy .H0 (.oC ab (n8 Gv ab (Y (n8 Gt ab (.mb 0 3)) iw))) .sb)) (iy (jf (.dk (Y (.hP vh.nd (kJ (iS Gp .aO iI .hr)) .Hz (.n7 (.a3 vh.nd y @q) (rr (.ev vh.nd y @q) zz)) .bA .HA) iw))) (iy (.qB 3 0 (kJ (.pe Gs ab 1))) (iy (.qB 4 0 (kJ (iS Gl hr iI .hr))) (.jb (ai3 y (qp (Nat.add_le_add_left (by decide:10<=64) _) hr.units) (.eI .E) (.eI .E) .ad))))),?_];have aA:=r.cl;unfold pU at aA;simp only[j9,i0]at aA;let#[dt,nd,as,e2,q3,q5,hk]:=hM.lock h3;refine#[nd,_,e2,.dE,λod=>?_];let#[l3,lx,ln,aB,nw]:=hk od _ y;generalize @z nd (.iT od .fk)=Hl at l3 lx ln aB nw⊢;refine#[_,y,x,.ar,dt,_,_,y,lx,.as,.bb,kI,nd,od,y,.n #[_,ln,λD hD=>Bk (.pQ 1 x 0) (uB .wX) vZ hD ln (.m3 q3 q5) .BA λHf ys sf aC hA=>?_]]
 .rw[rV q3]at v;ext az;obtain⟨n,aD,rfl⟩:=.M v;let#[p,c]:=r.kn n .q;refine#[y,_,y,_,y,Dt,G,B,I,u,g0,g1,n,p,y,l3.keep sm,c,λl H2 hl s2 aV=>#[l,_,_,_,y,aV,λm H5 hm s5 aW=>#[m,_,_,_,y,@D aW,Bb _ _,Bb _ _,Bb _ _,_,y,?_]]];have ah:=.eD s5;have aX:.pp H5 D ys:=by let#[ys,z]:=L;exact#[ys,.cx z]
  have en:wG t B I u n=.HX:=by grind[wG]
  rw[<-en];cases hd:wG t B I u n with
  |false=>exact iU (hn H5 ah hd)|true=>exact iQ #[_,y,@Z,λq hq=>hy _ _ (ah.trans (@t hq)) hd (xO aX hq y)]
 rw[rV q3,uU]at hA;have ai:=xK aC hA;rw[tells]at ai;let#[aj,bm]:=nw D hD;refine#[sf _ _ ln,?_];have aa:=aB Hf sf;have ac:oX (upd Hf nd .fk) D _:=ai.off (sf _ _ ln) @I @I;generalize upd Hf nd .fk=H2 at aa ac⊢;clear hA aC ai;let#[bn,aE,_]:=id ac;have aF:(.dM U).length<=100000:=.t
 refine#[_,y,.jl aE,_,y,_,y,Dt,G,B,I,u,g0,g1,x,U,y,.cC aa,hM.keep aa,r.JP,r.kn,aF,λlp H3 bo s3 aY=>?_];let#[ps,ak,al]:=aY;refine#[lp,y,.jd ak,λD2 aZ=>zo (zs:=.dM U) (sE λz=>2::z) .bF vZ aZ (@D ak) (.kk al.len) (.ju aF) (λi x z H' Ky Kn v a0 sm L hy hn=>?_) λH4 bp s4 aG am=>?_];.rw[jI]at v;obtain⟨p,c,rfl⟩:=.M v;let#[z',ae,a1]:=al.get i p c;rw[a0]at ae;cases ae;obtain⟨x0,x1,rfl⟩:=air B I u U z .q;refine .qx p sm a1
 rw[mU]at am;have aH:=xK aG am;have an:=.cz s4;let#[p1,p2,w1,w2,w3,w4,w5]:=(ac.keep an).more aH;simp only[i0]at w4 w5;refine#[D,D2,_,_,y,y,w1,w2,.pZ w4 w5 2000,?_];have af:.I .wL:=.rg e aj an aa
 generalize .wL=H5 at w3 af⊢;clear w1 w2 w4 w5 aH am aG al ak an s4 s3 ac aE aa;let#[bq,aI,_]:=id w3;refine#[_,y,.jl aI,_,y,x,U,y,hM.un.keep af,r.kl,λl6 H6 a2 s6 ao=>#[l6,y,.jd ao,λD6 a3=>oP (.pQ 3 x 0) .bF vZ a3 (@D ao) .H1 .BA λH7 ys s7 aJ ap=>?_]];ext cK
 rw[mU]at ap;have aq:=xK aJ ap;rw[tells]at aq;have ar:=s6.trans s7;let#[aK,aL,aM,aN,au,av,aw]:=(w3.keep ar).more aq;simp only[i0,j9]at av aw;refine#[D,D6,_,_,y,y,aM,aN,.pZ av aw 2000,?_];have ag:.I .H2:=.rg e aj ar af
 generalize .H2=H8 at au ag⊢;clear aM aN av aw aq ap aJ ao a2 ar s7 s6 w3 aI af;let#[br,ae,_]:=id au;refine#[_,y,.jl ae,_,y,_,y,Dt,G,B,I,u,g0,g1,x,U,y,.cC ag,hM.un.keep ag,r.sp0,r.sp1,r.p0,r.p1,r.w0,r.w1,λl9 H9 bs s9 aO=>#[l9,y,.jd aO,λD9 a4=>oP (.pQ 4 x 0) .bF vZ a4 (@D aO) .H1 .BA λaP ys a5 a6 aQ=>?_]];ext cK
 rw[mU]at aQ;have aR:=xK a6 aQ;rw[tells]at aR;have aS:=s9.trans a5;let#[pa,pb,a7,a8,ax,aT,aU]:=(au.keep aS).more aR;simp only[i0,j9]at aT aU;refine#[D,D9,_,_,y,y,a7,a8,.pZ aT aU 2000,?_];have ay:.I .H3:=.rg e aj aS ag
 generalize .H3=Hn at ax ay⊢;have a9:((((.gx).filter .wX).map (lb 1)++(.dM U).map .lx)++(xY U).map (lb 3))++(BE t B I u U).map (lb 4)=.g7 U:=by grind[pU]
 rw[a9]at ax;let#[qs,z1,z2]:=ax;have ez:=OY z2;refine#[_,y,D,qs,wZ Hn,y,@D z1,λp c=>?_,by rw[z2.len];grind,λrs p bt ba bu bb az=>?_];.let#[z,hz,hq]:=DL z2 p c;rw[Jh hq];refine#[.bM hq,.dH];subst q;unfold pU at hz;simp only[k8,jr]at hz;rcases hz with⟨_,_,z⟩|⟨_,_,z⟩|⟨_,_,z⟩|⟨_,_,z⟩<;>cases z
 .have bc:=Oj (H:=Hn) rs (by grind[DL]);refine k p _ (.bP (wZ Hn)) (ay.free az) (ay.trans (@t az)) #[rs,iG,bc.imp λa b q=>@t az _ _ q] ba .f9 (by rw[vL];exact bb);grind
abbrev N9:i5:=top 126
abbrev Mp:i5:=top 127
def js(B I u:@H)(o:@n):@H:=#[.eQ,.oN]
def mergeF(x l:V):.bg:=jx "conflicts" l (jx "tree" x [])
structure Meets(B F0 F1:Flat)(m:Nat)(o:List Nat):Prop where
 dfs:qD (j8 B F0 F1) [] [ml B F0 F1] o m
 hm:m<=100000
 hol:o.length<=4000
 ids:(o.filterMap (j8 B F0 F1)).map Rec.id=o
 nd:o.Nodup
def EC(t:Tc)(B I u M:@H)(r:.bv):.n:=r.Nodup/\.HY/\.oH
structure Zc(Cm:U)(t:Tc)(H H':Hp)(x:U)(M:Flat)(zs:List (List Int))(xt l dx:U):Prop where
 hx:H' x=O (.ins Cm dx (mergeF (.ref xt) (.ref l)))
 ht:j7 t (jt H H') xt M
 hl:oX H' l zs
 nl:H l=e'
structure BK(K:jd)(Cm:U):Prop where
 cl:lS K Cm
 nT:jV K Cm "tree"
 nC:jV K Cm "conflicts"
def DR(s v:U)(t:Tc):Sp:=λg H Q _=>∃(D:lW)(G:Hp)(B I u:Flat)(g0 g1 m:Nat)(o:@n),.oI/\.bu/\.jJ/\.oO/\∀x L r q l a,.I->Zc s t H L x .a3 r q l a->.wZ->.kh
def G'(s:U)(t:Tc):Sp:=λg H Q _=>∃(x:U)(p:Hp)(M:Flat)(r:.bv)(q l a:U),.iX/\Zc s t p H x M r q l a/\(r≠[]->.pY Q (-17) L)/\(r=[]->∃d,.bf M .jH .b2 d/\.pY Q (if(.q (60<.sw)||.q .jn)=f' then-9 else 0) L)
theorem Vs:jb .eR .bo (i4 N9):=.J
theorem ahD(F:.D "merge_of" N9 f fd)(Gt:.L a .an "merged_tree" 4 .bo (Ym v t) ft ae)(Gc:.L a .an "conflicts_of" 5 .eR (Zx v t) fc af)(RM:.dH a .an "Merge" Cm 2 O5):@H a .aG 6 f fd .bo (DR Cm v t):=by
 refine .t Vs λag A ah s H vs Q E c h=>?_;obtain⟨D,G,B,I,u,g0,g1,m,o,rfl,r,M,p,k⟩:=h;refine .md (.aK Vs.nd y @q (iS Gt .hK iI .ji)) (.jZ (qS RM .hK (Y @M (Y (iS Gc c iI (.mb 0 1)) iw))));refine#[_,y,D,G,B,I,u,g0,g1,m,o,y,r,p.JP,M.dfs,M.hm,M.hol,M.ids,M.nd,λx C U L=>?_];have hA:Apart t G C x .a3:=#[jt H C,nH _ _,λb q e=>?_,L];.refine#[_,y,_,y,_,y,D,G,B,I,u,g0,g1,x,.w2,y,.bh U,hA,p,λl H2 zs hl T hL aa ab ac=>#[y,λxm dx H3 nx ai g hx=>?_]];exact k xm H3 zs x l dx (.dI (T.trans g)) #[hx,L.keep (qH (T.trans g)),hL.keep g,U.free hl] #[aa,ab,ac]
 .obtain⟨e1,z|⟨aj,z,z2⟩⟩:=vU e;.exact r.sub.free z
  .have:=.bF z;rw[e1]at this;cases this;cases z2
theorem afE:jb .ly .ly (i4 Mp):=.cJ
theorem aeG(F:.D "refusal_of" Mp f v)(L:BK K a)(M:.bm)(D:.L I .an "is_too_large" 2 .bP (GO t) ft ab):@H I .aG 3 f v .ly (G' a t):=by
 refine .t afE λac A ae s H vs Q E T h=>?_;obtain⟨x,H0,m,r,xt,l,U,rfl,C,kN,kY⟩:=h;refine .md (jh (xP .aE .cY) (.jb (pC M)) jn) (iy (.nt (iS D T iI (Y .aE iw)) (pC M)) (iE (iR iY)));let#[ps,hl,aa]:=C.hl;have c:=aa.len;refine#[_,y,x,a,U,_,_,y,C.hx,L.cl,L.nC,y,_,.n #[_,@D hl,y],?_];cases r with
 |cons z r=>
  cases ps with
  |nil=>cases c
  |cons p ps=>exact iQ (kN (by intro q;cases q) H .bN)
 |nil=>
  cases ps with
  |cons p ps=>cases c
  |nil=>
   let#[d,hd,k]:=kY y;refine iU #[_,y,x,a,U,_,_,y,C.hx,L.cl,L.nT,y,xt,m,d,y,C.ht.keep .gw,hd,λg u=>.cL];cases B:(.q (60<m.recs.length)||.q .jn)with
   |true=>rw[B]at k;exact iQ (k g u)
   |false=>rw[B]at k;exact iU (k g u)
abbrev LK:i5:=top 142
abbrev Qo:i5:=top 143
abbrev QZ:i5:=top 144
abbrev M7:i5:=top 145
abbrev Ml:i5:=top 146
abbrev Lq:i5:=top 147
def Told(H:Hp)(Q:VK)(r:.af):.n:=∀a L,.cT->.I->.cY r->.aU L
def rH(z:Int)(b x u:α):.E α:=if z=2 then O b else if z=0 then O x else if z=1 then O u else e'
def NB(v:U)(t:Tc):Sp:=λg H Q _=>∃(D:lW)(G:Hp)(B I u:Flat)(g0 g1:Nat)(z:Int),g=.lz/\.bu/\∀L,.I->Q (((.BB).map .bZ).getD .iM) L
def Qw:Sp:=λg H Q _=>∃(l:U)(r:.bv),.ny/\oX H l r/\.H4/\.cG r.flatten
def BG(t:Tc)(F:@H):.af:=(.jK).map λc:Nat=>(c:Int)
structure zZ(t:Tc)(H:Hp)(F:Flat):Prop where
 pr:pI t H
 fi:uy t
 tr:∃l d,Mx.Tr F F.root l d/\d<=24/\l.length<=4000
 nm:∀r∈F.recs,r.num.natAbs<10^18
def OB(t:Tc):Sp:=λg H Q _=>∃(x:U)(F:Flat),.iX/\.gq/\zZ t H F/\.cG (BG t F)
def GP(v:U)(t:Tc):Sp:=λg H Q _=>∃(D:lW)(G:Hp)(B I u:Flat)(g0 g1:Nat)(z:Int),g=.lz/\.bu/\(.jL=e'->.jp 13)/\(∀F,.jL=O F->zZ t H F/\.cG (0::BG t F))
def JH(F:@H):.af:=.eB λr=>.hI
def F7(v:U)(t:Tc):Sp:=λg H Q _=>∃(D:lW)(G:Hp)(B I u:Flat)(g0 g1:Nat)(z:Int),g=.lz/\.bu/\(.jL=e'->.jp 13)/\(∀F,.jL=O F->.cG (0::JH F))
def HG(v:U)(t:Tc):Sp:=λg H Q _=>∃(D:lW)(G:Hp)(B I u:Flat)(g0 g1:Nat)(z:Int),g=.lz/\.bu/\((z≠0/\z≠1)->.jp 13)/\(.ow->wB B .jx/\(mq B .jx).length<=100000/\(uD t B .jx).flatten.length<=100000/\∀r:.bv,r.Perm (uD t B .jx)->.oH->.cG (0::r.flatten))
def aat(_:Hp)(x C:V):.n:=∃c:Nat,x=.im/\C=.jn c
def signs(l:@n):.L:=@M λc=>.im
theorem Xh:∀{l:@n}{ys:.L},iX (aat H) (signs l) ys->ys=(@M λc:Nat=>(c:Int)).map .a6
 |[],_,h=>.ge|n::l,_,h=>by
  cases h with
  |cons h q=>
   obtain⟨c,D,rfl⟩:=h;have e:n=c:=.h
   subst e;rw[Xh (l:=l) q];rfl
theorem Uz(h:.bu):(.BB=e'/\.jL=e')\/∃a F,.BB=O a/\.jL=O F/\j7 t G a F:=by
 unfold rH;by_cases M:z=2;.rw[ip M,ip M];exact @n #[_,_,y,y,h.tb]
 .rw[il M,il M];by_cases c:z=0;.rw[ip c,ip c];exact @n #[_,_,y,y,h.t0]
  .rw[il c,il c];by_cases f:z=1;.rw[ip f,ip f];exact @n #[_,_,y,y,h.t1]
   grind
theorem Told.new(h:.cG zs)(s:.I B)(n:B a=e')(e:xs=zs.map .a6):.aU (.pa B a xs):=h a _ (s.free n) (s.trans (@t n)) (by rw[e];exact iG)
theorem zZ.keep(h:zZ t H F)(s:.I)(T:kM K t.g):zZ t L F:=#[h.pr.keep s T,h.fi,h.tr,h.nm]
theorem ahk:jb .eS .eS (i4 LK):=.J
theorem agd(F:.D "tree_called" LK f a)(L:sv K v)(M:.bm):@H ab .aG 1 f a .eS (NB v t):=by
 refine .t ahk .HK;obtain⟨D,G,B,F0,F1,g0,g1,z,rfl,r,k⟩:=h;refine .md (.g8 (.jb .cM) jn) (.jb (NO (ju ua @M (l7 (Y iY .iZ)) .z) (.ax .cM @M .ai) pJ));refine .cA;by_cases T:z=2;.subst T;exact iQ #[_,y,D.x,v,.bq,_,_,y,r.hx,L.cl,L.nB,y,k H .bN]
 have c:.nk z 2=ij:=.h
 rw[c];refine iU #[_,y,@Z,λl g=>.kZ l];have m:.I (.kM l):=@t g;generalize .kM l=u at m⊢;have U:=.bh m;have x:=k u m;unfold rH at x;rw[il T]at x;by_cases p:.ow
 .have C:kE .ds .sx=f':=.H5
  show .H6;rw[C];have I:(((if z=0 then O D.a0 else if z=1 then O D.a1 else e').map .bZ).getD V.iM)=.cn (.ap D.a0) (@h D.a1):=.H5
  rw[I]at x;exact iQ #[_,y,D.x,v,.bq,_,_,y,U.hx,L.cl,L.nS,y,_,y,.bf,_,_,_,y,y,@D U.hs,at2 p,x]
 .have h0:z≠0:=λq=>p (.n q);have h1:z≠1:=λq=>p (@n q);have C:kE .ds .sx=ij:=by show([@Z 0,.h 1].any λaa=>pS aa .ds)=ij;grind[pS]
  show .H6;rw[C];rw[il h0,il h1]at x;exact iU x
theorem QA:jb ["told","row","numbers"] .sy (i4 QZ):=.J
theorem akd{w:jR}{I:jo}{t:Tc}{f:U}{g:iZ}(F:.D "in_one_row" QZ f g):@H I .aG 1 f g .sy Qw:=by
 refine .t QA λae A af s H vs Q E hr h=>?_;obtain⟨l,r,rfl,T,hz,k⟩:=h;refine .md (.aK QA.nd y @q .dJ) (iy (.bo .kW (.bZ QA.nd y @q) (.jx (lP lE rO rN aeW @M .iP))) .zC);let#[ps,m,C]:=T;refine#[.au,λR c=>?_];have u:.I (@z R .ap):=@t c;refine#[_,y,l,y,.jd (u _ _ m),.d0 (a:=l) (xs:=.eu) (λi σ L=>∃q:.aV,σ=[.ja l,O (@h R),q]/\.I/\qd L R (.b2 i).flatten) #[e',y,u,iG] (λi σ L _#[_,_,z,_]=>.mv z m) ?_ ?_]
 .rintro i v σ L x⟨q,rfl,a,M⟩;rw[jI]at x;obtain⟨p,hp,rfl⟩:=.M x;let#[z,aa,ab]:=C.get i p hp;have ac:(.b2 .ah).flatten=(.b2 i).flatten++z:=by rw[.a2 aa,List.flatten_append];simp
  have B:(.b2 .ah).flatten.length<=100000:=by grind[Fj]
  have D:L R=.ji ((r.take i).flatten.map V.int):=M;refine#[_,y,.jl D,_,y,R,p,_,_,y,y,D,.bM (a _ _ ab),?_,_,y,.cx,?_];.rw[ac,j9]at B;rw[i0,i0];exact .ju B
  .rw[.mc e c];exact a _ _ e
  .show .aD R _ R=_;grind[iG]
 .rintro σ L⟨q,rfl,a,M⟩;rw[i0,C.len,pB]at M;exact#[_,y,k R L c a M]
theorem OH:jb ["tree","sign"] .bP (i4 Qo):=.J
theorem ahO(F:.D "bytes_of_form" Qo f B)(T:.az)(M:.bm)(I:.bx .an "form_of" 25 .ch (Ea t 24) ff af):.fg 26 f B .bP (OB t):=by
 refine .t OH .Ae;obtain⟨x,F,rfl,m,p,k⟩:=h;refine#[_,.jZ (lX y OH.nd (aj8 (iS I .aO iI (Y .ae .rH))) (.jK ("sign",1)) (λ_ _ _ _ _=>.fe OH.nd y @q) .bA (λ_ _ _ _ _=>kA aiu .z .bn boot_ord .dI)),?_];let#[dt,nd,as,h1,_]:=id m;let#[l,d,a,hd,hl]:=p.tr;have ai:=A7 p.fi p.nm a 24;refine#[_,y,_,y,x,.ar,dt,_,_,y,h1,.as,T.tR,rR,x,F,.a7,l,d,y,m,p.pr,p.fi,a,hd,p.nm,hl,λH1 g=>#[_,y,λD r=>?_]];have ab:.BC<=@Q:=by unfold signs;rw[i0];exact .jL 160000
 have u:.BC=(.jK).length:=by grind[signs]
 refine QF (J:=Rm (txt .jK)) (n:=.BC) (Made aat .bF D H1 (signs .jK)) (Made.zero r) (λL _=>?_) (λi L U _=>?_) (λi L v aj U Mi ac=>?_) λHf Mf=>?_;.show(txt _).cps.size<=_;rw[u];exact .bV
 .show i<(txt _).cps.size;rw[u]at U;exact U
 .obtain⟨rfl,c,hc,rfl⟩:=ac;have ak:.jK[i]? =O c:=by have:(.jK).toArray[i]? =O c:=hc;grind
  have hx:(signs .jK)[i]? =O .im:=by grind[signs]
  exact .jF #[_,y,_,y,y,Mi.yes .b9 r hx .bN y #[c,y,y] ab]
 .let#[sf,ys,ae,C]:=Mf.all;rw[mU]at C;have:=Xh C;ext Y;exact k D Hf (g.free r) (.bC sf) ae
theorem Um:.hS (i4 M7):=.J
theorem adO(F:.D "tell_form" M7 f fd)(T:.az)(M:.bm)(Gc:.L v .an "tree_called" 1 .eS (NB C3 t) fc ac)(Gb:.L v .an "bytes_of_form" 26 .bP (OB t) fb ae):@H v .aG 27 f fd .eS (GP C3 t):=by
 refine .t Um λaf A ag s H vs Q E x h=>?_;obtain⟨D,G,B,F0,F1,g0,g1,z,rfl,r,kN,kY⟩:=h;refine .md (.ag Um.nd y @q (iS Gc (x.mono @h) iI (.mb 0 1))) (.oD (jF .iZ) (iS Gb x iI (.js 2)));refine#[_,y,_,y,D,G,B,F0,F1,g0,g1,z,y,r,λI L=>.cA];rcases Uz (z:=z) r with⟨C,c⟩|⟨a,F,C,c,hF⟩;.rw[C];exact iQ #[@Z,λp u=>.g9 (kN c) L u y]
 .rw[C];let#[U,k]:=kY F c;refine iU #[@Z,λp u=>?_];have g:=.dP (.eb u);have aa:.az p .cu p=O .cu:=iG;generalize .az p .cu=H2 at g aa⊢;refine#[_,y,a,F,y,.H7,U.keep g T.G,λm H3 hm s3 hA=>#[p,m,_,_,y,y,s3 _ _ aa,hA,?_,λq hq=>k.new (.bC s3) hq y]];let#[l,d,ab,hd,hl]:=U.tr;have ah:=A7 U.fi U.nm ab 24;unfold BG;ext aA
theorem S8:.hS (i4 Ml):=.J
theorem ZH(h:.rh):(.dN).map .vw=(.bP λr=>.hI).map .a6:=by have:=rV h;unfold vu iK at this;ext t
theorem ac7(F:.D "tell_nodes" Ml f v)(T:.az)(M:.bm)(Gc:.L I .an "tree_called" 1 .eS (NB L t) fc aa):@H I .aG 2 f v .eS (F7 L t):=by
 refine .t S8 .HJ;obtain⟨D,G,B,F0,F1,g0,g1,z,rfl,r,kN,kY⟩:=h;refine .md (.ag S8.nd y @q (iS Gc (.e6 @h) iI (.mb 0 1))) (.oD (jF .iZ) (.lF (.jg 2)));refine#[_,y,_,y,D,G,B,F0,F1,g0,g1,z,y,r,λc k=>.cA];rcases Uz (z:=z) r with⟨C,x⟩|⟨a,F,C,x,hF⟩;.rw[C];exact iQ #[@Z,λp U=>.g9 (kN x) k U y]
 .rw[C];refine iU #[@Z,λp U=>?_];have g:=k.trans (.eb U);have l:upd c p .cu p=O .cu:=iG;generalize upd c p .cu=H2 at g l⊢;let#[dt,nd,as,q1,q2,q3,q4,q5]:=.H7;refine#[_,y,a,.ar,dt,_,_,y,q1,.as,.bb,kI,nd,_,y,q2,λm u=>?_];rw[ZH q3];refine#[p,m,_,_,y,y,.m4 l u,iG,?_,λq hq=>(kY F x).new (.bC (@t u)) hq y];ext aA
theorem WW:.hL (i4 Lq):=.J
theorem afV(F:.D "tell_changes" Lq f fd)(T:.az)(a:sv K v)(M:.bm)(Gu:.L c .an "unknown" 1 .hR (zf K v t) fu al)(Gc:.L c .an "changes_of" 3 .ca (Vp t) fc am)(Gr:.L c .an "in_one_row" 1 .sy Qw fr an):@H c .aG 4 f fd .lp (HG v t):=by
 refine .t WW λao A ap s H vs Q E hr h=>?_;obtain⟨D,G,B,I,u,g0,g1,z,rfl,h3,kN,kY⟩:=h;have aa:.b8:=.aO;refine#[_,iy (.ag WW.nd y @q (iS Gu aa iI (.ke (Y .dJ iw)))) (iy (.ha (.kO 2) jn) (.jZ (lu vj .jz (.py Gr aa (iS Gc (.e6 @h) iI (Y .aE (Y (.ax .aE @M .ai) iw))))))),?_];refine#[_,y,_,y,.au,λla ae=>?_];have s0:.I (@z la .ap):=@t ae;refine#[D,G,B,I,u,g0,g1,z,[],la,y,.cC s0,.hS,.au,λH1 s1=>.cA];have ab:=s0.trans s1;by_cases g:.ow
 .have r:.bj z []=0:=.oy
  rw[r];let#[af,ag,aq,k]:=kY g;refine iU #[@Z,λp x=>?_];have C:=ab.trans (.eb x);have ac:.bL p .cu p=O .cu:=iG;generalize .bL p .cu=H2 at C ac⊢;have U:=.cC C;refine#[_,y,D.x,v,.bq,_,_,y,U.hx,a.cl,a.nB,y,_,y,D.x,v,.bq,_,_,y,U.hx,a.cl,a.nS,y,_,y,.bf,_,_,_,y,y,@D U.hs,at2 g,D.b,.cn D.a0 D.a1,B,.cn I u,?_,U.tb.keep U.sub,(U.side z).keep U.sub,af,ag,λl H3 L hl s3 ah ai aj=>?_];.rcases g with rfl|rfl<;>rfl
  have ak:L.flatten.length<=100000:=.h
  refine#[l,L,y,ah,ak,λm H4 hm s4 hA=>#[p,m,_,_,y,y,.pd s4 s3 ac,hA,?_,λq hq=>(k L ai aj).new (C.trans (.cz s4)) hq y]];ext aA
 .have r:.bj z []=-13:=.oy
  rw[r];exact iQ #[_,y,@Z,λp x=>.g9 (kN @h) ab x y]
abbrev Pg:i5:=top 148
abbrev Mm:i5:=top 149
abbrev LL:i5:=top 150
def HH(v:U)(t:Tc):Sp:=λg H Q _=>∃(D:lW)(G:Hp)(B I u:Flat)(g0 g1 m:Nat)(o:@n),.oI/\.bu/\.jJ/\.oO/\∀r,.wZ->.H4/\.cG (0::r.flatten)
def D7(t:Tc)(B I u:@H)(o:@n)(H:Hp)(R:Int->.n)(x:.n):.n:=∀r,.wZ->(r≠[]->R (-17))/\(r=[]->∃d,.bf .a3 .sA .eT d/\(.w3=f'->R (-9))/\(.w3=ij->x))
def F8(v:U)(t:Tc):Sp:=λg H Q _=>∃(D:lW)(G:Hp)(B I u:Flat)(g0 g1 m:Nat)(o:@n),.oI/\.bu/\.jJ/\.oO/\.gc (zZ t H .a3/\.cG (0::BG t .a3))
def FT(v:U)(t:Tc):Sp:=λg H Q _=>∃(D:lW)(G:Hp)(B I u:Flat)(g0 g1 m:Nat)(o:@n),.oI/\.bu/\.jJ/\.oO/\.gc (.cG (0::JH .a3))
theorem ahc:jb .bo .bo (i4 Pg):=.cJ
theorem afW(F:.D "tell_conflicts" Pg f T)(L:BK K a)(Gm:.al "merge_of" 6 .bo (DR a C3 t) fm ac)(Gr:.al "in_one_row" 1 .sy Qw fr ae):.bG 7 f T .bo (HH C3 t):=by refine .t ahc .ze;ext bM;refine#[_,.jZ (lu vj .jz (iS Gr .hK iI (.k2 (.pe Gm c 0)))),?_];refine#[@Z,.fy];have g:.I (.bt .cu):=@t hp;have U:.bt .cu p=O .cu:=iG;generalize .bt .cu=H2 at g U⊢;refine#[_,y,D,G,B,F0,F1,g0,g1,m,o,y,.cC g,hm,hf,λx H3 v xt l dx C I hC=>#[x,a,dx,_,_,y,I.hx,L.cl,L.nC,y,?_]];let#[aa,kk]:=k v hC;refine#[l,v,y,I.hl,aa,λq H4 hq M ab=>#[p,q,_,_,y,y,M _ _ (C _ _ U),ab,?_,λr c=>kk.new (.bC (C.trans M)) c y]];ext aA
theorem Lz:.hT (i4 Mm):=.J
theorem ac8(F:.D "tell_merge" Mm f fd)(T:.az)(TM:BK K v)(Gm:.L C .an "merge_of" 6 .bo (DR v C3 t) fm af)(Gr:.L C .an "refusal_of" 3 .ly (G' v t) fr ag)(Gb:.L C .an "bytes_of_form" 26 .bP (OB t) fb ah):@H C .aG 27 f fd .bo (F8 C3 t):=by
 refine .t Lz .GF;ext bM;refine .md (.aK Lz.nd y @q (iS Gm .hK iI .ji)) (iy (.ag Lz.nd y @q (iS Gr .hK iI .dI)) (.g5 (.jb (lu vj .jz (iS Gb c iI (Y .i0 iw))))));refine#[_,y,D,G,B,F0,F1,g0,g1,m,o,y,h3,hm,hf,λx H3 zs xt l dx s3 I hC=>?_];let#[kN,kY]:=k zs hC;have ak:.H8:=λz _ h U g a ha=>.hb (.cz g) ha y;refine#[_,y,x,H,_,zs,xt,l,dx,y,I,λhz U g=>.BD,λhz=>?_];let#[d,ab,k9,kT]:=kY hz;refine#[d,ab,λU g=>.cA];cases hc:(.q .BE||.q .jn)with
 |true=>exact .w4|false=>let#[u,kk]:=kT hc;refine iU #[@Z,.fy];have L:=(.cz g).trans (.eb hp);have M:=.bC (.eb hp);have aa:upd U p .cu p=O .cu:=iG;generalize upd U p .cu=H5 at L M aa⊢;refine#[_,y,x,v,dx,_,_,y,M _ _ I.hx,TM.cl,TM.nT,y,xt,_,y,(I.ht.keep .gw).keep M,u.keep L T.G,λq H6 hq s6 ac=>#[p,q,_,_,y,y,s6 _ _ aa,ac,?_,λr c=>kk.new (.dP s6) c y]];let#[l',d',ae,hd,hl]:=u.tr;have al:=A7 u.fi u.nm ae 24;unfold BG;ext aA
theorem Lk:.hT (i4 LL):=.J
theorem acP(F:.D "tell_origin" LL f fd)(T:.az)(L:BK K g)(M:.bm)(Gm:.L v .an "merge_of" 6 .bo (DR g C3 t) fm ac)(Gr:.L v .an "refusal_of" 3 .ly (G' g t) fr ae):@H v .aG 7 f fd .bo (FT C3 t):=by
 refine .t Lk .FD;ext bM;refine#[_,iy (.aK Lk.nd y @q (.pe Gm I 0)) (iy (.ag Lk.nd y @q (iS Gr .i2 iI .dI)) (iy (.ha (.kO 2) jn) (.jb (lu vj .jz (.lF (iL .i0 y)))))),?_];refine#[_,y,D,G,B,F0,F1,g0,g1,m,o,y,h3,hm,hf,λx H3 zs xt l dx s3 C hC=>?_];let#[kN,kY]:=k zs hC;have ah:.H8:=λz _ h U c a ha=>.hb (.cz c) ha y;refine#[_,y,x,H,_,zs,xt,l,dx,y,C,λhz U c=>.BD,λhz=>?_];let#[d,ab,k9,kT]:=kY hz;refine#[d,ab,λU c=>.cA];cases hc:(.q .BE||.q .jn)with
 |true=>exact .w4|false=>refine iU #[@Z,.fy];have s2:=(.cz c).trans (.eb hp);have r:=.dF (.eb hp);have u:upd U p .cu p=O .cu:=iG;generalize upd U p .cu=H5 at s2 r u⊢;let#[dt,nd,as,q1,q2,q3,q4,q5]:=(C.ht.keep .gw).keep r;refine#[_,y,x,g,dx,_,_,y,r _ _ C.hx,L.cl,L.nT,y,xt,.ar,dt,_,_,y,q1,.as,.bb,kI,nd,_,y,q2,λm' aa=>?_];rw[ZH q3];refine#[p,m',_,_,y,y,.m4 u aa,iG,?_,λq hq=>(kT hc).new (.eD (@t aa)) hq y];ext aA
abbrev Hy:i5:=.mn 166 0
abbrev M9:i5:=top 172
abbrev M8:i5:=top 173
abbrev Pu:i5:=top 174
abbrev Qp:i5:=top 175
def lY(g q:V):.bg:=.hc q (jx "grammar" g [])
structure vy(K:jd)(Cd:U):Prop where
 cl:lS K Cd
 nG:jV K Cd "grammar"
 nT:jV K Cd "trees"
def Uh(C:U):Sp:=λg H Q _=>∃(x l:U),.iX/\H x=O (.aF l [])/\.aV (@z x (.aF l .H9))
structure Z7(Cd C3:U)(H H':Hp)(d dd:U)(gv:V)(xb x dx sl gl:U):Prop where
 keep:∀b o,H b=O o->b≠d->H' b=O o
 hd:H' d=O (.ins Cd dd (lY gv (.ref x)))
 hx:H' x=O (.ins C3 dx (IS (.ref xb) (.ref sl) (.ref gl)))
 hs:H' sl=O (.lst [.ref xb,.ref xb])
 hg:H' gl=O (.lst [.int 0,.int 0])
 nx:H x=e'
 ns:H sl=e'
 ng:H gl=e'
def OC(C v:U)(t:Tc):Sp:=λg H Q _=>∃(d f u:U)(c M:V)(F:Flat),g=[.aD,.fS]/\.sb H d C f (lY c M)/\.cE u F/\∀a x l h D L,.cT->Z7 C v H L d f c u x l h D->.cY [0,.rk]->.aU L
def Qv(C v:U)(t:Tc)(d f:U)(c:V)(H:Hp)(Q:VK)(F:@H):.n:=∀a u x l M D L,.cT->Z7 C v H L d f c u x l M D->j7 t (cut M (.be .dl)) u F->.cY [0,.rk]->.aU L
def akM(M:@H):.n:=∀r∈M.recs,∀k∈r.kids,k∈.fp .al
def HN(C v:U)(t:Tc):Sp:=λg H Q _=>∃(d x:U)(c:V)(D:lW)(G:Hp)(B I u:Flat)(g0 g1 m:Nat)(o:@n),g=[.aD]/\H d=O (.aF x (lY c .hX))/\.bu/\.jJ/\.oO/\.gc (akM .a3/\Qv C v t d x c H Q (lz .a3))
def GQ(K:jd)(C v:U)(t:Tc):Sp:=λf H Q _=>∃(d x a:U)(c M:V)(B:@n),f=[.aD,.aX]/\.sb H d C x (lY c M)/\.aB a (l4 B)/\.rB/\((c=.iM/\.jp 3)\/∃l g,c=.cw/\(3000<.lA->.jp 1)/\(.lA<=3000->yu t H l/\uy t/\(∀ts,.vR)/\match .d6 (.dL 0)with
 |e'=>.jp 4|O s=>(¬ud t (jl 0 s)->.jp 4)/\(ud t (jl 0 s)->.bw<=60->Qv C v t d x c H Q #[0,jl 0 s])))
structure akN(Cd:U)(G:Gc)(H H':Hp)(d dd r:U)(g:List Mx.jv×List Mx.MProd):Prop where
 keep:∀b o,H b=O o->b≠d->H' b=O o
 hd:H' d=O (.ins Cd dd (lY (.ref r) .iM))
 gr:Qu G (jt H H') r g.1 g.2
 fi:∀p∈g.2,A8 p
def GR(K:jd)(C:U)(G:Gc):Sp:=λf H Q _=>∃(d x a:U)(c M:V)(B:@n),f=[.aD,.aX]/\.sb H d C x (lY c M)/\.aB a (l4 B)/\.rB/\(3000<.lA->.jp 1)/\(.lA<=3000->match .d6 Mx.wC with
 |e'=>.jp 2|O g=>(¬Mx.uH g->.jp 2)/\(Mx.uH g->∀a r L,.cT->akN C G H L d x r g->.cY [0,g.1.length,g.2.length]->.aU L))
theorem ahb:jb .lB .lB (i4 Pf):=.J
theorem afU(F:.hU f a)(t:sv K v):.ba .lB (Nw v):=by
 refine .t ahb λL A I s H g Q E c h=>?_;obtain⟨x,l,b,rfl,B,k⟩:=h;refine .md (.aC @M y) (iy (.aC (jF (Y @M .dI)) y) (iE (.aC (jF (Y iY .iZ)) y)));refine#[_,y,_,y,x,v,l,_,y,B,t.cl,t.nB,@I,?_];refine#[_,y,_,y,@Z,λM p=>?_];have r:M≠x:=.kY
 refine#[_,y,x,v,l,_,y,by rw[.j5 r];exact iG,t.cl,t.nS,.nb,?_];refine#[@Z,λD T=>?_];have m:D≠x:=.kY
 refine#[_,y,x,v,l,_,y,by rw[.j5 m];exact iG,t.cl,t.nG,.iW,?_];refine k M D _ ?_ ?_ (λq o e U=>?_) iG ?_ ?_;.ext M
 .ext M
 .ext M
 .grind[iC,iG]
 .rw[iC m,iG]
theorem aeq:.e7 (i4 Hy):=.cJ
theorem adU(F:.he f a)(m:vy K p):.ba .eC (Uh p):=by refine .t aeq .cK;obtain⟨x,l,rfl,v,k⟩:=h;refine .md (.aC pJ y) (iE (.aC pJ y));refine#[_,y,x,p,l,_,y,v,m.cl,m.nG,@I,?_];refine#[_,y,x,p,l,_,y,iG,m.cl,m.nT,.nb,?_];rw[mz];exact k
theorem aiU:jb .sB .sB (i4 Qp):=.J
theorem ahP(F:.D "begin_with" Qp f fd)(T:.az)(TD:.jN)(M:.bm)(h3:mg "ThreeTrees"=.ja v)(af:Mk K v fi)(Gi:.fh 1 fi ah .lB (Nw v))(bi:.aT ah .lB []):.fh 3 f fd .sB (OC C v t):=by
 refine .t aiU .Ia;obtain⟨d,U,u,c,g,F,rfl,l,hT,k⟩:=h;refine .md (.aC (OL af Gi hr y h3 bi .nil (vr iI y) .dI) y) (.li (Y (.d3 (.eI .E) lN (Y .i0 iw)) iw));refine#[_,y,λx m nx ao ne=>#[x,m,u,y,iG,λr D B ap aq kp hx hs hg=>.iB]];have ai:∀b o,.cn->B b=O o:=.Z
 refine#[_,y,d,C,U,_,y,ai _ _ l,TD.cl,TD.nT,.iW,?_];have I:∀b o,.cn->b≠d->.fq b=O o:=.Z
 have aa:.fq d=O (.aF U (lY c .dP)):=iG;have ab:.fq x=O (.ak v m (IS .fS .nu .mw)):=.Z
 have ac:.fq r=O (@E [.fS,.fS]):=.Z
 have ae:.fq D=O (@E [.fg,.fg]):=.Z
 generalize .bI d .Ib=H2 at I aa ab ac ae⊢;let#[dt,nd,as,L,q2,q3,q4,q5]:=hT;have aj:u≠d\/u=d:=.h
 have ar:u≠d\/.Ic:=aj.elim .inl λq=>by subst q;rw[l]at L;injection L with L;injection L with _ _ L;cases L
 have ak:.Ic:=.h
 refine#[_,y,u,.ar,dt,_,_,y,ak,.as,.bb,kI,nd,_,y,I _ _ q2 (mI q2 l .lr),@Z,λa p=>?_];have al:.cT:=by
  cases q:H a with
  |none=>rfl|some o=>grind
 refine k a x m r D _ al #[λb o e hb=>?_,?_,?_,?_,?_,nx,.Z,.Z] ?_;.exact .fu (I b o e hb)
 .exact .fu aa
 .exact .fu ab
 .exact .fu ac
 .exact .fu ae
 .show upd H2 a _ a=_;grind[iG,oB]
theorem NH:jb ["desk","merge","refusal"] ["desk"] (i4 Pu):=.J
theorem age(F:.D "accept" Pu f fd)(L:.jN)(M:BK K c)(Gm:.al "merge_of" 6 .bo (DR c C3 t) fm ah)(Gr:.al "refusal_of" 3 .ly (G' c t) fr ai)(Gn:.al "renumbered" 3 .bP (Yl t) fn aj)(Gb:.hV ak):.bG 7 f fd ["desk"] (HN C C3 t):=by
 refine .t NH .FB;obtain⟨d,dd,gv,D,G,B,F0,F1,g0,g1,m,o,rfl,g,h3,hm,hf,k⟩:=h;have q:jy 3 _:=.aO;refine .md (.aK NH.nd y @q (iS Gm hr iI (Y .aE iw))) (iy (.ag NH.nd y @q (.pe Gr q 1)) (.g5 (.jb (iS Gb q iI (Y .ae (Y (iS Gn q iI (Y .i0 iw)) iw))))));refine#[_,y,d,C,dd,_,_,y,g,L.cl,L.nT,y,D,G,B,F0,F1,g0,g1,m,o,y,h3,hm,hf,λx H3 zs xt l dx s3 r hC=>?_];let#[kN,kY]:=k zs hC;have an:∀z,z≠0->.di z->∀T,iu H3 T->∀a,T a=e'->.aU (upd T a (.kg z)):=λz _ h T U a v=>.hb (.cz U) v y;refine#[_,y,x,H,_,zs,xt,l,dx,y,r,λhz T U=>.BD,λhz=>?_];let#[dp,ac,k9,kT]:=kY hz;refine#[dp,ac,λT U=>.cA];cases hc:(.q .BE||.q (24<dp))with
 |true=>exact .w4|false=>let#[ae,kk]:=kT hc;have aa:=.cz U;refine iU #[_,y,_,y,x,c,dx,_,_,y,.bF r.hx,M.cl,M.nT,y,xt,_,y,(r.ht.keep .gw).keep U,ae,λab H5 s5 hy=>?_];have p:=aa.trans s5;refine#[d,dd,ab,gv,_,_,y,p _ _ g,.d9 .gw,λa x' af sl gl H6 v I ag=>kk a ab x' af sl gl H6 (p.free v) #[λb o e hb=>I.keep b o (p _ _ e) hb,I.hd,I.hx,I.hs,I.hg,p.free I.nx,p.free I.ns,p.free I.ng] ?_ ag];refine .d9 .cx;ext cL;exact(qG (.de aa)).trans (Hk g y I.keep) _ _ e
theorem Uo:jb ["desk","text","base"] .jO (i4 M8):=.J
theorem adP(F:.D "take_tree" M8 f fd)(T:.az)(m:.jN)(M:.bm)(Er:qy mg u .an)(Gq:.al "read_tree" 7 .rC (GS K t) fq ai)(Gb:.hV aj):.bG 8 f fd .jO (GQ K C C3 t):=by
 refine .t Uo λak A al s H vs Q E q h=>?_;obtain⟨d,x,a,gv,tv,B,rfl,l,r,hl,k⟩:=h;refine#[_,iy .Id (iy (.kN (kA oA .z .wy lN .dI)) (iy (QV Er Hi (tb:=λE'=>zS (rE (GS K t) [] E' (jW .fV (jW (nh K (i9 0) "grammar") (jW (tC .fg) ma)))) (qR 2)) (λ_ _ _ ok=>iE (.ag Uo.nd y @q (iS Gq q ok (Y @M (Y .aE .iZ))))) (λ_=>.kQ .fo)) (.jZ (iS Gb (q.mono @h) iI .sj)))),?_];refine#[_,y,d,C,x,_,_,y,l,m.cl,m.nG,y,y,_,y,?_];rcases k with⟨rfl,k⟩|⟨v,g,rfl,k1,c⟩;.exact iQ #[@Z,λa p=>k.use .bN p]
 .refine iU (.n9 a r);rw[vf];by_cases ab:3000<.lA;.rw[.nJ 3000 B.length];exact iQ #[@Z,λa p=>(k1 ab).use .bN p]
  .rw[.nK 3000 B.length];let#[hG,hF,hn,c]:=c @h;refine iU #[_,y,_,y,d,C,x,_,_,y,l,m.cl,m.nG,y,a,v,B,0,g,y,r,hl,hG,hF,hn,?_];cases D:.d6 (.dL 0)with
   |none=>rw[D]at c;exact λL U σ'=>.Ie|some ms=>rw[D]at c;let#[c3,c4]:=c;refine#[λac ae y0 L U aa=>?_,λaf L U σ'=>#[@Z,λa p=>(c3 af).use U p]];refine#[_,y,_,y,d,x,y0,@h v,tv,_,y,.bF l,aa.keep .gw,λa x' ag sl gl H6 p I ah=>(c4 ac ae) a y0 x' ag sl gl H6 (U.free p) #[λb o e hb=>I.keep b o (.bF e) hb,I.hd,I.hx,I.hs,I.hg,U.free I.nx,U.free I.ns,U.free I.ng] (aa.keep λb o e=>by ext cL;exact Hk l y I.keep _ _ e) ah]
theorem Uq:jb ["desk","text","grammar"] .jO (i4 M9):=.J
theorem adQ{G:Gc}(F:.D "take_grammar" M9 f fd)(T:.dn)(m:.jN)(M:.bm)(Er:qy mg ab G.C)(Gq:.c8 G.C "read_grammar" 193 .iS (Zw K G) fq al):@H ab .dL 194 f fd .jO (GR K C G):=by
 refine .t Uq .Ia;obtain⟨d,x,a,D,L,B,rfl,hd,hL,hl,k1,c⟩:=h;have aa:=.wy;refine#[_,iy (.kN (.mu aa 1)) (iy (.oA Er (.ag Uq.nd y @q (iS Gq hr ok .dI))) (iy (.aC .ad y) (iy (.aC pJ y) (.li (Y (.nH aa 2) (Y (.nH aa 2) iw)))))),?_];refine .n9 a hL;rw[vf];by_cases af:3000<.lA;.rw[.nJ 3000 B.length];exact iQ #[@Z,λa p=>(k1 af).use .bN p]
 .rw[.nK 3000 B.length];have c:=c @h;refine iU #[_,y,a,B,y,hL,hl,?_];cases ac:.d6 Mx.wC with
  |none=>rw[ac]at c;exact λI U σ'=>.Ie|some g=>
   rw[ac]at c;let#[c3,c4]:=c;refine#[λag r I U ah ai=>?_,λaj I U σ'=>#[@Z,λa p=>(c3 aj).use U p]];refine#[_,y,_,y,d,C,x,_,y,.bF hd,m.cl,m.nG,.iW,?_];refine#[_,y,d,C,x,_,y,iG,m.cl,m.nT,.iW,?_];rw[mz];have l:∀b o,I b=O o->b≠d->.az d .BG b=O o:=.Z
   have ae:.az d .BG d=O (.aF x (lY .nu .iM)):=iG;generalize .az d .BG=t at l ae⊢;have u:iu (jt H I) (jt H t):=Hk hd y l;let#[dx,sd,pd,ss,ps,q1,q2,q3,q4,q5]:=id ah;have w1:=.df (u _ _ q1);refine#[_,y,r,G.Cg,dx,_,_,y,w1,T.g,T.gS,acU,sd,_,y,.df (u _ _ q2),_,y,r,G.Cg,dx,_,_,y,w1,T.g,T.gP,RW,pd,_,y,.df (u _ _ q4),@Z,λv p=>?_];have ak:H v=e':=by
    cases q:H v with
    |none=>rfl|some o=>
     by_cases z:v=d;.grind
     .rw[l _ _ (.bF q) z]at p;cases p
   have sn:iu t (upd t v (@E [.fg,.h ((uz ss g.1).length:Nat),.h ((wF ps g.2).length:Nat)])):=@t p;refine(c4 ag) v r _ ak #[λb o e hb=>sn _ _ (l b o (.bF e) hb),sn _ _ ae,?_,ai] ?_;.have k:=u.trans (qH (H:=H) sn);exact#[dx,sd,pd,ss,ps,.a7 q1,.a7 q2,q3.imp (.mO k T),.a7 q4,q5.imp (.mO k T)]
   .show upd t v _ v=_;rw[iG];have e1:(uz ss g.1).length=g.1.length:=by unfold uz;rw[i0,ace,q3.len];omega
    have e2:(wF ps g.2).length=g.2.length:=VM q5.len;grind
abbrev Hz:i5:=top 168
abbrev QJ:i5:=top 169
abbrev N7:i5:=top 170
abbrev LQ:i5:=top 171
def Es(v:U)(t:Tc):Sp:=λg H Q E=>∃(x:U)(call z:Int),g=[.a2,.hY,.ds]/\(.aU=6->GP v t [.a2,.ds] H Q E)/\(.aU=7->F7 v t [.a2,.ds] H Q E)/\(.jG 6->.jG 7->HG v t [.a2,.ds] H Q E)
def JE(C v:U)(t:Tc):Sp:=λg H Q E=>∃(d a x:U)(c:V)(call:Int),g=[.aD,.hY]/\H d=O (.aF a (lY c .dP))/\(.aU=9->HH v t [.a2] H Q E)/\(.aU=10->F8 v t [.a2] H Q E)/\(.aU=11->FT v t [.a2] H Q E)/\(.jG 9->.jG 10->.jG 11->HN C v t [.aD] H Q E)
def IY(K:jd)(C v:U)(t:Tc):Sp:=λg H Q E=>∃(d f l x I tl:U)(call:Int)(w:.af),g=.BH/\H d=O (.aF f (lY .d0 .dP))/\.kz I/\(.aU=2->∃a b,w=[a,b]/\G9 K v t [.a2,.cw,.h a,.h b,@h tl] H Q E)/\(.aU=3->∃a b c,w=[a,b,c]/\HJ v t .Ig H Q E)/\(.aU=4->∃a b c,w=[a,b,c]/\IW v t .Ig H Q E)/\(.aU=5->∃a b,w=[a,b]/\IX v t [.a2,.h a,.h b] H Q E)/\(.jG 2->.jG 3->.jG 4->.jG 5->∃a,w=[a]/\Io v t [.a2,.h a] H Q E)
def Qy(K:jd)(C v:U)(t:Tc):Sp:=λg H Q E=>∃(d a I tl:U)(c M:V)(call:Int)(w:.af),g=.BH/\.sb H d C a (lY c M)/\.kz I/\(.aU=0->GR K C t.g .w5 H Q E)/\(.aU=1->GQ K C v t .w5 H Q E)/\(.jG 0->.jG 1->(M=.iM/\.jp 5)\/∃x l,M=.a2/\c=.cw/\((.aU=6\/.aU=7\/.aU=8)->∃z,w=[z]/\∀L,.I->Es v t [.a2,.hY,.ds] L Q E)/\((.aU=9\/.aU=10\/.aU=11\/.aU=12)->∀L,.I->JE C v t [.aD,.hY] L Q E)/\(.jG 6->.jG 7->.jG 8->.jG 9->.jG 10->.jG 11->.jG 12->∀L,.I->IY K C v t .BH L Q E))
theorem eq_int:.nk x C=.q (x=C):=@E
theorem O3:∀{l:.af},kE (.h x) .rU=.q (x∈l)
 |[]=>y|C::l=>by have I:=O3 (x:=x) (l:=l);grind[pS,kE]
theorem ak2:jb .sC .sC (i4 N7):=.J
theorem ake(F:.D "answer_of_one_tree" N7 f a)(M:.bm)(q:.al "tell_form" 27 .eS (GP v t) r m)(p:.al "tell_nodes" 2 .eS (F7 v t) B C)(k:.al "tell_changes" 4 .lp (HG v t) D I):.bG 28 f a .sC (Es v t):=by
 refine .t ak2 .Fi;obtain⟨x,call,z,rfl,U,g,l⟩:=h;refine .md (.rf M q c .sj) (iy (.g8 (.jZ (iS p .hK iI .sj)) jn) (.jZ (iS k .hK iI .sj)));ext be;by_cases L:.aU=6;.rw[iq L];exact iQ #[_,y,_,y,U L]
 rw[ir L];ext av;by_cases T:.aU=7;.rw[iq T];exact iQ #[_,y,_,y,g T]
 rw[ir T];exact iU #[_,y,_,y,l L T]
theorem alu:jb .sD .sD (i4 LQ):=.J
theorem ak8(F:.D "answer_of_merge" LQ f l)(m:.jN)(M:.bm)(q:.al "tell_conflicts" 7 .bo (HH v t) f1 aa)(p:.al "tell_merge" 27 .bo (F8 v t) f2 ab)(r:.al "tell_origin" 7 .bo (FT v t) f3 ac)(B:.al "accept" 7 ["desk"] (HN C v t) f4 ae):.bG 28 f l .sD (JE C v t):=by
 refine .t alu λaf A ag s H vs Q E k h=>?_;obtain⟨d,c,x,gv,call,rfl,T,D,I,k3,k4⟩:=h;have g:jy 7 _:=k.mono @h;refine#[_,iy (.rf M q g (.kf 0)) (iy (.rf M p k (.kf 0)) (iy (.rf M r g (.kf 0)) (.jb (iS B g iI .ji)))),?_];ext be;by_cases L:.aU=9;.rw[iq L];exact iQ #[_,y,d,C,c,_,_,y,T,m.cl,m.nT,y,D L]
 rw[ir L];ext av;by_cases U:.aU=10;.rw[iq U];exact iQ #[_,y,d,C,c,_,_,y,T,m.cl,m.nT,y,I U]
 rw[ir U];ext av;by_cases a:.aU=11;.rw[iq a];exact iQ #[_,y,d,C,c,_,_,y,T,m.cl,m.nT,y,k3 a]
 rw[ir a];exact iU #[_,y,k4 L U a]
theorem aj4:jb .fp .fp (i4 QJ):=.J
theorem ajh(F:.D "answer_of_edit" QJ f D)(m:.jN)(M:.bm)(G1:.al "replace" 8 .wx (G9 K v t) f1 aa)(G2:.al "set_number" 4 .wt (HJ v t) f2 ab)(G3:.al "swap" 4 .wv (IW v t) f3 ac)(G4:.al "lift" 4 .ww (IX v t) f4 ae)(G5:.al "reset" 2 .lp (Io v t) f5 af):.bG 9 f D .fp (IY K C v t):=by
 refine .t aj4 λag A ah s H vs Q E r h=>?_;obtain⟨d,U,ga,x,I,tl,call,ns,rfl,T,g,k1,k2,k3,k4,k5⟩:=h;have B:jy 4 _:=r.mono @h;refine#[_,iy (.rf M G1 r (Y .cM (Y .cM (.dl (.dl .nI))))) (iy (.rf M G2 B .Ih) (iy (.rf M G3 B .Ih) (iy (.rf M G4 B (Y .cM (.dl (.dl iw)))) (.jZ (iS G5 (r.mono @h) iI (Y .aE (.dl iw))))))),?_];ext be;by_cases L:.aU=2;.rw[iq L];obtain⟨a,b,rfl,k⟩:=k1 L;exact iQ #[_,y,d,C,U,_,_,y,T,m.cl,m.nT,y,_,y,d,C,U,_,_,y,T,m.cl,m.nG,y,_,y,I,_,_,_,y,y,g,.fP,_,y,I,_,_,_,y,y,g,.j4 1,_,y,k]
 rw[ir L];ext av;by_cases l:.aU=3;.rw[iq l];obtain⟨a,b,c,rfl,k⟩:=k2 l;exact .Ii
 rw[ir l];ext av;by_cases p:.aU=4;.rw[iq p];obtain⟨a,b,c,rfl,k⟩:=k3 p;exact .Ii
 rw[ir p];ext av;by_cases q:.aU=5;.rw[iq q];obtain⟨a,b,rfl,k⟩:=k4 q;exact iQ #[_,y,d,C,U,_,_,y,T,m.cl,m.nT,y,_,y,I,_,_,_,y,y,g,.fP,_,y,I,_,_,_,y,y,g,.j4 1,k]
 rw[ir q];obtain⟨a,rfl,k⟩:=k5 L l p q;exact iU #[_,y,d,C,U,_,_,y,T,m.cl,m.nT,y,_,y,I,_,_,_,y,y,g,.fP,k]
theorem aer:jb .fp .fp (i4 Hz):=.J
theorem adV(F:.D "answer_of" Hz f fd)(c:.jN)(M:.bm)(G1:.al "take_grammar" 194 .jO (GR K C t.g) f1 ac)(G2:.al "take_tree" 8 .jO (GQ K C v t) f2 ae)(G3:.al "answer_of_one_tree" 28 .sC (Es v t) f3 af)(G4:.al "answer_of_merge" 28 .sD (JE C v t) f4 ag)(G5:.al "answer_of_edit" 9 .fp (IY K C v t) f5 ah):.bG 195 f fd .fp (Qy K C v t):=by
 refine .t aer λai A aj s H vs Q E g h=>?_;obtain⟨d,r,nl,tl,gv,tv,call,ns,rfl,T,hN,k1,k2,k3⟩:=h;have L:jy 28 _:=.k6;refine#[_,iy (.rf M G1 g (.mb 0 3)) (iy (.g8 (.jZ (iS G2 .k6 iI (.mb 0 3))) jn) (iy .Id (iy (.n3 (l7 .Ij) (iS G3 L iI (Y .cM (Y @M (.dl iw))))) (iy (.n3 (l7 (Y .fo .Ij)) (iS G4 L iI .hr)) (.jZ (iS G5 .k6 iI (.ke (.mb 2 3)))))))),?_];ext be;by_cases l:.aU=0;.rw[iq l];exact iQ #[_,y,_,y,k1 l]
 rw[ir l];ext av;by_cases D:.aU=1;.rw[iq D];exact iQ #[_,y,_,y,k2 D]
 rw[ir D];refine iU #[_,y,d,C,r,_,_,y,T,c.cl,c.nT,y,y,_,y,?_];rcases k3 l D with⟨rfl,k⟩|⟨x,ga,rfl,rfl,c1,c2,c3⟩;.exact iQ #[@Z,λa ha=>k.use .bN ha]
 refine iU #[_,y,@Z,λp aa=>.kZ p];have m:.I (.bt (@L .w6)):=@t aa;generalize .bt (@L .w6)=I at m⊢;have e1:kE .hY .w6=.q (.aU∈([6,7,8]:.af)):=O3 (l:=[6,7,8]);show if kE .hY .w6=f' then _ else _;rw[e1];by_cases U:.aU∈([6,7,8]:.af);.rw[iq U];obtain⟨z,rfl,k⟩:=c1 .q;exact iQ #[_,y,d,C,r,_,_,y,m _ _ T,c.cl,c.nT,y,_,y,_,y,nl,_,_,_,y,y,m.seq hN,.fP,k I m]
 rw[ir U];refine iU #[_,y,@Z,λtq ab=>.kZ tq];have q:=m.trans (@t (o:=@L .w7) ab);generalize .az tq (@L .w7)=H2 at q⊢;have e2:kE .hY .w7=.q .Ik:=O3 (l:=[9,10,11,12]);show if kE .hY .w7=f' then _ else _;rw[e2];by_cases B:.Ik;.rw[iq B];exact iQ #[_,y,_,y,c2 (.j0 B) H2 q]
 rw[ir B];simp only[kc,R5,or_false,not_or]at U B;exact iU #[_,y,_,y,_,y,_,y,c3 U.1 U.2.1 U.2.2 B.1 B.2.1 B.2.2.1 B.2.2.2 H2 q]
abbrev DJ:i5:=top 167
def Fr(p:U)(H L:Hp):.n:=∀b o,.cn->(b=p\/∃x u,o=.iT x u)->.e6
abbrev pM:=Fn
structure Z3(K:jd)(Cd:U)(wW:Sp)(DS:U->Hp->U->Sy->Prop):Prop where
 zero:∀Lt H d dd,H d=O (.ins Cd dd (lY .iM .iM))->(∃xs,H Lt=O (.lst xs))->DS Lt H d FP
 upd:∀Lt H d S xs,DS Lt H d S->(∃ys,H Lt=O (.lst ys))->DS Lt (upd H Lt (.lst xs)) d S
 keep:∀Lt H H' d S,DS Lt H d S->iu H H'->DS Lt H' d S
 step:∀Lt H d S p ns tx nl tl Q E,DS Lt H d S->(∃ys,H Lt=O (.lst ys))->Ci ((p::ns)::tx)=f'->iD K H nl (ns.map V.int)->iD K H tl ((tx.headD []).map V.int)->(∀a H',H a=e'->Fr Lt H H'->DS Lt H' d (pM S ((p::ns)::tx)).1->qd H' a (pM S ((p::ns)::tx)).2->Q (.ref a) H')->wW [.ref d,.int p,.ref nl,.ref tl] H Q E
 len:∀Lt H d S c,DS Lt H d S->Ci c=f'->(pM S c).2.length<=20000
def Dj(K:jd):Sp:=λg H Q _=>∃(c:U)(xs:.af),g=[@h c]/\yl H/\.aB c (.a4 .a6)/\Rt xs=f'/\∀a L,.cY (Kv xs)->.aU L
theorem Wk(c:.bv):KO c=c:=by unfold KO;grind
def Ah(x:.E .Il):.n:=∀n k,x=O (n,k)->k=0\/k=1
theorem aal[Decidable c](D:Ah a)(M:Ah b):Ah (.pB c a b):=.h
theorem aiO(h:.BI):k=0\/k=1:=by
 have c:∀n,Ah (O (n,0)):=λn a b h=>by cases h;exact .n y
 have D:∀n,Ah (O (n,1)):=λn a b h=>by cases h;exact @n y
 have f:Ah e':=λa b h=>.b4
 have:Ah (rj p):=by unfold rj;repeat(first|exact f|refine aal (c _) ?_|refine aal (D _) ?_)
 exact this n k h
theorem call_one(h:Lw rj (p::r)=O (c,t)):∃n k,.BI/\n<=.ek/\((k=0/\c=[p::.b2 n]/\t=r.drop n)\/(k=1/\∃(z:Nat)(m:.af),r.drop n=(z:Int)::m/\z<=m.length/\c=[p::.b2 n,m.take z]/\t=m.drop z)):=by
 cases w:rj p with
 |none=>grind[Lw]|some A=>
  let#[n,k]:=A;simp only[Lw,w]at h;by_cases L:.ek<n;.grind
  rw[il L]at h;refine#[n,k,y,.t,?_];rcases aiO w with rfl|rfl;.cases h;simp
  .refine @n .iB;cases T:r.drop n with
   |nil=>rw[T]at h;cases h|cons z m=>grind[PyFlat.rows,PyFlat.row]
theorem XT{t:.af}{e:Nat}(D:i<=e)(M:e<=.aS):oo (t.map .a6) (O .m8) (O (e:Int))=((.iQ).take (e-i)).map .a6:=by grind[oo,HT.Yt,acL,acK]
theorem Bl{t r:.af}{p:Int}(h:.cQ i=p::r):i<.aS/\t[i]? =O p/\.cQ .ah=r:=by grind[Ak,Ka]
theorem Fr.same(f:Fr a H L)(o:yl p)(s:iu p H):iu p L:=λb x e=>by
 rcases o b with q|⟨C,u,q⟩;.grind
 .rw[q]at e;cases e;exact f b _ (.ae q) (@n #[_,_,y])
theorem rS:jb ["calls","desk","told","place","call","shape","end","numbers","text","answer"] .lC (i4 DJ):=.J
theorem aeP(F:.D "answers" DJ f fd)(M:.bm)(hD:mg "Desk"=.ja D)(aR:Mk K D fi)(Gi:@H aw .de 1 fi aT .eC (Uh D))(bi:.j9 aT)(hS:mg "SHAPES"=.ja aS)(MD:.cP aS kvs)(aU:.w8)(Ga:.L aw C "answer_of" 195 .fp wW fa bh)(St:Z3 K D wW DS):@H aw .de 196 f fd .lC (Dj K):=by
 refine .t rS .HZ;obtain⟨l,xs,rfl,hO,hL,bm,k⟩:=h;have ai:=.wy;refine#[_,iy (.aK .fq y @q (Xd aR Gi .aO y hD bi .nil (vr iI y))) (iy (.ag .fq y @q .dJ) (iy (.aL .fq y @q iY) (iy (.bv (ju Eu .ak (.mu ai 0) .aw) (iy (.bE .fq y @q (.ax .ae .ak .ai)) (iy (.db .fq y @q (YG MD (.ml aS hS) .cN .ai)) (iy (.eC .fq y @q (.bK (.bK .ak iY) (jG zJ .cq iY .ai))) (iy (i8 (i:=7) .fq y @q (NN OE .ae (Bg (.bK .ak iY)) (Bg .dM))) (iy (i8 (i:=8) .fq y @q .dJ) (iy (jh (kW (jG zJ .cq iY .ai)) (iy (i8 (i:=8) .fq y @q (NN OE .ae (Bg (.bK .dM iY)) (Bg (.bK (.bK .dM iY) (.ax .ae .dM .ai))))) (iE (xZ (i:=6) .fq y @q (.bK iY (.mu ai 8)) zK))) jn) (iy (i8 (i:=9) .fq y @q (iS Ga hr iI (Y @M (Y .cN (.mb 7 8))))) (iy (.kV (.mu ai 9)) (.mU (.f1 .ad (.js 9)) (.aL .fq y @q .dM))))))))))) .lf))),?_];let#[g,ax,bn,aV]:∃g,FR rj .ag xs=O g/\.cZ<=400/\∀c∈g,Ci c=f':=by grind[Rt,acs,Wk,VaattxNeutral.asked]
 have aW:Kv xs=Lv (K0 pM FP g):=by
  unfold Kv acs;rw[ax];have e:g.map KO=g:=by have:KO=id:=funext Wk;ext t
  simp only[e];rfl
 rw[aW]at k;generalize aX:Lv (K0 pM FP g)=aY at k;intro d x nd aZ bo;refine#[d,x,y,iG,y,?_];rw[mz];have s1:.I (.hf .w9):=.qa e nd aZ
 have ay:.hf .w9 d=O .w9:=iG;generalize .hf .w9=H1 at s1 ay⊢;refine#[.au,λU aj=>?_];have s2:=s1.trans (.fv aj);have ak:.bL U .ap U=O .ap:=iG;have az:DS U (.bL U .ap) d FP:=St.zero U _ d x (@t aj _ _ ay) #[_,ak];have aA:H U=e':=s1.free aj;generalize .bL U .ap=H2 at s2 ak az⊢;let W:.cp:=λm σ L=>∃(place f:Nat)(I:@q .bv)(S:Sy)(acc:.af)(v4 v5 v6 v7 v8 v9:.aV),σ=[.ja l,.ja d,O .lu,.jh .oP,v4,v5,v6,v7,v8,v9]/\m=.iE/\FR rj f (xs.drop place)=O I/\(∀c∈I,Ci c=f')/\.kz+20001*.iE<=8000400/\qd L U acc/\acc++Lv (K0 pM S I)=aY/\DS U L d S/\.I;refine .jY #[.cZ,0,.ag,g,FP,[],e',e',e',e',e',e',y,y,ax,aV,.h,ak,aX,az,s2];rintro m σ L⟨place,f,I,S,acc,v4,v5,v6,v7,v8,v9,rfl,rfl,u,a0,a1,a2,a3,a4,sm⟩;have al:=sm.seq hL;refine#[_,y,_,y,l,_,y,.n al,_,_,y,y,_,y,?_];rw[i0];by_cases bp:place<.ag;case neg=>rw[decide_eq_false (show¬.Im by omega)];refine iU #[_,rfl,k U L ?_];grind[Ak,FR,Lv,K0]
 case pos=>
  rw[decide_eq_true (show .Im by omega)];refine iQ #[λσ' H2=>∃m',m'<.iE/\.cT H2,.q2,?_];let#[p,r,aB]:∃p r,xs.drop place=p::r:=by grind[Ka]
  rw[aB]at u;cases f with
  |zero=>cases u|succ f=>
  unfold FR at u;cases aC:Lw rj (p::r)with
  |none=>grind|some ct=>
  let#[c,t]:=ct;rw[aC]at u;simp only at u;cases a5:FR rj f t with
  |none=>grind|some aD=>
  rw[a5]at u;simp only[Option.some.injEq]at u;subst u;let#[n,kk,a6,bq,a7]:=call_one aC;let#[br,a8,a9]:=Bl aB;obtain⟨q,hq,aE⟩:=aU p n kk a6;have bs:.ek=.ag-(place+1):=.h
  have aF:=a0 c jO;refine#[_,rfl,_,rfl,l,_,_,_,rfl,rfl,al,kj (j:=place) (by rw[jI,a8];rfl),?_];refine#[_,rfl,rfl,iO p,rfl,_,hq,?_];refine#[_,rfl,_,_,rfl,rfl,_,rfl,q,_,_,_,rfl,rfl,aE _,kj (j:=0) rfl,_,_,rfl,rfl,?_];refine#[_,rfl,_,rfl,_,_,rfl,rfl,_,rfl,_,rfl,_,rfl,l,_,rfl,al,λnl am=>?_];have ba:.sE=(.b2 n).map .a6:=by have:=XT (t:=xs) (i:=place+1) (e:=.oR) @h @h;grind
  have s3:=.d4 (.m2 .sE am);have aG:=.hh a4 (.m2 .sE am);have aH:qd _ U acc:=@t (o:=@E .sE) am _ _ a2;have aI:.aD nl (@E .sE) nl=.lo (.b2 n):=by rw[iG,ba]
  generalize .pa L nl (oo (xs.map V.int) (some (.oP+1:Int)) (some .xa))=H3 at s3 aG aH aI⊢;refine#[.au,λtl ac=>?_];have s4:=.cz (.fv ac);have an:=.hh aG (.fv ac);have ao:qd _ U acc:=.fv ac _ _ aH;have ap:=.fv ac _ _ aI;have aJ:upd H3 tl .ap tl=some .ap:=iG;generalize upd H3 tl .ap=H4 at s4 an ao ap aJ⊢;refine#[_,rfl,q,_,_,_,rfl,rfl,aE _,kj (j:=1) rfl,_,rfl,?_];rcases a7 with⟨rfl,aq,aK⟩|⟨rfl,z,r',bb,bt,aq,aK⟩;focus
   ext L;have aa:∃B:.bv,c=.xb/\H4 tl=.lo (B.headD []):=#[[],aq,aJ];have ar:∃ep:Nat,.xa=((ep:Nat):Int)/\xs.drop ep=t:=by grind[Az]
   let#[ep,ae,bc]:=ar;show Ends.nx _ [some .d0,some .aD,some .lu,some (.h .oP),some (.h p),.kR q,some (.h .xa),.kR nl,some (@h tl),v9] _;rw[ae];clear ae aq aK;revert s4 an ao ap aa;generalize H4=H5;generalize tl=v;intro s5 af ab au aa
  ext D;focus
   let#[bu,bv,bw]:=Bl (t:=xs) (i:=.oR) (p:=(z:Int)) (r:=r') (by rw[<-Az,a9];exact bb);have bx:r'.length=.ag-(.oR+1):=.h
   have aL:=s4.seq hL;have bd:ox (.a4 .a6) ((.oP:Int)+1+.hD)=some (.jn z):=by have:=kj (xs:=.a4 .a6) (j:=.oR) (v:=.jn z) .q;grind
   refine iQ #[_,rfl,_,rfl,_,_,rfl,rfl,_,rfl,_,rfl,_,_,rfl,rfl,_,rfl,_,rfl,l,_,_,_,rfl,rfl,aL,bd,_,_,rfl,rfl,_,rfl,l,_,rfl,aL,λv ag=>?_];have be:.lE=.BJ:=by have:=XT (t:=xs) (i:=.oR+1) (e:=.oR+1+z) @h @h;grind
   have s5:=s4.trans (.m2 .lE ag);have af:=.hh an (.m2 .lE ag);have ab:qd _ U acc:=@t (o:=@E .lE) ag _ _ ao;have au:=@t (o:=@E .lE) ag _ _ ap;have aM:upd H4 v (@E .lE) v=some (@E .BJ):=by rw[iG,be]
   generalize upd H4 v (@E .lE)=H5 at s5 af ab au aM⊢;refine#[_,rfl,_,rfl,v,_,rfl,.jD aM,_,_,rfl,rfl,_,_,rfl,rfl,?_];show Ends.nx _ [some .d0,some .aD,some .lu,some (.h .oP),some (.h p),.kR q,some (.h .Io),.kR nl,.kR v,v9] _;have aa:∃B:.bv,c=.xb/\H5 v=.lo (B.headD []):=.h
   have ar:∃ep:Nat,.Io=((ep:Nat):Int)/\xs.drop ep=t:=by grind[Az]
   let#[ep,ae,bc]:=ar;rw[ae]
  all_goals
   obtain⟨B,rfl,aa⟩:=aa;refine#[_,rfl,_,rfl,_,rfl,_,rfl,St.step U H5 d S p (.b2 n) B nl v _ _ af #[_,ab] aF (@D au) (@D aa) λa T ha aN bf aO=>?_];have s6:.I T:=aN.same hO s5;have av:T U=some (@E (acc.map .a6)):=aN _ _ ab (.n rfl);have bg:a≠U:=λz=>by rw[z,ab]at ha;cases ha
   have bz:=St.len U H5 d S _ af aF;simp only[lH]at a1;refine#[_,rfl,.n #[rfl,_,@D av],_,rfl,a,_,rfl,.jD aO,U,_,_,rfl,rfl,av,?_,?_];.rw[i0];exact .kI 8000400
   rw[i0];have aP:=St.upd U T d _ .Ip bf #[_,av];have s7:.I (upd T U .sG):=.pV e aA s6
   have ah:upd T U .sG U=some .sG:=iG;have aQ:upd T U .sG a=some (@E ((pM S .xb).2.map .a6)):=.ma bg aO
   generalize upd T U .sG=H7 at aP s7 ah aQ⊢;refine#[_,rfl,.n #[rfl,_,@D ah],_,rfl,U,a,_,_,rfl,rfl,ah,aQ,?_,?_];.rw[j9,i0,i0,Cf];exact .jL 8000400
   refine#[_,rfl,aD.length,@E,ep,f,aD,_,acc++(.Iq:Int)::(pM S .xb).2,_,_,_,_,_,_,rfl,rfl,.h,.h,?_,?_,?_,St.upd U H7 d _ _ aP #[_,ah],.pV e aA s7];.grind
   .show upd H7 U _ U=_;grind[iG]
   .rw[<-a3,rP];rfl
end Tm
namespace Tm
open Vaattx(Rec Flat recOf)
open Mx(Tr jM)
theorem kB(h:.ed):.hZ:=sI h
theorem UR:∀{l:.cP}{r:Rec},(@M .al).Nodup->r∈l->l.find? (λx=>x.id==.am)=O r
 |[],_,_,h=>.b4|x::l,r,k,h=>by
  rw[j6,rg]at k;rw[FG];ext a6;.simp
  .have:(x.id==.am)=ij:=.h
   rw[this];exact UR k.2 h
theorem rec_of(k:.lc)(h:.hZ):.O F .am=O r:=UR k h
theorem NK:.ee=e'↔n∉.b1:=by grind[recOf]
theorem wj(h:n∈.b1):∃r,.ed:=by
 cases q:.ee with
 |none=>exact .Z h (NK.mp q)|some r=>simp
theorem ve(h:.ed):n∈.b1:=jr.mpr #[r,kB h,nZ h]
theorem aho(p:F.recs.Perm T.recs)(k:.lc)(n:Nat):.sH:=by grind[NK,rec_of]
theorem ya(h:∀n,.sH)(k:.dO):Tr T n l d:=zE k λm _=>h m
theorem IQ(h:.dO)(k:Tr F n H t):l=H/\d=t:=#[.rE h.nodes d t k.nodes,.rE h.levels d t k.levels]
mutual
theorem Ot:∀{n:Nat}{l:@n}{d:Nat},.dO->.Ir
 |n,_,_,.node (l:=l) (d:=d) h k,Q=>by
  by_cases e:p=n;.subst e;exact#[_,_,.bX h k,.bV,List.Sublist.refl _]
  .let#[lp,B,a,b,c]:=Nr k ((kc.mp Q).resolve_left e);grind
theorem Nr:∀{w l:@n}{d:Nat},.fl->.Ir
 |_,_,_,.nil,Q=>.jr Q|_,_,_,.cons (l:=l) (l':=H) (d:=d) (d':=t) a b,Q=>by
  rcases k8.mp Q with Q|Q;.let#[lp,B,x,C,z]:=Ot a Q;grind
  .let#[lp,B,x,C,z]:=Nr b Q;grind
end
mutual
theorem subst1(s:f p=q)(Q:∀m,m≠p->f m=m)(v:∀m r,.fm->m≠p->.O F2 m=O .rl)(w:Tr F p lp B)(u:lp.count p=1)(g:Tr F2 q A C):∀{m:Nat}{l:@n}{d:Nat},Tr F m l d->∃H t,Tr F2 (f m) H t/\t<=d+C/\(C<=B->t<=d)/\.BK
 |m,_,_,.node (l:=l) (d:=d) h k=>by
  by_cases e:m=p;.subst e;obtain⟨rfl,rfl⟩:=IQ w (.bX h k);grind
  .let#[H,t,a,b,D,c]:=Yf s Q v w u g k;refine#[m::H,t+1,?_,.t,.t,.ll];.rw[Q m e];exact .bX (v m _ h e) a
   grind
theorem Yf(Q:f p=q)(I:∀m,m≠p->f m=m)(v:∀m r,.fm->m≠p->.O M m=O .rl)(w:Tr F p lp L)(B:lp.count p=1)(g:Tr M q A C):∀{s l:@n}{d:Nat},jM F s l d->∃H t,jM M (s.map f) H t/\t<=d+C/\(C<=L->t<=d)/\.BK
 |_,_,_,.nil=>#[[],0,.nil,.t,λ_=>.bV,λx=>@E]|_,_,_,.cons (l:=l) (l':=k) (d:=d) (d':=e) a b=>by
  let#[H,t,u,c,h,a3]:=subst1 Q I v w B g a;let#[D,T,y,J,U,Y]:=Yf Q I v w B g b;refine#[H++D,md t T,.J u y,?_,.h,.ll];.grind
  grind
end
mutual
theorem ZX(p:f a=b)(s:f b=a)(Q:.BL)(v:.It)(L:Tr F a C da)(c:Tr F b B db)(q:C.count a=1)(u:B.count b=1)(g:C.count b=0)(w:B.count a=0)(A:Tr M a C D)(I:Tr M b B eb):∀{m:Nat}{l:@n}{d:Nat},Tr F m l d->∃H t,Tr M (f m) H t/\t<=d+(D+eb)/\.Iu
 |m,_,_,.node (l:=l) (d:=d) h k=>by
  by_cases e:m=a;.subst e;obtain⟨rfl,rfl⟩:=IQ L (.bX h k);grind
  by_cases T:m=b;.subst T;obtain⟨rfl,rfl⟩:=IQ c (.bX h k);grind
  .let#[H,t,J,U,Y]:=Zq p s Q v L c q u g w A I k;refine#[m::H,t+1,?_,.t,.ll];.rw[Q m e T];exact .bX (v m _ h e T) J
   grind
theorem Zq(p:f a=b)(c:f b=a)(Q:.BL)(g:.It)(L:Tr F a C da)(h:Tr F b B db)(q:C.count a=1)(s:B.count b=1)(w:C.count b=0)(A:B.count a=0)(D:Tr M a C ea)(I:Tr M b B eb):∀{T l:@n}{d:Nat},jM F T l d->∃H t,jM M (T.map f) H t/\t<=d+(ea+eb)/\.Iu
 |_,_,_,.nil=>#[[],0,.nil,.t,λx=>@E]|_,_,_,.cons (l:=l) (l':=k) (d:=d) (d':=e) u v=>by
  let#[H,t,a1,a2,a3]:=ZX p c Q g L h q s w A D I u;let#[y,J,U,Y,b3]:=Zq p c Q g L h q s w A D I v;refine#[H++y,md t J,.J a1 U,?_,.ll];.grind
  grind
end
end Tm
namespace Tm
open Vaattx(Rec Flat recOf kidsOf)
open Mx(Tr jM)
mutual
theorem Ik:∀{n:Nat}{l:@n}{d:Nat},.dO->l.Perm (n::.es (.cU F))
 |n,_,_,.node (r:=r) (l:=l) h k=>by rw[uM,Mx.wm h];exact(Wt k).cons _
theorem Wt:∀{w l:@n}{d:Nat},.fl->l.Perm (w++.es (.cU F))
 |_,_,_,.nil=>Sj _|_,_,_,.cons (n:=n) (ns:=w) (l:=l) (l':=H) a b=>by rw[aby];have D:=Ik a;have M:=Wt b;grind
end
theorem Oo:∀{w l:@n}{d:Nat},.fl->k∈w->k∈l
 |_,_,_,.nil,h=>.b4|_,_,_,.cons a b,h=>by
  ext a6;.ext bH
  .exact Rz _ (Oo b h)
theorem Dh(h:.dO)(M:m∈l)(f:.fm)(hk:.oS):k∈l:=by
 let#[g,dm,a,_,c]:=Ot h M;cases a with
 |node D p=>grind[Oo]
theorem V2:∀{l:@n}{a b:Nat},(.es f).Nodup->a∈l->b∈l->k∈f a->k∈f b->a=b
 |[],_,_,_,h,_,_,_=>.b4|x::l,a,b,c,p,m,A,B=>by
  rw[uM,sO]at c;let#[_,q,r]:=c;rcases kc.mp p with g|H;.grind
  .rcases kc.mp m with w|u;.grind
   .exact V2 q H u A B
structure Ord(F:Flat)(d:Nat):Prop where
 nd:(F.recs.map Rec.id).Nodup
 tr:Tr F F.root (F.recs.map Rec.id) d
theorem Ord.kids(h:.gD):(.a7::(.b1).flatMap (.cU F)).Nodup:=(Ik h.tr).nodup_iff.mp h.nd
theorem Ord.in(h:.gD)(c:.hZ)(hk:.oS):k∈.b1:=Dh h.tr .q (.dn c) hk
theorem Ord.Yx(h:.gD)(c:.hZ):.a7∉.bj:=λq=>by have:=h.kids;rw[rg]at this;exact this.1 (sQ.mpr #[.am,.h,by rw[Mx.wm (.dn c)];exact q])
theorem Ord.one(h:.gD)(c:.hZ)(w:s∈.dq)(a:.oS)(I:k∈s.kids):r=s:=by have f:=h.kids;rw[rg]at f;have:=V2 (k:=k) f.2 (.mB r c) (.mB s w) (by rw[Mx.wm (.dn c)];exact a) (by rw[Mx.wm (.dn w)];exact I);have D:=.dn c;have M:=.dn w;grind
theorem Ord.up(h:.gD)(c:.hZ)(a:.oS):mG F k=O r:=by
 cases q:mG F k with
 |none=>grind[mG]|some s=>have D:=sI q;have M:=CH q;rw[h.one c D a .q]
theorem C4(h:mG F k=O r):.hZ/\.oS:=#[sI h,by simpa using CH h]
theorem adK(h:mG F k=e')(c:.hZ):k∉.bj:=by have:=RJ.mp h r c;grind
theorem Ord.part(h:.gD)(c:.ed):∃l e,Tr F n l e/\e<=d/\l.Sublist .b1:=Ot h.tr (ve c)
theorem Within.trans(a:.b3 F k n)(b:.b3 F o k):.nZ:=by
 induction a with
 |here=>exact b|up h _ I=>exact .up h I
mutual
theorem Va(h:.gD):∀{o:Nat}{l:@n}{e:Nat},Tr F o l e->∀n∈l,.nZ
 |o,_,_,.node (r:=r) a k,n,f=>by
  rcases kc.mp f with rfl|f;.exact .here
  .let#[c,B,w]:=T6 h k n f;refine w.trans (.up (h.up (kB a) B) ?_);rw[nZ a];exact .here
theorem T6(h:.gD):∀{g l:@n}{e:Nat},jM F g l e->∀n∈l,∃c∈g,.b3 F c n
 |_,_,_,.nil,n,f=>.jr f|_,_,_,.cons a b,n,f=>by
  rcases k8.mp f with f|f;.exact#[_,jO,Va h a n f]
  .let#[c,B,w]:=T6 h b n f;grind
end
theorem Ord.within(h:.gD)(a:Tr F o l e):.nZ↔n∈l:=by
 ext n;.intro w;induction w with
  |here=>ext bH|up Q _ I=>let#[D,M]:=C4 Q;exact Dh a I (.dn D) M
 grind[Va]
def Jc(F:@H)(n:Nat):Nat:=4000-(pV F n).length
theorem Ord.rank(h:.gD)(T:d<=200)(g:.rk<=4000):∀n r,mG F n=O r->Jc F .am<Jc F n:=λn r Q=>by
 let#[D,M]:=C4 Q;let#[l,e,a,b,c]:=h.part (.dn D);have x:=c.length_le;rw[i0]at x;have f:pV F .am=l:=a.nodes 200 @h;cases a with
 |node a k=>rw[.dn D]at a;cases a;let#[H,t,L,q,w]:=Oq k n M;have hk:pV F n=H:=L.nodes 200 @h;grind[Jc]
end Tm
namespace Tm
open Vaattx(Rec Flat recOf kidsOf redirect trim)
open Mx(Tr jM)
def j5(T F:@H):.n:=T.root=.a7/\T.recs.Perm .dq
structure Good(t:Tc)(F:Flat):Prop where
 od:∃d,Ord F d/\d<=24
 ln:F.recs.length<=60
 pr:∀r∈F.recs,r.prod<t.P.length
 fit:ud t F.recs
 nm:∀r∈F.recs,r.num.natAbs<10^18
 nz:∀r∈F.recs,t.own r.prod=ij->r.num=0
theorem Good.nd(h:.bR):.lc:=by let#[d,o,_]:=h.od;exact o.nd
theorem j5.rec(s:.h0)(k:.lc)(n:Nat):.sH:=aho s.2.symm k n
theorem Dn(f:α->β):∀{l:.aA},(@M f).Nodup->l.Nodup
 |[],_=>yR|x::l,h=>by rw[j6,rg]at h;exact rg.mpr #[.h,Dn f h.2]
theorem y8:x∈.hT↔x.id∈l/\.O F x.id=O x:=by grind[recsOf,nZ]
theorem WT(s:.h0)(k:.lc)(h:Tr F .a7 l d)(a:d<=200)(L:.eK):j5 .gE .xc/\t7 .gE=.lq:=by
 have e:=s.rec k;have m:Tr T T.root l d:=s.1.symm▸ya e h;have f:pV T T.root=l:=m.nodes 200 a;have u:∀x,x∈(.gE).recs↔x∈.hT:=λx=>by
  unfold trim;rw[f,y8,oy];ext n;.rintro⟨D,M⟩;exact#[.h,rec_of k (.fw D)]
  grind[kB]
 have g:j5 .gE .xc:=#[s.1,(J' (vJ yE (s.2.nodup_iff.mpr (Dn .al k))) (Dn .al (by rw[.r0];exact L))).mpr u];refine .jO g;have M:=Ij h;rw[.r0]at M;have r:Tr .gE (.gE).root l d:=g.1.symm▸ya (g.rec (by show .kY .hT;rw[.r0];exact L)) M;unfold t7;rw[show pV .gE (.gE).root=l from r.nodes 200 a,show RP .gE K9 (.gE).root=d from r.levels 200 a];rfl
theorem agG(h:Tr F .a7 l d)(T:d<=24)(L:.eK)(f:.ac<=60)(m:.xf)(p:.rJ)(g:.Iv)(a:∀r∈F.recs,.am∈l->.aO (kK t .dq)=.rv):.aI .xc:=by
 have e:=.r0;refine#[#[d,#[.h,Ij h],T],?_,.ef,.ef,.ef,.ef];.grind
 .exact m r .BM
 .have C:=y8.mp c;rw[<-a r (kB C.2) C.1];refine oM .sI;have:=LC h.recs k (Dh h C.1 C.2 hk) .a7;unfold kK;exact .aA (λo=>((o.map λr=>.nY).getD [])) .bM
 .exact p r .BM
 .exact g r .BM
def vm(f:.dr)(r:Rec):Rec:=.rl
theorem Sv(f:.dr)(F:@H):.xg=.eB (vm f):=rfl
theorem CU(f:.dr)(F:@H):(.gF).recs.map .al=.b1:=by rw[Sv,kQ];rfl
theorem acS(t:Tc)(f:.dr)(F:@H)(k:Nat):kK t .xg k=.dN k:=by unfold kK;have:=yX (f:=f) (F:=F) (n:=k);unfold recOf at this;rw[this,Ax];rfl
theorem K5(h:Tr .gF (f .a7) l d)(T:d<=24)(L:.eK)(q:.ac<=60)(m:.xf)(p:.rJ)(g:.Iv)(a:ud t .dq)(s:∀r∈F.recs,∀k∈r.kids,.dN (f k)=.dN k):.aI #[f .a7,.bp .gF l]:=by
 have C:∀(Q:Rec->.n),(∀r∈F.recs,Q (vm f r))->∀r∈.xg,Q r:=by grind[Sv]
 refine agG (F:=.dq f F) h T L q (C _ λr c=>m r c) (C _ λr c=>p r c) (C _ λr c=>g r c) (C _ λr c _=>?_);show(.aO f).map (kK t .xg)=.rv;rw[<-a r c,kQ];grind[oM,acS]
theorem SM(f:.dr)(s:.h0):j5 (.dq f T) .gF:=#[.aA f s.1,s.2.map _]
theorem AK{l:@n}(h:.eK)(m:n∈l):l.count n=1:=.h
theorem Tg{l H lp A:@n}{p:Nat}(L:.eK)(Q:p∈l)(w:lp.Sublist l)(M:A.Nodup)(v:∀x∈A,x∈lp\/x∉l)(c:.BK):H.Nodup/\H.length+lp.length=.ac+A.length/\∀x∈H,x∈l\/x∈A:=by
 have t:∀x,H.count x+lp.count x=l.count x+A.count x:=.h
 refine#[Kh.mpr .ll,?_,λx I=>?_]
 .have e:=t x;have C:=Kh.mp L x;have a:=Kh.mp M x;have g:=w.count_le x;by_cases q:x∈A
  .rcases v x q with f|f;.have:=List.count_pos_iff.mpr f;omega
   .have:=RO.mpr f;omega
  .have:=RO.mpr q;omega
 .have:(H++lp).Perm (l++A):=.h
  have:=this.length_eq;grind
 .have e:=t x;grind
theorem ajx(g:.bR)(v:.ee=O s)(A:mG F n=O p)(q:p.id=.a7∨.oB=.au .h1):
  ∃l d,Tr (.dq .rY F) (.oi p.id n) l d∧.eK∧.ac≤60∧d≤200∧(∀x∈l,x∈.b1)∧.aI #[.oi p.id n,.bp (.dq .rY F) l]:=by
 let#[d,o,hd]:=g.od
 let#[B,C]:=C4 A
 have D:=rec_of o.nd B
 let#[lp,dp,a,b,c]:=o.part D
 let#[Q,I,H,b2,c2]:=o.part v
 have aa:=vJ c o.nd
 have ab:p.id∈lp:=.k4 a.head
 have ae:Q.Sublist lp∧p.id∉Q∧I+1≤dp:=by
  have a':=a
  cases a' with
  |node h k=>
   rw[D]at h
   cases h
   let#[lk,dk,L,q2,w]:=Nr k (Oo k C)
   grind[IQ]
 let f:Nat→Nat:=.rY
 have U:∀m r,.fm→.O .gF m=O (vm f r):=.Iw
 have ac:Tr .gF n Q I:=by
  refine zE H λm M=>?_
  let#[r,J]:=H.recs m M
  rw[U m r J,J]
  congr 1
  have:.aO f=.bj:=by
   conv=>rhs;rw[←xF .bj]
   grind[oM,Dh]
  unfold vm
  rw[this]
 obtain⟨l,e,L,q2,q4,w⟩:=subst1 (F:=F) (F2:=.dq f F) (p:=p.id) (q:=n) (f:=f) (ip y) (λm M=>il M) (λm r h _=>U m r h) a (AK aa ab) ac o.tr
 let#[T,n2,n3]:=Tg o.nd .q c .q .q w
 have Y:.ac≤60:=by
  have:=g.ln
  grind
 refine#[l,e,L,T,Y,.t,.h,K5 L @h T Y g.pr g.nm g.nz g.fit .BN]
 show .dN (.pE k p.id n)=_
 by_cases u:k=p.id
 ·rw[ip u]
  rcases q with q|q
  ·exact .Z (q▸u▸hk) (o.Yx J)
  ·have e1:.dN n=.oB:=by unfold kK;rw[.rk r.id n s v];rfl
   have e2:.dN k=.au .h1:=by rw[u];unfold kK;rw[.rk r.id p.id p D];rfl
   grind
 grind
theorem wk(h:.ed):.dN n=.nY:=by unfold kK;rw[.rk r.id n r h];rfl
theorem Ho(h:∀k∈r.kids,f k=k):vm f r=r:=by
 have:.aO f=.bj:=by
  conv=>rhs;rw[←xF .bj]
  grind[oM]
 unfold vm
 rw[this]
theorem NW(h:.ed):.O (pO F rs) n=O r:=by grind[recOf,pO]
theorem NX(h:.ee=e'):.O (pO F .h2) n=.O L n:=by grind[recOf,pO]
theorem aev(g:.bR)(A:.aI L)(dj:.Ix)(f:.ee=O s)(h0:.O L L.root=O h)(p:n=.a7\/.au h.prod=.oB):∃l d,Tr .oT (.dj L.root .a7) l d/\.eK/\.n0/\d<=200/\(∀x∈l,x∈.b1\/x∈.sJ)/\((.oT).recs.map .al).Nodup/\(d<=24->.ac<=60->.aI #[.dj L.root .a7,.bp .oT l]):=by
 let#[d,o,hd]:=g.od;let#[e,u,he]:=A.od;let#[lp,dp,a,b,c]:=o.part f;have Y:∀k∈.sJ,.O F k=e':=by grind[NK]
 have D:∀k∈.sJ,k≠n:=.h
 have v:∀m r,.fm->m≠n->.O .oT m=O {r with kids:=.aO .sK}:=by grind[yX,NW]
 have w:Tr .oT L.root .sJ e:=zE u.tr λm M=>by let#[r,J]:=wj M;rw[yX,NX (Y m M),J];exact .aA O ((λr J=>Ho λk hk=>il (D k (u.in J hk))) r (kB J))
 have I:n∈lp:=.k4 a.head
 let#[l,d',U,q2,_,q3]:=subst1 (f:=.dj L.root) (ip y) (λm M=>il M) v a (AK (vJ c o.nd) I) w o.tr;let#[T,n2,n3]:=Tg o.nd (ve f) c u.nd .q q3;have:=g.ln;have:=A.ln;have ac:.ac<=120:=.h
 have B:∀Q:Rec->.n,(∀r∈F.recs,Q r)->(∀r∈L.recs,Q r)->∀r∈.BO,Q r:=λQ h1 h2 r J=>(k8.mp J).elim (h1 r) (h2 r);have lF:∀k∈.b1,kK t .BO k=.dN k:=by grind[wj,wk,NW]
 have lL:∀k∈.sJ,kK t .BO k=kK t .h2 k:=by grind[wj,wk,NX]
 refine#[l,d',U,T,.t,.t,n3,?_,λaa ab=>K5 U aa T ab (B _ g.pr A.pr) (B _ g.nm A.nm) (B _ g.nz A.nz) (B _ (λr J=>?_) λr J=>?_) (B _ .BN .BN)];.rw[CU];show .kY (.dq++.h2);rw[mR,sO];refine#[o.nd,u.nd,λx hx C hy q=>?_];grind
 .rw[<-g.fit r J];exact oM λk hk=>lF k (o.in J hk)
 .rw[<-A.fit r J];exact oM λk hk=>lL k (u.in J hk)
 .show .Iy;by_cases H:k=n
  .rw[ip H];rcases p with p|p;.exact .Z (p▸H▸hk) (o.Yx J)
   grind[ve,wk]
  grind
 .show .Iy;rw[il (D k (u.in J hk))]
theorem adD(s:.h0)(g:.bR)(A:.aI L)(h:.Ix)(f:n∈.b1):j5 {.Iz with recs:=(.Iz).recs++.h2} .oT:=by
 let#[e,u,a]:=A.od
 refine#[.aA .sK s.1,?_]
 show(T.recs.map (vm .sK)++.h2).Perm ((.dq++.h2).map (vm .sK))
 rw[mR]
 have:L.recs.map (vm .sK)=.h2:=by
  conv=>rhs;rw[←xF .h2]
  refine oM λr c=>Ho λk hk=>il .dH
  let#[x,v,l]:=@Q f
  let#[C,p,w]:=@Q (u.in c hk)
  grind
 rw[this]
 exact(s.2.map _).append_right _
theorem Zk(h:Tr F a C d)(f:C.Nodup)(M:m∈C)(c:.fm)(hk:.oS):k∈C/\k≠a:=by refine#[Dh h M c hk,.dH];have:=(Ik h).nodup_iff.mp f;rw[rg]at this;exact this.1 (sQ.mpr #[m,M,by rw[Mx.wm c,<-q];exact hk])
theorem aiE(g:.bR)(p:.O F a=O A)(s:.O F b=O D)(H:¬.b3 F b a)(I:¬.b3 F a b)(ag:.au A.prod=.au D.prod):∃l d,Tr (.dq (.p3 x a b) F) .IA l d/\.eK/\d<=200/\l.Perm .b1/\(d<=24->.aI #[.IA,.bp (.dq (.p3 x a b) F) l]):=by
 let#[d,o,hd]:=g.od;let#[C,T,u,xa,sa]:=o.part p;let#[B,db,w,xb,sb]:=o.part s;have ah:b∉C:=λq=>I ((o.within u).mpr q);have ai:a∉B:=λq=>H ((o.within w).mpr q);have aa:a∈C:=.k4 u.head
 have ab:b∈B:=.k4 w.head
 have J:=vJ sa o.nd;have U:=vJ sb o.nd;have aj:a≠b:=.h
 let f:.dr:=.p3 x a b;have fa:f a=b:=ip y;have fb:f b=a:=.h
 have fo:.BL:=.h
 have v:∀m r,.fm->.O .gF m=O (vm f r):=.Iw
 have ac:Tr .gF a C T:=zE u λm M=>by let#[r,c]:=u.recs m M;rw[v m r c,c];refine .aA O (Ho .sI);let#[k1,k2]:=Zk u J M c hk;grind
 have ae:Tr .gF b B db:=zE w λm M=>by let#[r,c]:=w.recs m M;rw[v m r c,c];refine .aA O (Ho .sI);let#[k1,k2]:=Zk w U M c hk;grind
 let#[l,d',L,q2,q3]:=ZX (f:=f) fa fb fo (λm r h _ _=>v m r h) u w (AK J aa) (AK U ab) .q .q ac ae o.tr;have c1:=AK o.nd (ve p);have c2:=AK o.nd (ve s);have Q:l.Perm .b1:=.h
 have Y:.eK:=Q.nodup_iff.mpr o.nd;refine#[l,d',L,Y,.t,Q,λaf=>K5 L af Y (by rw[Q.length_eq,i0];exact g.ln) g.pr g.nm g.nz g.fit λr c k hk=>?_];grind[wk]
theorem Ip(s:.h0)(k:.lc)(L:l.Perm .b1):j5 T .xc:=by refine#[s.1,s.2.trans ?_];grind[J',Dn,xI,y8,rec_of]
mutual
theorem X6(h:.IB):∀{n:Nat}{l:@n}{d:Nat},.dO->Tr M n l d
 |_,_,_,.node a k=>by let#[r2,D,c]:=h _ _ a;exact .bX D (c▸Wu h k)
theorem Wu(h:.IB):∀{w l:@n}{d:Nat},.fl->jM M w l d
 |_,_,_,.nil=>.nil|_,_,_,.cons a b=>.J (X6 h a) (Wu h b)
end
theorem NC(m:Nat):.O #[.a7,.jP] m=(.O F m).map .BQ:=by unfold recOf;show(.jP).find? _=_;rw[FH];congr 1;congr 1;grind[Iq]
theorem zg(n:Nat)(v:Int)(r:Rec):(kX n v r).prod=.bO/\(kX n v r).kids=.bj:=by grind[kX]
theorem aj3(g:.bR)(f:.ee=O s)(a:.cy s.prod=f')(L:v.natAbs<=999999999999999999):.aI #[.a7,.jP]:=by
 let#[d,o,T]:=g.od;have w:(.jP).map .al=.b1:=by grind[oM,Iq]
 have C:∀(Q:Rec->.n),(∀r∈F.recs,Q (kX n v r))->∀r∈.jP,Q r:=@E
 refine#[#[d,#[by show .kY .jP;rw[w];exact o.nd,?_],T],?_,C _ .ef,C _ .ef,C _ .ef,C _ .ef];.show Tr _ .a7 ((.jP).map .al) d;rw[w];exact X6 (by grind[NC,zg]) o.tr
 .show(.jP).length<=60;rw[i0];exact g.ln
 .rw[(zg n v r).1];exact g.pr r c
 .rw[(zg n v r).1,(zg n v r).2,<-g.fit r c];refine oM .sI;unfold kK;have:=NC (F:=F) (n:=n) (v:=v) k;unfold recOf at this;rw[this,Ax];congr 2;grind[zg]
 .unfold kX;split;.grind
  .exact g.nm r c
 .intro q;rw[(zg n v r).1]at q;unfold kX;split;.rename_i h;have:=rec_of o.nd c;grind
  .exact g.nz r c q
end Tm
namespace Tm
open Vaattx(Rec Flat recOf)
open Vaatta Vaattb Vaattd
open Mx(Tr jM jX lq mB ou qf p7 kz lT o6 pK lJ)
mutual
def zU:Raw->Nat
 |.node _ _ _ I=>wD I+1
def wD:.c3->Nat
 |[]=>0|t::r=>md (zU t) (wD r)
end
mutual
def BO:Raw->.n
 |.node _ _ l I=>(∀v,l=O v->v.natAbs<10^18)/\yd I
def yd:.c3->.n
 |[]=>True|t::r=>BO t/\yd r
end
theorem agh(t:.ay)(b:Nat):numOf (t++[b])=10*numOf t+(b-48):=by grind[numOf]
theorem Xk:∀(n:Nat)(t:.ay),.aS=n->(∀b∈t,.gh=f')->numOf t<10^n
 |0,t,h,_=>by rw[aa2.mp h];decide|n+1,t,h,T=>by
  have c:t≠[]:=.h
  rw[<-List.dropLast_concat_getLast c,agh];have D:=Xk n t.dropLast .q (by grind[List.dropLast_subset]);grind[List.getLast_mem,isDigit]
theorem X'(h:lJ x)(hk:x.kind=1):numOf x.text<10^18:=by
 rcases h with⟨q,_⟩|⟨q,_⟩|⟨_,_,D,M⟩|⟨q,_⟩;.omega
 .omega
 .exact oN (Xk _ x.text y M) (Kg .E D)
 omega
theorem Xi(q:one h k ts=.mP):x∈ts/\k x=f'/\∀C∈us,C∈ts:=by
 cases ts with
 |nil=>cases q|cons t r=>grind[one]
theorem aki(ok:.uj)(q:readNum h ts=.ok (v,us)):(∀z,v=O z->z.natAbs<10^18)/\∀C∈us,C∈ts:=by
 unfold readNum at q;cases ts with
 |nil=>grind|cons t r=>
  dsimp only at q;by_cases D:.jB 45;.rw[ip D]at q;let#[#[x,p],L,a]:=.lF;cases a;grind[Xi,X']
  grind[X']
theorem W4(h:Nat):∀(f jC Q:Nat)(ts:.H),.uj->(∀t u us,readTree h f jC Q ts=.ok (t,u,us)->jC+zU t<=25/\BO t/\.vb)/\(∀l u us,readKids h f jC Q ts=.ok (l,u,us)->(jC+wD l<=25)/\yd l/\.vb)
 |0,jC,Q,ts,ok=>by grind[readTree,readKids]|f+1,jC,Q,ts,ok=>by
  have S:=W4 h f;refine#[λt u us q=>?_,λl u us q=>?_]
  .rw[readTree]at q;let#[x,D,q]:=.lF;let#[_,_,g]:=Xi (x:=x.1) (us:=x.2) D;by_cases L:mostLevels<jC;.grind
   .rw[il L]at q;have L:jC<=24:=Fx L;by_cases J:Fw<=Q;.grind
    .rw[il J]at q;let#[v,M,q]:=.lF;let#[T,B]:=aki (v:=v.1) (us:=v.2) (λy m=>ok y (g y m)) M;by_cases w:.qs;.rw[.bD]at q;let#[I,r,q]:=.lF;let#[l,U,p]:=I;cases q;let#[a,b,c]:=(S _ _ _ .q).2 _ _ _ r;grind[zU,BO]
     .rw[.bL]at q;cases q;grind[zU,wD,BO,yd]
  .rw[readKids]at q;let#[#[x,T,A],D,q]:=.lF;let#[a,b,c]:=(S jC Q ts ok).1 _ _ _ D;dsimp only at q;by_cases w:.qt;.rw[.bD]at q;cases q;grind[yd,wD]
   .rw[.bL]at q;let#[s,M,q]:=.lF;let#[#[l,Y,k],r,q]:=.lF;cases q;have B:∀y∈s,y∈A:=.yL
    let#[H,C,c2]:=(S jC T s .q).2 _ _ _ r;grind[yd,wD]
def tK(first n:Nat)(m:jX):Rec:=#[@z+n,.fb,.m2,.i9]
section
variable{g:Grammar}{first:Nat}{F:Flat}
theorem range_add(a b:Nat)(f:.dr):(kH (a+b)).map f=(kH a).map f++(kH b).map λi=>f (a+i):=by rw[List.range_add,mR,kQ];rfl
mutual
theorem Yy:∀(t:Raw)(n:Nat),(∀i,i<lq t->.O F (@z+(n+i))=(.iL[i]?).map (tK @z (n+i)))->Tr F (@z+n) (.qi (lq t) n i) (zU t)
 |.node c T l I,n,v=>by
  have a:=v 0 .ug;rw[kz]at a;have hk:=WZ I .b5 λi f=>by have:=v (1+i) .ug;rw[kz,show n+(1+i)=n+1+i by omega,Nat.add_comm 1 i,List.getElem?_cons_succ]at this;ext Q
  have:=Tr.node (r:=tK @z n .EB) a hk;rw[lq,zU,range_add];grind
theorem WZ:∀(l:.c3)(n:Nat),(∀i,i<mB l->.O F (@z+(n+i))=((.cg n l)[i]?).map (tK @z (n+i)))->jM F .y6 (.qi (mB l) n i) (wD l)
 |[],n,_=>by rw[p7,mB,wD];ext ae|t::r,n,v=>by
  rw[p7,mB,wD,j6,range_add];have L:=Mx.wh g @z n t;have M:=WZ r .iK λi a=>by have:=v .qv .uh;rw[lT,xh @h,L,Kd,show n+.qv=n+lq t+i by omega]at this;ext Q
  have e:(kH (mB r)).map (λi=>@z+(n+.qv))=(kH (mB r)).map λi=>@z+(n+lq t+i):=.h
  rw[e];exact .J (Yy t n (by grind[mB,lT])) M
end
mutual
theorem W0:∀(t:Raw)(n:Nat),.iN->BO t->∀m∈.iL,.IC
 |.node c T l I,n,h,f,m,M=>by
  rw[ou,qr]at h;rw[BO]at f;rw[kz]at M;rcases kc.mp M with rfl|M;.let#[i,a]:=.bV h.1;grind
  .exact Vx I .b5 h.2 f.2 m M
theorem Vx:∀(l:.c3)(n:Nat),qf g l=f'->yd l->∀m∈.cg n l,.IC
 |[],n,_,_,m,M=>by grind[lT]|t::r,n,h,f,m,M=>by
  rw[qf,qr]at h;rw[yd]at f;rw[lT]at M;rcases k8.mp M with M|M;.exact W0 t n h.1 f.1 m M
  .exact Vx r _ h.2 f.2 m M
end
end
structure nt(g:Grammar)(t:Tc):Prop where
 pr:t.P=g.prods.map Mx.kD
 fi:uy t
 ok:Mx.uH (Mx.wM g)
theorem nt.at(h:.c5)(i:Nat):t.P[i]? =.gI Mx.kD:=by rw[h.pr,jI]
theorem nt.left(h:.c5)(i:Nat):.au i=Mx.rZ g i:=by unfold Tc.left Mx.rZ;rw[h.at,Ax];rfl
theorem nt.want(h:.c5)(i:Nat):t.want i=Mx.wantOf g i:=by unfold Tc.want Mx.wantOf;rw[h.at,Ax];rfl
theorem nt.own(h:.c5){i:Nat}(e:.t8):.cy i=p.own:=by unfold Tc.own;rw[h.at,e];rfl
theorem XJ(c:.ay):∀l:@q .hf,(@M Mx.kD).find? .qu=(l.find? .qu).map Mx.kD
 |[]=>y|p::l=>by rw[j6,FG,FG,XJ c l];grind[Mx.kD]
theorem nt.node(h:.c5)(ts:.H):.vR:=by
 unfold Mx.vt wy;congr 1;funext x;congr 1;funext v;congr 1;unfold o6 wH prodOf prodNumber;rw[h.pr,XJ];cases q:g.prods.find? λp=>p.name==x.1.text with
 |none=>rfl|some p=>show .ID=.ID;congr 1;rw[List.findIdx?_map];rfl
theorem DC{first i:Nat}{s:.bp}{m:jX}(h:.vP):.O .gu (@z+i)=O .xh:=Vz h
theorem DH{first:Nat}{s:.bp}{r:Rec}(h:r∈.cB):∃i m,.vP/\r=.xh:=by obtain⟨i,t⟩:=Ki h;rw[ug]at t;obtain⟨m,D,rfl⟩:=.M t;exact#[i,m,D,y]
theorem YA{g:.aa}{t:Tc}{first:Nat}{f:.ay}{ts:.H}{s:.bp}(G:.c5)(I:tokens f=.ok ts)(a:.m1=O s):(∃d,Ord .gu d/\d<=24)/\(∀r∈.cB,.bO<.rg)/\(∀r∈.cB,r.num.natAbs<10^18)/\(∀r∈.cB,.eb=ij->r.num=0)/\(.rz↔∀m∈s,Mx.x8 g @z s m):=by
 have l:=Mx.VA g @z .il ts;rw[a]at l;cases Y:readTree .il (2*.av+2) 1 0 ts with
 |error e=>grind|ok x=>
  obtain⟨q,u,us⟩:=x;rw[Y]at l;dsimp only at l;by_cases h:ou g q=f'/\us=[]
  .rw[ip h]at l;cases l;obtain⟨h1,L,_⟩:=(W4 .il _ _ _ ts (Mx.MH I)).1 _ _ _ Y;have ac:=Mx.wh g @z 0 q;have hT:=Yy (g:=g) (first:=first) (F:=#[@z,.lG]) q 0 (by grind[DC]);have aa:(.lG).map .al=.qi (lq q) 0 i:=by grind[NL]
   have w:Ord #[@z,.lG] (zU q):=#[W3 _ _,.h];have C:=W0 (first:=first) q 0 h.1 L;have A:∀m∈.bJ 0 q,∃p,g.prods[m.prod]? =O p/\p.own=m.num.isSome:=λm M=>by obtain⟨⟨ae,hn⟩,_⟩:=C m M;obtain⟨p,_,U,_,B⟩:=Mx.Ti hn;exact#[p,B,U]
   refine#[#[_,w,.t],λr a=>?_,λr a=>?_,λr a ho=>?_,?_];.ext bf;obtain⟨p,U,_⟩:=A m (kO J);rw[G.pr,i0];exact(o1.mp U).1
   .ext bf;obtain⟨_,U⟩:=C m (kO J);show(.m2).natAbs<_;cases af:m.num with
    |none=>decide|some v=>grind
   .ext bf;obtain⟨p,U,B⟩:=A m (kO J);rw[.nQ i m,G.own U,B]at ho;show .m2=0;ext t
   .have hk:∀(i:Nat)(m:jX),(.bJ 0 q)[i]? =O m->∀k∈m.kids,((.bJ 0 q)[k-@z]?).map (λc=>Mx.rZ g c.prod)=O (kK t .lG k):=λi m J k hk=>by have D:=w.in (r:=.xh) (kB (DC J)) (show k∈(.xh).kids from hk);rw[show(Flat.recs #[@z,.lG])=.lG from y,aa]at D;obtain⟨j,H,rfl⟩:=@Q D;have H:=Ay.mp H;have T:=mP (l:=.bJ 0 q) (i:=j) @h;rw[show @z+(0+j)-@z=j by omega,show @z+(0+j)=@z+j by omega,T];have hl:=wk (t:=t) (DC (first:=first) T);rw[hl,G.left];rfl
    ext n;.intro Q m M;obtain⟨i,J⟩:=Ki M;unfold Mx.x8;have:=Q _ (kB (DC J));rw[.nQ i m,G.want]at this;rw[<-this,kQ];exact oM λk ab=>hk i m J k ab
    .intro Q r a;ext bf;have:=Q m (kO J);unfold Mx.x8 at this;have e:m.kids.map (λk=>((.bJ 0 q)[k-@z]?).map λc=>Mx.rZ g c.prod)=(m.kids.map (kK t .lG)).map O:=by grind[oM]
     rw[e]at this;rw[.nQ i m,G.want];exact Mx.SV .bM
  grind
theorem ah4{g:.aa}{first:Nat}{q:Tree}{s:.bp}(h:(GH e' 0 @z q).map Mx.Ac=s.map Mx.Aa):FQ @z q=.gu:=by unfold FQ;congr 1;ext ay;rw[ug,jI,abm];have t:=.aA (·[i]?) h;grind[Mx.Ac,Mx.Aa]
theorem Ww{g:.aa}{t:Tc}{first:Nat}{a:.ay}{ts:.H}{s:.bp}(G:.c5)(v:tokens a=.ok ts)(c:.m1=O s)(Q:.rz)(L:.bw<=60):∃q:Tree,AE g a=O q/\q.size=.bw/\FQ @z q=.gu/\.aI .gu/\∃C,.O .gu @z=O C/\.au C.prod=q.sym g:=by
 obtain⟨D,M,r,B,T⟩:=YA G v c;obtain⟨q,h,A,f,k⟩:=(Mx.YB g @z a ts v).1 s c (T.mp Q);refine#[q,h,A,ah4 (g:=g) f,#[D,by grind[sZ],M,Q,r,B],?_];cases s with
 |nil=>grind|cons m s=>
  refine#[tK @z 0 m,DC (i:=0) y,?_];rw[.nQ 0 m,G.left];cases q with
  |node p x I=>rw[GH,j6,j6]at f;have:=(K2 f).1;unfold Mx.Ac Mx.Aa at this;have:=(Prod.mk.inj .bM).1;show Mx.rZ g .fb=symbolAt g p;rw[<-this];rfl
theorem Ii{g:.aa}{t:Tc}{first:Nat}{a:.ay}(G:.c5)(h:.IE=e'\/∃s,.IE=O s/\¬.rz):AE g a=e':=by
 cases v:tokens a with
 |error e=>
  unfold AE;have:readRaw a=.dB e:=.EQ
  rw[this]|ok ts=>
  rw[v]at h;refine(Mx.YB g @z a ts v).2 ?_;rcases h with h|⟨s,h,Q⟩;.exact .n h
  .exact @n #[s,h,λq=>Q ((YA G v h).2.2.2.2.mpr q)]
section
variable{g:Grammar}{t:Tc}
mutual
theorem Y4(G:.c5){F:@H}(m:.xf):∀{n:Nat}{l:@n}{d:Nat},.dO->∀f j,d<=f->d<=j->R' g F f n=.cW j n
 |n,_,_,.node (r:=r) h k,f,j,Q,H=>by
  match f,j,Q,H with
  |f+1,j+1,Q,H=>
   have a:=m r (kB h);rw[G.pr,i0]at a;have e:=mP a;have A:Fp g F n=O g.prods[r.prod]:=by grind[Fp]
   have c:t.name .bO=(g.prods[r.prod]).name:=by unfold Tc.name;rw[G.at,e];rfl
   have D:.eb=(g.prods[r.prod]).own:=G.own e;have L:=XD G m k f j @h @h;grind[R',ko]
theorem XD(G:.c5){F:@H}(m:.xf):∀{w l:@n}{d:Nat},.fl->∀f j,d<=f->d<=j->.aE (R' g F f)=.aE (.cW j)
 |_,_,_,.nil,f,j,_,_=>y|_,_,_,.cons (d:=d) (d':=c) a b,f,j,Q,H=>by have D:d<=md d c:=Sd d c;have M:c<=md d c:=R4 d c;rw[j6,j6,Y4 G m a f j @h @h,XD G m b f j @h @h]
end
theorem Tz{F T:@H}(h:∀n,.sH):∀(j n:Nat),ko t T j n=.cW j n
 |0,n=>y|j+1,n=>by
  rw[ko,ko,h n];cases .ee with
  |none=>rfl|some r=>have:.aO (ko t T j)=.aO (.cW j):=oM λk _=>Tz h j k;grind
theorem j5.form{T F:@H}(G:.c5)(s:.h0)(f:.bR):yS g T=.cW 24 .a7:=by obtain⟨d,o,a⟩:=f.od;have e:=s.rec o.nd;have m:Tr T T.root .b1 d:=s.1.symm▸ya e o.tr;unfold yS;rw[Y4 G (λr c=>f.pr r (.fw c)) m K9 24 (.ju a) a,Tz e,s.1]
theorem j5.nodes{T F:@H}(s:.h0)(f:.bR):pV T T.root=.b1:=by obtain⟨d,o,a⟩:=f.od;exact(s.1.symm▸ya (s.rec o.nd) o.tr).nodes 200 @h
theorem j5.sym{T F:@H}(G:.c5)(s:.h0)(f:.bR){n:Nat}{r:Rec}(h:.ed):RZ g T n=.nY:=by unfold RZ Fp;rw[s.rec f.nd,h,G.left];rfl
theorem j5.own{T F:@H}(G:.c5)(s:.h0)(f:.bR){n:Nat}{r:Rec}(h:.ed):((Fp g T n).any λp=>p.own)=.eb:=by unfold Fp Tc.own;rw[s.rec f.nd,h,G.at];show((g.prods[r.prod]?).any _)=_;cases g.prods[r.prod]?<;>rfl
end
end Tm
namespace Tm
open Vaattx(Rec Flat recOf toldBefore putTold inOrder toldFlat)
abbrev pA:=Vaattx.Told
def lK(x:pA):.af:=[x.1,x.2.1,x.2.2]
def mv(x C:pA):.n:=x.1<C.1\/(x.1=C.1/\(x.2.1<C.2.1\/(x.2.1=C.2.1/\x.2.2<C.2.2)))
theorem GY:toldBefore x C=f'↔mv x C:=by grind[toldBefore,mv]
theorem mv.trans{z:pA}(a:mv x C)(b:mv C z):mv x z:=by grind[mv]
theorem mv.asymm(a:mv x C)(b:mv C x):False:=by grind[mv]
theorem mv.JP(a:¬mv x C)(b:¬mv C x):x=C:=by grind[mv]
theorem OJ{z:pA}:∀{l:.eg},z∈putTold x l↔z=x\/z∈l
 |[]=>by simp[putTold]|C::r=>by
  rw[putTold];split;.simp
  .rename_i D;split;.rw[kc,OJ (l:=r),kc];grind
   .rename_i M;have e:x=C:=mv.JP (λq=>D (GY.mpr q)) (λq=>M (GY.mpr q));grind
theorem Uw:∀{l:.eg},l.Pairwise mv->(putTold x l).Pairwise mv
 |[],_=>by simp[putTold]|C::r,h=>by
  rw[putTold];rw[An]at h;split
  .rename_i D;have D:=GY.mp D;refine An.mpr #[λz c=>?_,.aW];rcases kc.mp c with rfl|c;.exact D
   .exact D.trans (h.1 z c)
  .rename_i D;split
   .rename_i M;refine An.mpr #[λz c=>?_,Uw h.2];rcases OJ.mp c with rfl|c;.exact(GY.mp M)
    grind
   ext t
theorem Hg{z:pA}:∀{l:.eg},z∈inOrder l↔z∈l
 |[]=>.Q|x::l=>by show z∈putTold x (inOrder l)↔_;rw[OJ,Hg (l:=l),kc]
theorem Ln:∀l:.eg,(inOrder l).Pairwise mv
 |[]=>ab0|x::l=>Uw (Ln l)
theorem Ui:∀{a b:.eg},a.Pairwise mv->b.Pairwise mv->(∀z,z∈a↔z∈b)->a=b
 |[],[],_,_,_=>y|[],C::b,_,_,h=>by grind[jO]|x::a,[],_,_,h=>by grind[jO]|x::a,C::b,p,l,h=>by
  rw[An]at p l;have e:x=C:=by grind[jO,mv.asymm]
  subst e;congr 1;refine Ui p.2 l.2 λz=>#[.dH,.dH];.grind[mv.asymm]
  grind[mv.asymm]
theorem akq(h:Ag (lK x) (lK C))(f:x≠C):mv x C:=by apply Rp;intro B;let#[L,r,p]:=x;let#[Q,s,c]:=C;have e:∀(a b:Int)(l m:.af),RH RB (L2.qK (a::l)) (L2.qK (b::m))=(.q (a<b)||! .q (b<a)&&RH RB (L2.qK l) (L2.qK m)):=λa b l m=>y;have h:RH RB (L2.qK [Q,s,c]) (L2.qK [L,r,p])=ij:=h;grind[mv]
theorem X9(k:r.Nodup)(p:.oH)(g:∀z,z∈r↔z∈L.map lK):r=(inOrder L).map lK:=by
 have c:∃us:.eg,r=us.map lK:=by
  have:∀l:.bv,(∀z∈l,∃x,z=lK x)->∃us:.eg,l=us.map lK:=by
   intro l;induction l with
   |nil=>simp|cons z l I=>intro h;obtain⟨us,rfl⟩:=I λz c=>h z (nD _ c);obtain⟨x,rfl⟩:=h z jO;exact#[x::us,y]
  refine this r λz c=>?_;grind
 obtain⟨us,rfl⟩:=c;have a:∀x C,lK x=lK C->x=C:=by grind[lK]
 congr 1;refine Ui ?_ (Ln L) .f9;.have f:=Dn lK k;rw[vL]at p;exact(p.and f).imp λh=>akq h.1 h.2
 .rw[Hg];ext n;.intro h;let#[x,v,e]:=@Q ((g _).mp (.mB z h));grind
  .intro h;let#[x,v,e]:=@Q ((g _).mpr (.mB z h));grind
theorem MF(l:.eg):(@M lK).flatten=toldFlat l:=.Q
end Tm
namespace Tm
open Vaattx(Rec Flat recOf kidsOf has numOf inOrder toldFlat)
open Mx(Tr jM)
theorem Hj{α β:Type}{f:α->β}(Q:∀a b,f a=f b->a=b):∀{l:.aA},l.Nodup->(@M f).Nodup
 |[],_=>yR|x::l,h=>.h
theorem aeS{α β:Type}{f:α->.ei}(D:∀a,(f a).Nodup)(M:∀a b z,z∈f a->z∈f b->a=b):∀{l:.aA},l.Nodup->(.es f).Nodup
 |[],_=>yR|x::l,h=>.h
theorem adI(n:Nat):(kH n).Nodup:=Kx
theorem aex(B S:@H)(n:Nat):(.oE).Nodup:=by grind[om,adI]
theorem He{S:@H}{z:.af}(h:z∈.oE):.oF=n/\∃k:Nat,z=.wA:=by grind[om]
theorem MG(a b:Nat)(h:lb c a=lb c b):a=b:=by grind[lb]
theorem agR{S:@H}(I:(.jD).Nodup)(v:(S.recs.map .al).Nodup):(.r9).Nodup:=by
 have hk:(.f0).Nodup:=vJ yE I;unfold uD;rw[sO,sO,sO];have m:(.wJ).Nodup:=Hj MG (vJ yE hk);have r:(.Bi).Nodup:=Hj MG (vJ yE I);have s:(.wK).Nodup:=Hj MG (vJ yE v);have p:(.Bh).Nodup:=by
  refine Hj @I ?_;unfold mq;rw[sO];refine#[.h,aeS (aex B S) (λa b z D M=>?_) hk,λa u b g q=>?_];.have C:=(He D).1;have A:=(He M).1;omega
  .obtain⟨n,_,g⟩:=sQ.mp g;obtain⟨_,k,e⟩:=He g;grind
 have T:∀{α:Type}{c:Int}{f:α->.af}{l:.aA}{z:.af},z∈@M (λa=>c::f a)->.oF=c:=.h
 have D:∀z∈.wJ,.oF=1:=λz h=>T (f:=λn:Nat=>[.aY,0]) h;have M:∀z∈.Bh,.oF=2:=@E
 grind[lb]
def t4(B S:@H):.n:=∀n p rs,.gG=O p->.gH=O rs->rs.prod=.h1
theorem Good.BP(g:.bR)(h:.hZ):.cs=(.rv).length:=by rw[<-g.fit r h,i0]
theorem OI{S:@H}(g:.f4)(L:.dv)(h:t4 B S):wB B S:=λn p rs C A=>by rw[g.BP (kB C),L.BP (kB A),h n p rs C A]
theorem XI(o:Ord B d):((.jD).flatMap (.cU B)).length+1=.Be:=by have:=(Ik o.tr).length_eq;grind
theorem Ia{α β γ:Type}{f:α->.ei}{g:α->@q γ}(h:∀a,.mf g a<=.mf f a):∀{l m:.aA},l.Sublist m->.mf l.flatMap g<=.mf m.flatMap f
 |_,_,.slnil=>.bV|l,_,.cons a s=>by rw[uM,j9];exact ja (Ia h s) (Nat.le_add_left _ _)|_,_,.cons_cons a s=>by rw[uM,uM,j9,j9];exact acv (h a) (Ia h s)
theorem ai2(B S:@H)(n:Nat):(.oE).length<=(.cU B n).length:=by grind[om]
theorem Iw(g:.f4)(S:@H):(.jF).length<=61:=by obtain⟨d,o,_⟩:=g.od;have D:=Ia (ai2 B S) (l:=.f0) (m:=.jD) yE;have M:=XI o;have r:=g.ln;grind[mq]
theorem IB(g:.f4)(p:.ew):((.jD).filter p).length<=60:=.cF (.kk g.ln)
theorem Y'{S:@H}(g:.f4)(L:.dv):(.r9).length<=241:=by unfold uD;simp only[j9,i0];have D:.wH<=60:=.cF (IB g _);grind[Iw,Ey,IB,oW]
theorem Ej(e:∀n,.sH)(n:Nat):has T n=has F n:=by grind[has]
theorem ajw(s:j5 a B):(∃r∈a.recs,.am=n)↔n∈.jD:=by rw[jr];exact#[λ#[r,h,e]=>#[r,.fw h,e],λ#[r,h,e]=>#[r,s.2.mem_iff.mpr h,e]]
theorem Zg{S:@H}(g:.f4)(L:.dv)(r:t4 B S){rs:Rec}(l:.gG=O p)(w:.gH=O rs):.oC↔rs.num=p.num:=by
 unfold valN valOf;rw[l,w,CG,CG,R3,R3,r n p rs l w];cases k:.cy .h1 with
 |true=>simp|false=>rw[.d3,.d3,g.nz p (kB l) k,L.nz rs (kB w) (by rw[r n p rs l w];exact k)];simp
theorem OP{S:@H}(f:j5 a B)(q:.jQ)(g:.f4)(L:.dv)(k:t4 B S)(n:Nat):n∈.r7↔n∈Kr a TS:=by
 have u:=.xi;unfold oa mX Kr;rw[oy,oy];ext n
 .rintro⟨⟨D,M⟩,m⟩;let#[p,l]:=wj D;let#[rs,w]:=.bV (show(.gH).isSome=f' from M);have s:rs.num≠p.num:=by grind[Zg]
  refine jr.mpr #[p,oy.mpr #[f.2.mem_iff.mpr (kB l),?_],nZ l];grind[nZ,Ej,numOf]
 .intro h;obtain⟨r,c,rfl⟩:=@Q h;let#[D,M]:=oy.mp c;have l:=.IF;rw[qr,Ej u]at M;let#[rs,w]:=.bV (show(.O S .am).isSome=f' from M.1);grind[ve,numOf,Zg]
theorem DW{S:@H}(f:j5 a B)(q:.jQ)(g:.f4)(n:Nat):n∈oW B S↔n∈CD a TS:=by have v:=f.rec g.nd;grind[oW,CD,ajw,Ej]
theorem IA{S:@H}(f:j5 a B)(q:.jQ)(g:.f4)(L:.dv)(n k:Nat):.wA∈.A9↔(n,k)∈Fs a TS:=by
 have v:=f.rec g.nd;have u:=.xi;have s:∀m,.cU TS m=.cU S m:=by grind[kidsOf]
 unfold Fs;rw[sQ,sQ];ext n
 .rintro⟨m,w,h⟩;unfold mX at w;let#[D,M]:=oy.mp w;unfold om at h;let#[x,hk,e]:=@Q h;simp only[KI,and_true]at e;have C:m=n:=.t
  have A:x=k:=.t
  subst C A;let#[p,l]:=wj D;refine#[p,by grind[kB,nZ,Ej],?_];grind[nZ,kidsOf]
 .rintro⟨r,c,h⟩;let#[D,M]:=oy.mp c;let#[x,hk,e]:=@Q h;simp only[Sq]at e;obtain⟨rfl,rfl⟩:=e;have l:=.IF;rw[Ej u]at M;refine#[.am,oy.mpr #[ve l,M],?_];grind[om,kidsOf]
def Q0(a TS:@H):.eg:=(Kr a TS).map (.qk 1 n 0)++((if a.root !=TS.root then .xj else[])++((Fs a TS).map .IG++((.hW .IH)++(CD a TS).map (.pF 4 n 0))))
theorem Py{S:@H}(f:j5 a B)(q:.jQ)(g:.f4)(L:.dv)(l:t4 B S)(z:.af):z∈.r9↔z∈(Q0 a TS).map lK:=by
 unfold uD Q0 mq;simp only[mR,k8,kQ];have D:z∈.wJ↔z∈(Kr a TS).map (lK∘.qk 1 n 0):=.oE #[n,by grind[OP],e] #[n,by grind[OP],e]
 have p:z∈.wK↔z∈(CD a TS).map (lK∘.qk 4 n 0):=.oE #[n,by grind[DW],e] #[n,by grind[DW],e]
 have s:z∈.Bi↔z∈.hW (lK∘.IH):=by
  rw[jr,jr];ext n;.rintro⟨n,h,e⟩;have:=(DW q f L n).mp h;unfold CD at this;obtain⟨r,c,rfl⟩:=@Q .bM;exact#[r,c,e]
  .rintro⟨r,c,e⟩;exact#[.am,(DW q f L .am).mpr (by grind[CD]),e]
 have M:z∈(if .wF then([]:.bv)else[[-1,0]]).map .lx↔z∈(if a.root !=TS.root then .xj else([]:.eg)).map lK:=by rw[f.1,q.1];grind[lK]
 have T:z∈(.A9).map .lx↔z∈(Fs a TS).map (lK∘.IG):=by
  rw[jr,jr];ext n;.rintro⟨C,h,rfl⟩;let#[n,u,m]:=sQ.mp h;obtain⟨_,k,rfl⟩:=He m;exact#[(n,k),by grind[IA],y]
  .rintro⟨⟨n,k⟩,h,rfl⟩;exact#[_,by grind[IA],y]
 grind
theorem afb{t:Tc}{B S a TS:@H}(f:j5 a B)(q:.jQ)(g:.f4)(L:.dv)(c:t4 B S){r:.bv}(Q:r.Perm .r9)(p:.oH):r.flatten=toldFlat (KN a TS):=by rw[X9 (L:=Q0 a TS) (Q.nodup_iff.mpr (agR g.nd L.nd)) p (by grind[Py]),MF];rfl
end Tm
namespace Tm
open Vaattx(Rec Flat recOf kidsOf has numOf Three)
open Mx(Tr jM)
structure lg(t:Tc)(B F0 F1:Flat):Prop where
 b:Good t B
 a0:Good t F0
 a1:Good t F1
 p0:t4 B F0
 p1:t4 B F1
 sep:∀n r0 r1,recOf F0 n=O r0->recOf F1 n=O r1->∃r,recOf B n=O r
 k3:∀i,(t.want i).length<=3
structure qi(T:Three)(B F0 F1:Flat):Prop where
 b:j5 T.base B
 a0:j5 T.one F0
 a1:j5 T.two F1
theorem nt.k3(G:.c5)(i:Nat):.mf t.want i<=3:=by
 unfold Tc.want;cases h:t.P[i]? with
 |none=>simp|some p=>have M:=kO h;rw[G.pr]at M;have:=G.ok.2.1.2.2 p M;exact this.1
theorem MU[.lv][BEq α][LawfulBEq α](x C z:α):acC x C z=(nq x C z,l8 x C z):=by
 unfold acC nq l8;by_cases D:C=x;.ext t
 .rw[il (.j0 D),il D,ir D];by_cases M:z=x;.ext t
  .rw[ir M];by_cases r:z=C;.ext t
   .rw[il (by simp[M,r]),ir (λq=>r q.symm)];rfl
theorem F9(s:.dw):CM T=(.eQ,.Bu):=by unfold CM ml;rw[s.b.1,s.a0.1,s.a1.1,MU]
def jQ(F:@H)(n:Nat)(r:Rec):Rec:=(.ee).getD r
theorem ZG(s:.dw)(g:.aR)(h:.jR){S:@H}(q:.jQ)(L:.dv):acV T TS n=(.h3).num:=by unfold acV numOf has jQ;rw[.xi,.lH,h];cases .gH<;>rfl
theorem P7(s:.dw)(g:.aR)(h:.jR){S:@H}(q:.jQ)(L:.dv):acW T TS n k=(.h3).kids.getD k 0:=by unfold acW kidsOf has jQ;rw[.xi,.lH,h];rw[aaR];cases .gH<;>rfl
theorem Tf(s:.dw)(g:.aR)(h:.jR):Fv T n=(nq r.num (.jT).num (.jU).num,.II):=by
 unfold Fv;rw[ZG s g h s.a0 g.a0,ZG s g h s.a1 g.a1,MU];have:numOf T.base n=r.num:=by unfold numOf;rw[.lH,h];rfl
 rw[this]
theorem Tu(s:.dw)(g:.aR)(h:.jR):Fq T n=(kH .cs).map λk=>(wN r .jT .jU k,l8 (r.kids.getD k 0) ((.jT).kids.getD k 0) ((.jU).kids.getD k 0)):=by
 unfold Fq;have e:.cU T.base n=.bj:=by unfold kidsOf;rw[.lH,h];rfl
 rw[e];refine oM λk _=>?_;rw[P7 s g h s.a0 g.a0,P7 s g h s.a1 g.a1,P7 s g h s.b g.b,MU];have:jQ B n r=r:=by grind[jQ]
 rw[this];rfl
theorem YQ[.lv](x:α):nq x x x=x:=by grind[nq]
theorem Ma(r:Rec):wI r r r=r:=by
 unfold wI;rw[YQ];have:(kH .cs).map (wN r r r)=.bj:=by apply sP;grind[wN,YQ]
 rw[this]
theorem AF{t:Tc}{B I u:@H}(g:.aR){p:Rec}(h:.oK):(.gG=O p/\(.gG).getD p=p/\.BR=jQ I n p/\.BT=jQ u n p)\/(.gG=e'/\(.gG).getD p=p/\.BR=p/\.BT=p/\((.O I n=O p/\.O u n=e')\/(.O I n=e'/\.O u n=O p))):=by
 unfold qL at h;cases l:.gG with
 |some r=>rw[l]at h;cases h;exact .n .k4
 |none=>
  rw[l]at h;refine @n #[y,y,?_];cases a:.O I n with
  |some r=>
   rw[a]at h;cases h;cases D:.O u n with
   |none=>simp
   |some r1=>obtain⟨r,c⟩:=g.sep n _ _ a D;grind
  |none=>grind
theorem L6(s:.dw)(g:.aR)(n:Nat):ra T n=.f1:=by
 unfold ra j8;rw[.lH];cases Q:.ss with
 |none=>
  unfold qL at Q;have l:.gG=e':=.h
  rw[l]at Q;have a:.O I n=e':=.h
  rw[a]at Q;rw[l];show .O (K8 T n) n=e';unfold K8;split;.rw[.xk];exact a
  .rw[s.a1.rec g.a1.nd];exact Q|some p=>
  ext bN;.rw[CG,M,C,A,l];show O _=O _;rw[Tf s g l,Tu s g l,kQ];rfl
  .rw[CG,M,C,A,l,Ma];show .O (K8 T n) n=O p;unfold K8;rcases f with⟨a,D⟩|⟨a,D⟩;.rw[ip (by unfold has;rw[.xk,a];rfl),.xk];exact a
   .rw[il (by unfold has;rw[.xk,a];decide),s.a1.rec g.a1.nd];exact D
theorem HW{t:Tc}{B I u:@H}(g:.aR){r:Rec}(h:.jR):((.jT).prod=.bO/\(.jT).kids.length=.cs)/\((.jU).prod=.bO/\(.jU).kids.length=.cs):=by
 have one:∀S,.dv->t4 B S->(.BV/\(.h3).kids.length=.cs):=λS L a=>by
  unfold jQ;cases w:.gH with
  |none=>simp|some rs=>have e:=a n r rs h w;exact#[e,by show .Ba=_;rw[L.BP (kB w),g.b.BP (kB h),e]]
 exact#[one I g.a0 g.p0,one u g.a1 g.p1]
theorem ad3(g:.aR):JA B I u:=λn p h=>by
 rcases AF g h with⟨l,M,C,A⟩|⟨l,M,C,A,f⟩;.rw[M,C,A];ext bO;exact#[a,c,b,d]
 .rw[M,C,A];exact .k4
def univ(B I u:@H):@n:=.jD++(I.recs.map .al++u.recs.map .al)
theorem agW(g:.aR):(.fu).length<=180:=by unfold univ;simp only[j9,i0];have:=g.b.ln;have:=g.a0.ln;have:=g.a1.ln;omega
theorem C8(h:.lK):∃p,.oK:=by unfold qL;grind[univ,wj]
theorem Jw{α:Type}[.lv](x C z:α):nq x C z=C\/nq x C z=z:=by grind[nq]
theorem agn{t:Tc}{B I u:@H}(g:.aR){k:Nat}{r r':Rec}(l:.jR)(hk:k<.cs):(∃F rf,.jV/\.bR/\.sL/\.oW=.bO/\rf.kids[k]? =O (wN r .jT .jU k)):=by
 ext bO;have one:∀S,(S=B\/S=I\/S=u)->.dv->.BV->(.h3).kids.length=.cs->∃F rf,.jV/\.bR/\.sL/\.oW=.bO/\rf.kids[k]? =O ((.h3).kids.getD k 0):=λS v L C A=>by
  have D:=.ea (l:=(.h3).kids) (k:=k) @h;cases w:.gH with
  |none=>
   have e:.h3=r:=by grind[jQ]
   rw[e]at D⊢;exact#[B,r,.n y,g.b,l,y,D]|some rs=>grind[jQ]
 unfold wN;rcases Jw (r.kids.getD k 0) ((jQ I n r).kids.getD k 0) ((jQ u n r).kids.getD k 0)with q|q;.rw[q];exact one I .iV g.a0 a b
 .rw[q];exact one u .qU g.a1 c d
theorem zi{t:Tc}{B I u:@H}(g:.aR){n:Nat}{m:Rec}(h:.f1=O m):(∃F rf,.jV/\.bR/\.sL/\.oW=.fb)/\.nw=.mf t.want m.prod/\m.num.natAbs<10^18/\(.cy .fb=ij->m.num=0)/\∀(k c:Nat),m.kids[k]? =O c->∃F rf,.jV/\.bR/\.sL/\.oW=.fb/\rf.kids[k]? =O c:=by
 unfold j8 at h;obtain⟨p,Q,rfl⟩:=.M h;ext bN
 .rw[M,C,A];ext bO;refine#[#[B,p,.n y,g.b,l,y],?_,?_,?_,λk c hk=>?_];.show((kH .dG).map _).length=.mf t.want .h1;rw[i0,CB,g.b.BP (kB l)]
  .have one:∀S,.dv->(jQ S n p).num.natAbs<10^18:=λS L=>by
    unfold jQ;cases w:.gH with
    |none=>exact g.b.nm p (kB l)|some rs=>exact L.nm rs (kB w)
   show(.IJ).natAbs<_;ext cM;.rw[q];exact one I g.a0
   .rw[q];exact one u g.a1
  .intro r;have r:.cy .h1=ij:=r;have one:∀S,.dv->(jQ S n p).prod=.h1->(jQ S n p).num=0:=λS L e=>by
    unfold jQ at e⊢;cases w:.gH with
    |none=>exact g.b.nz p (kB l) r|some rs=>rw[w]at e;exact L.nz rs (kB w) .q
   show .IJ=0;ext cM;.rw[q];exact one I g.a0 a
   .rw[q];exact one u g.a1 c
  .have hk:((kH .dG).map (wN p (jQ I n p) (jQ u n p)))[k]? =O c:=hk;rw[jI]at hk;obtain⟨j,H,rfl⟩:=.M hk;obtain⟨s,e⟩:=o1.mp H;rw[CB]at s;rw[abI]at e;subst e;exact agn (r':=p) g l s
 .rw[M,C,A,Ma];have one:∃F,.jV/\.bR/\.ee=O p:=by
   rcases f with⟨T,_⟩|⟨_,D⟩;.exact#[I,@n .cS,g.a0,T]
   .exact#[u,@n (@n y),g.a1,D]
  obtain⟨F,v,x,J⟩:=one;exact#[.h,x.BP (kB J),x.nm p (kB J),x.nz p (kB J),.h]
theorem Y1(v:.jV)(h:n∈.b1):.lK:=by grind[univ]
theorem To(g:.aR)(h:.f1=O m)(hk:k∈.i9):k∈.fu:=by obtain⟨_,_,_,_,q⟩:=zi g h;obtain⟨j,H⟩:=Ki hk;obtain⟨F,rf,v,x,c,_,D⟩:=q j k H;obtain⟨d,o,_⟩:=x.od;exact Y1 v (o.in (kB c) .q)
theorem AX(h:.lK):∃m,.f1=O m:=by grind[C8,j8]
theorem Vv(g:.aR):.eQ∈.fu:=by
 have one:∀F,.jV->.bR->.a7∈.fu:=λF v x=>by obtain⟨d,o,_⟩:=x.od;obtain⟨r,H,h,e,_⟩:=o.tr.head;grind[Y1]
 unfold ml;rcases Jw B.root I.root u.root with q|q;.rw[q];exact one I .iV g.a0
 .rw[q];exact one u .qU g.a1
inductive Reach(mr:Nat->Option Rec)(root:Nat):Nat->Prop
 |root:Reach mr root root
 |BU{n k:Nat}{r:Rec}(h:Reach mr root n)(e:mr n=some r)(hk:k∈r.kids):Reach mr root k
theorem qD.reach{K:@n}(h:.so):(∀x∈K,.BW)->(∀x∈st,.BW)->∀x∈o,.BW:=by
 induction h with
 |done=>simp|skip _ _ I=>grind|go _ e _ I=>
  intro D M;refine I .pJ .pJ;.grind
  .rcases k8.mp v with v|v;.exact .BU (M _ jO) e v
   grind
theorem qD.close{K:@n}(h:.so):(∀x∈K,x∈o)/\(∀x∈st,x∈o)/\∀x∈o,x∉K->∀r,s x=O r->∀k∈r.kids,k∈o:=by
 induction h with
 |done=>grind|skip M _ I=>grind|@go K st o n m r g e _ I=>grind
theorem VR{g K:@n}(f:n∈g)(c:n∉K):(g.filter .IK).length<(g.filter .xl).length:=by
 induction g with
 |nil=>cases f|cons u g I=>
  have k:∀V:@n,(V.filter .IK).length<=(V.filter .xl).length:=λV=>by
   induction V with
   |nil=>simp|cons v V a=>grind
  grind
theorem akH{s:Nat->.gs}{g:@n}(D:∀n∈g,∃r,s n=O r/\.cs<=60/\∀k∈r.kids,k∈g):∀(c:Nat)(st K:@n),(g.filter .xl).length<=c->(∀x∈st,x∈g)->K.Nodup->∃o m,.so/\.jG/\(∀x∈o,x∈K\/x∈g)/\m<=.hJ+60*c/\.sp<=K.length+c:=by
 intro c;induction c with
 |zero=>
  intro st;induction st with
  |nil=>exact λK _ _ f=>#[K,0,.done,f,λx v=>.n v,.au,.bV]
  |cons n st I=>intro K B p f;obtain⟨o,m,a,b,c,d,e⟩:=.IL;exact#[o,m+1,.skip .aW a,b,c,.h,e]
 |succ c C=>
  intro st;induction st with
  |nil=>exact λK _ _ f=>#[K,0,.done,f,λx v=>.n v,.au,.t]
  |cons n st I=>
   intro K B p f;have h:=p n jO;by_cases l:n∈K;.obtain⟨o,m,a,b,c,d,e⟩:=.IL;exact#[o,m+1,.skip l a,b,c,.h,e]
   .obtain⟨r,q,L,hk⟩:=D n h;have u:=VR h l;have H:(K++[n]).Nodup:=.h
    obtain⟨o,m,a,b,t,d,e⟩:=C .n1 (K++[n]) @h .q H;refine#[o,m+1,.go l q a,b,.pJ,?_,?_];.grind
    .grind
    grind
theorem V3:∀{l:@n},x∈Ap l↔x∈l
 |[]=>.Q|C::l=>by rw[Ap,kc,kc,oy,V3 (l:=l)];grind
theorem TC:∀l:@n,(Ap l).Nodup
 |[]=>by grind[Ap]|y::l=>by rw[Ap,rg];exact#[@E,vJ yE (TC l)]
theorem ajz{U K:@n}(l:@n):(U.filter λx=>!(K++l).contains x).length<=(U.filter .xl).length:=by
 induction U with
 |nil=>simp|cons v V a=>grind
theorem Vi{g:@n}{root:Nat}(H:∀n∈g,∃r,ra T n=O r/\∀k∈r.kids,k∈g):∀(f:Nat)(l:@n),(g.filter λx=>!l.contains x).length<f->(∀x∈l,x∈g)->l.Nodup->(∀x∈l,Reach (ra T) .cj x)->(.sM).Nodup/\(∀x∈l,x∈.sM)/\(∀x∈.sM,Reach (ra T) .cj x)/\∀x∈.sM,∀r,ra T x=O r->∀k∈r.kids,k∈.sM
 |0,l,h,_,_,_=>.t|f+1,l,h,L,t,s=>by
  rw[CL];have u:∀x,x∈Ap .BX↔(∃n∈l,∃r,ra T n=O r/\x∈.bj)/\x∉l:=by grind[V3]
  have Q:=TC .BX;generalize Ap .BX=C at u Q;cases C with
  |nil=>grind|cons y ys=>
   have m:∀x∈y::ys,x∈g:=.h
   simp only[List.isEmpty_cons,qE,if_false];have w:.IM<f:=by have D:=VR (m y jO) ((u y).mp jO).2;have M:=ajz (U:=g) (K:=l++[y]) ys;rw[rP]at M;have M:.IM<=_:=M;omega
   obtain⟨a,b,c,d⟩:=Vi H f (l++y::ys) w .q (by rw[sO];exact#[t,Q,λa p b A q=>((u b).mp A).2 (q▸p)]) λx v=>by
     rcases k8.mp v with v|v;.exact s x v
     .obtain⟨⟨n,B,r,e,I⟩,_⟩:=(u x).mp v;exact .BU (s n B) e I
   grind
theorem ahZ(g:.aR):∃m o,.jJ/\.sp<=180/\.oX/\.jW:=by
 have H:∀n∈.fu,∃r,.f1=O r/\.cs<=60/\∀k∈r.kids,k∈.fu:=λn f=>by obtain⟨m,M⟩:=AX f;refine#[m,M,?_,by grind[To]];have:=(zi g M).2.1;have:=g.k3 .fb;omega
 have s:=Vv g;have L:=agW g;obtain⟨o,m,a,b,c,d,e⟩:=akH H 180 [.eQ] [] .q .q yR;simp only[yM,Cf]at d e;refine#[m,o,#[a,.t,.t,?_,b],.t,.h,λn=>#[?_,λh=>?_]]
 .have:∀l:@n,(∀n∈l,.lK)->(.c1 (j8 B I u)).map .al=l:=by
   intro l;induction l with
   |nil=>simp|cons n l p=>intro h;obtain⟨m,M⟩:=AX (h n jO);grind[OS]
  grind
 .exact a.reach (λx v=>.jr v) .IN n
 .obtain⟨_,q,w⟩:=a.close;induction h with
  |root=>grind|BU _ e hk p=>grind
theorem Uv(s:.dw)(g:.aR):(rh T).Nodup/\∀n,n∈rh T↔Reach (j8 B I u) .eQ n:=by
 have p:ra T=j8 B I u:=funext (L6 s g);have H:∀n∈.fu,∃r,ra T n=O r/\∀k∈r.kids,k∈.fu:=λn f=>by obtain⟨m,M⟩:=AX f;exact#[m,.aW,by grind[To]]
 have q:(.fu).length=T.base.recs.length+(T.one.recs.length+T.two.recs.length):=by unfold univ;simp only[j9,i0];rw[s.b.2.length_eq,s.a0.2.length_eq,s.a1.2.length_eq]
 have l:(CM T).1=.eQ:=by rw[F9 s]
 unfold rh;rw[l,<-q];obtain⟨a,b,c,d⟩:=Vi (root:=.eQ) H ((.fu).length+1) [.eQ] .q (by grind[Vv]) @I .IN
 rw[p]at c d;refine#[a,λn=>#[c n,λh=>?_]];induction h with
 |root=>grind|BU _ e hk w=>grind
theorem SR(s:.dw)(g:.aR)(k:.jG)(h:.jW):(rh T).Perm o:=by grind[Uv]
theorem aek(s:.dw)(g:.aR)(k:.jG)(h:.jW):j5 .c6 .a3:=by refine#[by show(CM T).1=_;rw[F9 s];rfl,?_];show((rh T).filterMap (ra T)).Perm .oN;rw[.IO];exact(SR s g k h).filterMap _
end Tm
namespace Tm
open Vaattx(Rec Flat recOf kidsOf has numOf Three inOrder toldFlat)
open Mx(Tr jM)
theorem UZ[.lv](x:α):l8 x x x=ij:=by grind[l8]
theorem agP(g:.aR)(h:.jR):l8 (.as r) (.as .jT) (.as .jU)=.II:=by
 let#[#[a,_],c,_]:=HW g h;unfold valOf;rw[a,c];cases k:.eb with
 |true=>grind[l8]|false=>
  have one:∀S,.dv->.BV->(.h3).num=0:=λS L e=>by
   unfold jQ at e⊢;cases w:.gH with
   |none=>exact g.b.nz r (kB h) k|some rs=>rw[w]at e;exact L.nz rs (kB w) .q
  rw[one I g.a0 a,one u g.a1 c,g.b.nz r (kB h) k];rfl
theorem Xj(s:.dw)(g:.aR)(f:.lK):wG t B I u n=.IP:=by
 let#[p,Q]:=C8 f;unfold wG has;rw[Q,.lH];ext h;rcases AF g Q with⟨l,M,C,A⟩|⟨l,M,C,A,_⟩;.rw[M,C,A,agP g l,Tf s g l,l];rfl
 grind[UZ]
theorem Xa(s:.dw)(g:.aR)(f:.lK)(z:.af):z∈uC B I u n↔has T.base n=f'/\∃x∈(Fq T n).zipIdx.filter (λx=>x.1.2),z=.IQ:=by
 let#[p,Q]:=C8 f;unfold uC has;rw[Q,.lH];ext h;unfold EY;rcases AF g Q with⟨l,M,C,A⟩|⟨l,M,C,A,_⟩
 .rw[M,C,A,Tu s g l,l];ext n;.intro h;obtain⟨k,hk,rfl⟩:=@Q h;let#[D,a]:=oy.mp hk;have D:=Ay.mp D;refine#[y,((wN p (jQ I n p) (jQ u n p) k,l8 (p.kids.getD k 0) ((jQ I n p).kids.getD k 0) ((jQ u n p).kids.getD k 0)),k),oy.mpr #[List.mem_zipIdx_iff_getElem?.mpr ?_,a],@E];rw[jI,abx D];rfl
  grind
 grind[UZ]
theorem Gz:∀l:.aA,(.c1 f).flatMap k=.es λa=>((f a).map k).getD []
 |[]=>y|a::l=>by
  rw[xj,uM];cases f a with
  |none=>exact Gz l|some b=>show(b::.c1 f).flatMap k=_;rw[uM,Gz l];rfl
theorem ais(n:Nat):∀l:@n,FF n l=l.count n:=by grind[FF]
theorem aef(s:.dw)(g:.aR)(k:.jG)(h:.jW)(n:Nat):(.sA::.BY).count n=FF n (KZ T):=by rw[ais];unfold KZ;rw[F9 s,.IO];show(.eQ::(.oN).flatMap .lw).count n=_;rw[Gz];exact List.Perm.count_eq (((SR s g k h).symm.flatMap_right _).cons _) n
theorem Wi{S:@H}(f:j5 a B)(q:.jQ)(g:.f4)(L:.dv)(r:t4 B S)(n:Nat):n∈o8 t B S↔n∈CK a TS:=by
 unfold o8 CK;simp only[k8];rw[DW f q g,OP f q g L r];have:n∈.r8↔n∈(Fs a TS).map λx=>x.1:=by
  ext n;.intro h;let#[m,M,h]:=sQ.mp h;unfold vp at h;obtain⟨k,hk,rfl⟩:=@Q h;exact jr.mpr #[(m,k),(IA f q g L m k).mp (by grind[om]),y]
  .intro h;obtain⟨⟨m,k⟩,v,rfl⟩:=@Q h;let#[u,M,c]:=sQ.mp ((IA f q g L m k).mpr v);grind[om,vp]
 rw[this]
def JW(T:Three):.eg:=(.hX (.pF 1 n 0))++((if(CM T).2 then .xj else[])++(.IR++((.hY (.pF 3 n 0))++.hZ (.pF 4 n 0))))
theorem Px(T:Three):vN T=inOrder (JW T):=rfl
theorem LG{α β:Type}{f:α->β}{l m:.aA}(h:∀a,a∈l↔a∈m)(z:β):z∈@M f↔z∈m.map f:=.h
theorem XU(s:.dw)(g:.aR)(k:.jG)(w:.st)(H:.oX)(h:.jW)(z:.af):z∈.lL↔z∈(JW T).map lK:=by
 have Q:∀n,n∈o↔n∈rh T:=by grind[Uv]
 unfold pU JW tX;simp only[mR,k8,kQ];have l:.eT=o:=w;have D:z∈((.eT).filter .wX).map (lb 1)↔z∈.hX (lK∘.pF 1 n 0):=by
  rw[l];refine .oj 1 z;rw[oy,oy,<-Q];ext n;.grind[Xj]
  grind[Xj]
 have M:z∈(tI B I u).map .lx↔z∈(if(CM T).2 then .xj else([]:.eg)).map lK:=by unfold tI;rw[F9 s];cases .Bu<;>simp[lK]
 have J:z∈((.eT).flatMap (uC B I u)).map .lx↔z∈(.IR).map lK:=by
  rw[l];ext n;.ext cN;obtain⟨a,x,v,rfl⟩:=(Xa s g (H n f) C).mp m;exact jr.mpr #[(2,nF n,nF (x.2+1)),.h,y]
  .ext cN;obtain⟨p,A⟩:=oy.mp f;obtain⟨x,v,rfl⟩:=@Q m;exact jr.mpr #[.IQ,by grind[Xa],y]
 have p:z∈(xY .a3).map (lb 3)↔z∈.hY (lK∘.pF 3 n 0):=by unfold xY;rw[l];refine .oj 3 z;rw[oy,oy,<-Q,aef s g k h]
 have A:z∈(BE t B I u .a3).map (lb 4)↔z∈.hZ (lK∘.pF 4 n 0):=by
  unfold BE;refine .oj 4 z;rw[oy,oy,k8,k8,Wi s.b s.a0 g.b g.a0 g.p0,Wi s.b s.a1 g.b g.a1 g.p1];have e:has .a3 n=(rh T).contains n:=by
   rw[yP,List.contains_iff_mem,<-Q];unfold has;ext n;.intro q;obtain⟨r,c⟩:=.bV q;grind[ve]
   .intro q;obtain⟨r,c⟩:=wj (F:=.w2) (n:=n) .q;grind
  rw[e]
 rw[D,M,J,p,A];grind
theorem ait(s:.dw)(g:.aR)(k:.jG)(w:.st)(H:.oX)(h:.jW)(c:.wZ):r=(vN T).map lK:=by rw[Px];exact X9 c.1 c.2.2 λz=>(c.2.1 z).trans (XU s g k w H h z)
theorem Mh{α β:Type}{f:α->.ei}{c:Nat}:∀{l:.aA},(∀a∈l,.mf f a<=c)->.mf l.flatMap f<=c*.ac
 |[],_=>.bV|a::l,h=>by rw[uM,j9,lH,Nat.mul_succ];have:=h a jO;have:=Mh (l:=l) .pZ;omega
theorem YN(g:.aR)(h:.f1=O m):.nw<=3:=by rw[(zi g h).2.1];exact g.k3 _
theorem Wj(g:.aR){S:@H}(L:.dv):(o8 t B S).length<=181:=by
 unfold o8;simp only[j9];have D:(oW B S).length<=60:=IB L _;have M:.wH<=60:=.cF (IB g.b _);have r:(.r8).length<=61:=by let#[d,o,_]:=g.b.od;have C:=Ia (f:=.cU B) (g:=vp B S) (by grind[vp]) (l:=.f0) (m:=.jD) yE;have A:=XI o;have a:=g.b.ln;omega
 omega
theorem fits_of(g:.aR)(w:.st)(H:.oX)(L:.sp<=180):.oO:=by
 have a:.eT=o:=w;have x:(.a3).recs.length<=180:=.h
 have h:=Wj g g.a0;have D:=Wj g g.a1;have l:=Iw g.b I;have T:=Iw g.b u;have hk:(.BY).length<=3*180:=ja (Mh (c:=3) λr c=>by obtain⟨n,_,e⟩:=.IS;exact YN g e) @h;have k:(.dM .a3).length<=1+3*180:=by
  unfold tX;rw[a,j9];have m:(tI B I u).length<=1:=by unfold tI;split<;>decide
  have q:(o.flatMap (uC B I u)).length<=3*180:=ja (Mh (c:=3) λn f=>by
   obtain⟨p,Q⟩:=C8 (H n f);unfold uC;rw[Q];ext h;unfold EY;rw[i0];refine .cF ?_;rw[CB];have M:.f1=O (wI ((.gG).getD p) .BR .BT):=by grind[j8]
   have:=YN g M;grind[wI]) (abw _ L);omega
 refine#[ad3 g,λn f=>?_,OI g.b g.a0 g.p0,OI g.b g.a1 g.p1,.t,.t,.t,.t,.t,?_];.rw[a]at f;exact C8 (H n f)
 grind[pU,j9,t5,xY,BE]
theorem U':∀(a:@n){b l:@n}{d:Nat},jM F (a++b) l d->∃c A f C,l=c++A/\jM F a c f/\jM F b A C
 |[],b,l,d,h=>#[[],l,0,d,y,.nil,h]|x::a,b,_,_,h=>by
  cases h with
  |cons u v=>obtain⟨c,A,f,C,rfl,L,q⟩:=U' a v;exact#[_++c,A,_,C,@E,.J u L,q]
theorem aiD(h:jM F [n] l d):∃t,Tr F n l t:=by
 cases h with
 |cons a b=>cases b;grind
def kdOf(s:Nat->.gs)(n:Nat):@n:=((s n).map .lw).getD []
theorem akG{K:@n}(h:.so):∃C,o=K++C/\((∀n∈o,.ee=s n)->(K++(st++C.flatMap (kdOf s))).Nodup->∃d,jM F st C d):=by
 induction h with
 |done=>exact#[[],@E,λ_ _=>#[0,.nil]]|@skip K st o n m M _ I=>grind|@go K st o n m r g e _ I=>
  let#[C,a,I]:=I;refine#[n::C,.h,λv k=>?_];have hk:kdOf s n=.bj:=by grind[kdOf]
  rw[uM,hk]at k;let#[d,T]:=I v (by refine(List.Perm.nodup_iff ?_).mpr k;rw[rP];grind);obtain⟨c,A,x,f,rfl,L,q⟩:=U' _ T;exact#[_,.J (.bX ((v n .q).trans e) L) q]
mutual
theorem X7:∀{n:Nat}{l:@n}{d:Nat},.dO->d<=.ac
 |_,_,_,.node _ k=>by have:=Wv k;grind
theorem Wv:∀{w l:@n}{d:Nat},.fl->d<=.ac
 |_,_,_,.nil=>.bV|_,_,_,.cons a b=>by have D:=X7 a;have M:=Wv b;grind
end
theorem UG(k:.jG)(w:.st)(f:n∈o)(H:.lK):.O .a3 n=.f1:=by let#[m,M]:=AX H;have:=rec_of (F:=.w2) (by rw[show .eT=o from w];exact k) (t6.mpr #[n,f,M]);grind[OS]
theorem agp(g:.aR)(M:.jJ)(H:.oX)(h:.jW)(l:.lL=[]):∃d,Tr .a3 .sA .eT d:=by
 have a:.eT=o:=M.ids;have p:xY .a3=[]:=by unfold pU at l;ext t
 have s:.BY=.BZ:=Gz o;have Q:(.eQ::.BZ).Nodup:=by
  refine Kh.mpr .ll;by_cases v:x∈.eQ::.BZ
  .have k:x∈o:=by
    rcases kc.mp v with rfl|v;.exact(h _).mpr .root
    .let#[n,f,hk]:=sQ.mp v;let#[r,c]:=AX (H n f);unfold kdOf at hk;rw[c]at hk;exact(h _).mpr (.BU ((h n).mp f) c hk)
   unfold xY at p;rw[a,s]at p;have:=List.filter_eq_nil_iff.mp p x k;grind[js]
  .rw[RO.mpr v];omega
 let#[C,e,q]:=akG (F:=.w2) M.dfs;rw[KH]at e;subst e;let#[d,T]:=q (λn f=>UG M.nd M.ids f (H n f)) Q;let#[w,T]:=aiD T;exact#[w,.mj a T]
theorem agm{t:Tc}{B I u:@H}(g:.aR){m rf:Rec}(h:.f1=O m)(v:.jV)(c:.sL):.oW=.fb:=by
 unfold j8 at h;obtain⟨p,Q,rfl⟩:=.M h;ext bN
 .rw[M,C,A];show .oW=.h1;rcases v with rfl|rfl|rfl;.grind
  .exact g.p0 n p rf l c
  .exact g.p1 n p rf l c
 grind[Ma]
theorem adZ(g:.aR)(M:.jJ)(H:.oX)(h:.jW)(w:Tr .a3 .sA .eT d)(T:d<=24)(L:(.a3).recs.length<=60):.aI .a3:=by
 have a:.eT=o:=M.ids;have C:∀r∈(.a3).recs,∃n∈o,.f1=O r:=λr c=>.IS;refine#[#[d,#[.mj a M.nd,w],T],L,.ef,.ef,.ef,.ef];.let#[n,_,e]:=C r c;let#[#[F,rf,_,x,q,ep],_]:=zi g e;rw[<-ep];exact x.pr rf (kB q)
 .let#[n,f,e]:=C r c;let#[_,J,_,_,hk]:=zi g e;apply sP;intro k;rw[jI];by_cases s:k<.cs;.have D:=mP s;let#[F,rf,v,x,q,ep,l]:=hk k _ D;rw[D,CG,<-ep,<-x.fit rf (kB q),jI,l,CG];congr 1;let#[U,Q,_]:=x.od;let#[Y,A]:=wj (Q.in (kB q) (kO l));have y:r.kids[k]∈o:=(h _).mpr (.BU ((h n).mp f) e (ab8 s));let#[mc,p]:=AX (H _ y);rw[wk A,wk ((UG M.nd M.ids y (H _ y)).trans p),agm g p v A]
  grind
 .let#[n,_,e]:=C r c;exact(zi g e).2.2.1
 .let#[n,_,e]:=C r c;exact(zi g e).2.2.2.1
def zT(a:@n)(r:Rec):Rec:={r with id:=oH a .am,kids:=.aO (oH a)}
theorem L5(k:(.b2).Nodup):.oY=.fp (zT .b2):=by
 unfold lz;ext ay;rw[jI,jI,abm];cases h:M.recs[i]? with
 |none=>rfl|some r=>have:oH .b2 .am=i:=Hs k .q;grind[JF,zT]
theorem ahm(s:j5 L M)(g:.aI M):Kq L=lz M:=by
 unfold Kq;have f:=s.nodes g;have e:=s.rec g.nd;have a:(Flat.mk 0 (.fp (zT .b2)))=lz M:=by have:=L5 (M:=M) g.nd;grind[lz]
 rw[<-a];ext h;rw[f];congr 1;have:∀l:.cP,(∀r∈l,.O L .am=O r)->(@M .al).filterMap (λn=>(.O L n).map λr=>{r with id:=.IT,kids:=.aO λn=>.IT})=@M (zT .b2):=by
  intro l;induction l with
  |nil=>simp|cons r l I=>intro h;rw[j6,xj,h r jO,j6,<-I .pZ];rfl
 exact this .jI λr c=>by rw[e];exact rec_of g.nd c
mutual
theorem Zl:∀{n:Nat}{l:@n}{d:Nat},.dO->(.rH l F2 f m)->Tr F2 (f n) (@M f) d
 |_,_,_,.node h k,q=>by let#[r2,C,A]:=q _ jO _ h;exact .bX C (A▸X4 k .q)
theorem X4:∀{w l:@n}{d:Nat},.fl->(.rH l M f m)->jM M (.aE f) (@M f) d
 |_,_,_,.nil,_=>.nil|_,_,_,.cons a b,q=>by rw[mR];exact .J (Zl a .q) (X4 b .q)
end
theorem aew(g:.aI M):.aI (lz M)/\∀r∈.oY,.am<1000:=by
 let#[d,o,T]:=g.od;have q:=L5 (M:=M) o.nd;have I:.kK M=kH .sw:=by
  rw[q];ext ay;rw[jI,jI];by_cases h:i<.sw;.have a:=mP h;rw[a,abx h];show O (oH .b2 _)=_;rw[Hs o.nd (by rw[jI,a];rfl)]
  grind
 have u:(.kK M).Nodup:=.h
 have C:∀(Q:Rec->.n),(∀r∈M.recs,Q (zT .b2 r))->∀r∈.oY,Q r:=.h
 have B:∀m r,.O M m=O r->.O (lz M) (oH .b2 m)=O (zT .b2 r):=λm r h=>by
  have f:zT .b2 r∈.oY:=by grind[kB]
  have:=rec_of u f;rw[<-nZ h];ext Q
 have l:oH .b2 .jH=0:=by let#[r,H,_,e,_]:=o.tr.head;exact Hs o.nd (.jP e)
 have w:Tr (lz M) 0 ((.b2).map (oH .b2)) d:=by have:=Zl (F2:=lz M) (f:=oH .b2) o.tr λm _ r h=>#[_,B m r h,y];grind
 have A:(.b2).map (oH .b2)=.kK M:=by rw[q,kQ,kQ];rfl
 have x:(lz M).recs.length=.sw:=.h
 refine#[#[#[d,#[u,.my A w],T],.mj x g.ln,C _ λr c=>g.pr r c,C _ .ef,C _ λr c=>g.nm r c,C _ λr c=>g.nz r c],.ef];.show(.aO (oH .b2)).map (kK t .oY)=.rv;rw[<-g.fit r c,kQ];refine oM .sI;let#[p,D]:=wj (o.in c hk);show kK t .oY (oH .b2 k)=_;rw[wk (B k p D),wk D];rfl
 .have:.am∈.kK M:=.h
  rw[I,Ay]at this;have:=g.ln;omega
end Tm
namespace Tm
open PySem PySem.Spec PyProof.Rows L2
open Vaattx(Rec Flat recOf kidsOf has Three State)
def jT(c:Tc)(i7:@D)(P:.aP):Tc:={c with i7:=i7,P:=P}
structure Q6(i:Nat)(B F:Flat)(given:Nat):Prop where
 ids:∀n r,recOf F n=O r->(∃rb,recOf B n=O rb/\r.prod=rb.prod)\/(1000*(i+1)<=n/\n<1000*(i+1)+given)
 gv:given<=900
structure qV(t:Tc)(S:State)(T:Three)(B F0 F1:Flat):Prop where
 s:qi T B F0 F1
 b:Good t B
 a0:Good t F0
 a1:Good t F1
 low:∀n r,recOf B n=O r->n<1000
 s0:Q6 0 B F0 S.given0
 s1:Q6 1 B F1 S.given1
theorem WU(L:∀n r,.jR->n<1000)(h:Q6 i B F g):t4 B F:=λn p rs l w=>by
 rcases h.ids n rs w with⟨a,D,M⟩|⟨D,_⟩;.grind
 grind
theorem qV.BF(G:.c5)(h:.jY):.aR:=by
 refine#[h.b,h.a0,h.a1,WU h.low h.s0,WU h.low h.s1,λn C r1 M a=>?_,G.k3];rcases h.s0.ids n C M with⟨p,D,_⟩|⟨D,c⟩;.grind
 .rcases h.s1.ids n r1 a with⟨p,r,_⟩|⟨r,f⟩;.grind
  .have:=h.s0.gv;omega
structure mK(Cd:U)(c:Tc)(Lt:U)(H:Hp)(d dd:U)(S:State)(g:xr)(i7:List U)(P:List Mx.MProd)(G:Hp)(ga:U)(tv:V):Prop where
 gr:S.gram=O g
 ok:nt g (jT c i7 P)
 sub:iu G H
 nd:G d=e'
 nl:G Lt=e'
 gt:yu (jT c i7 P) G ga
 hd:H d=O (.ins Cd dd (lY (.ref ga) tv))
structure oI(C3:U)(t:Tc)(Lt:U)(G H:Hp)(S:State)(T:Three)(D:lW)(B F0 F1:Flat):Prop where
 tr:S.trees=O T
 qC:ks C3 t G H D B F0 F1 S.given0 S.given1
 ns:D.sl≠Lt
 ng:D.gl≠Lt
 ok:qV t S T B F0 F1
def DS(C v:U)(c:Tc)(p:U)(H:Hp)(d:U)(S:State):.n:=∃x,(S.gram=e'/\S.trees=e'/\.sb H d C x (lY .iM .iM))\/∃g i7 P G l M,.fx M/\((S.trees=e'/\M=.iM)\/∃T D B I u,M=.bQ/\.f5)
theorem DS.keep(h:.jZ)(s:.I):DS C v c p L d S:=by
 obtain⟨x,⟨a,M,r⟩|⟨g,i7,P,G,l,f,t,m⟩⟩:=h;.exact#[x,.n #[a,M,.ae r]]
 .refine#[x,@n #[g,i7,P,G,l,f,#[t.gr,t.ok,t.sub.trans s,t.nd,t.nl,t.gt,.ae t.hd],?_]];rcases m with m|⟨T,D,B,I,u,e,m⟩;.grind
  .exact @n #[T,D,B,I,u,e,.IU]
theorem DS.put(h:DS k v c p H d S)(L:.j0):DS k v c p (.bu p xs) d S:=by
 let#[ys,L]:=L;have f:∀{b:U}{C l:U}{w:.bg},.sb H b C l w->.bt .pe b=O (.aF l w):=.Z
 obtain⟨x,⟨q,M,r⟩|⟨g,i7,P,G,y,A,t,m⟩⟩:=h;.exact#[x,.n #[q,M,f r]]
 .have sub:∀G,iu G H->G p=e'->iu G (.bu p xs):=λG s n b o e=>.pf (jg e n) s e
  refine#[x,@n #[g,i7,P,G,y,A,#[t.gr,t.ok,sub G t.sub t.nl,t.nd,t.nl,t.gt,f t.hd],?_]];rcases m with m|⟨T,D,B,I,u,e,m⟩;.grind
  .have a:=m.qC;exact @n #[T,D,B,I,u,e,#[m.tr,#[sub G a.sub t.nl,a.JT,a.JU,f a.hx,.ma m.ns a.hs,.ma m.ng a.hg,a.tb,a.t0,a.t1],m.ns,m.ng,m.ok]]
theorem Fr.of(s:.I):Fr p H L:=λb o e _=>.ae e
theorem X8(h:.jZ)(k:∀a L,.cT->Fr p H L->DS C v c p L d S->.cY r->.aU L):.cG r:=λa L n s e=>k a L n (Fr.of s) (h.keep s) e
theorem Pb{P:.aP}(TG:.c7)(l:.j0)(t:mK Cd c p H d dd S g i7 P G ga .hX)(m:oI C3 .aH p G H S T D B I s)(w:.fZ)(e1:S'.gram=O g)(e2:S'.trees=O T')(e3:S'.given0=.bA (.cb+n) .cb)(e4:S'.given1=.bA .cc (.cc+n))(ok:qV .aH S' T' B (.bA F I) (.bA s F))(k:∀a L,.cT->Fr p H L->DS Cd C3 c p L d S'->.cY ab->.aU L):.h0 n ab:=by
 intro a Y L ha ac M ae;let#[ys,l]:=l;have h:=m.qC;let f:Hp:=λb=>if .IV then e' else L b;have v:∀{b:U},b≠d->b≠p->b≠.bf->b≠D.gl->f b=L b:=.h
 have J:iu G f:=λb o e=>by have n1:=jg e t.nd;have n2:=jg e t.nl;have n3:=jg e h.JT;have n4:=jg e h.JU;rw[v n1 n2 n3 n4];exact M.keep b o (h.sub _ _ e) n3 n4
 have af:iu .dl f:=λb o e=>by
  let#[q1,q2]:=vU e;have r:∀{b':U}{x:HO},H b'=O x->.kw x->b≠b':=.h
  rw[v (r t.hd y) (r l y) (r h.hs y) (r h.hg y)];exact q1
 have aa:iu f L:=λb o e=>by
  by_cases q:.IV;ext bP
  .have:f b=L b:=il q;rw[this]at e;exact e
 have hy:=ae f J af;have kx:∀{b:U}{C dx:U}{fs:.bg},.sb H b C dx fs->.sb L b C dx fs:=λe=>M.keep _ _ e (mI e h.hs @I) (mI e h.hg @I);refine k a L ha (λb o e q=>?_) #[dd,@n #[g,i7,P,f,ga,.bQ,#[e1,t.ok,aa,ip .cS,ip .iV,?_,kx t.hd],@n #[T',#[D.x,.bq,.bf,D.gl,D.b,.bA Y D.a0,.bA D.a1 Y],B,.bA F I,.bA s F,y,#[e2,#[aa,ip (@n .iV),ip (@n .qU),kx h.hx,?_,?_,h.tb.keep J,?_,?_],m.ns,m.ng,ok]]]] ac
 .refine M.keep b o e .f9 .f9
  .rcases q with q|⟨x,u,q⟩;.exact m.ns (z▸q▸y)
   .rw[z,h.hs]at e;grind
  .rcases q with q|⟨x,u,q⟩;.exact m.ng (z▸q▸y)
   .rw[z,h.hg]at e;grind
 .exact t.gt.keep J TG
 .have:=M.sl;rcases w with rfl|rfl<;>exact this
 .have:=M.gl;rw[e3,e4];rcases w with rfl|rfl<;>exact this
 .ext aB;.exact hy
  .exact h.t0.keep J
 .ext aB;.exact h.t1.keep J
  .exact hy
def Kont(C v:U)(c:Tc)(p:U)(H:Hp)(d:U)(Q:VK)(r:.sN):.n:=∀a L,.cT->Fr p H L->DS C v c p L d r.1->.cY .B0->.aU L
theorem Kont.later(k:.b4 r)(s:.I):Kont C v c p L d Q r:=λa I n f g e=>k a I (s.free n) (λb o q z=>f b o (.ae q) z) g e
theorem Kont.no(k:.b4 r)(h:.jZ)(e:r=pY S z):.di z:=by subst e;exact X8 h k
theorem Kont.told(k:.b4 r)(h:.jZ)(e:r.1=S)(A:.B0=a):.cG a:=by subst e A;exact X8 h k
theorem DS.aao(h:.jZ):∃x a M,.sb H d C x (lY a M):=by
 obtain⟨x,⟨_,_,h⟩|⟨g,i7,P,G,l,M,t,_⟩⟩:=h;.grind
 .exact#[x,_,_,t.hd]
theorem old_ne(e:.nv=O o)(D:H w=O x)(M:.kw x):b≠w:=by grind[vU]
theorem Tj{H:Hp}{a b:U}{o:HO}(h:.cT)(k:.cn):a≠b:=.h
theorem Wc{C v:U}{c:Tc}{p:U}{H:Hp}{d h:U}{g:xr}{P:.aP}{l:U}{tv:V}{Q:VK}(TG:.c7){TF:@H}(L:.j0)(t:mK C c p H d h S g i7 P G l tv)(ok:qV .aH (.nR g TF) (CS TF) F F F){r:.sN}(er:r.1=.nR g TF)(aa:.B0=[0,(F.recs.length:Int)])(k:.b4 r):Qv C v .aH d h .d0 H Q F:=by
 intro a Y x dx M D J ha I ab ac;let#[ys,L]:=L;have af:p≠d:=λq=>by rw[q,t.hd]at L;cases L
 let f:Hp:=λb=>if b=d\/b=p\/b=M\/b=D then e' else J b;have s:∀{b:U},b≠d->b≠p->b≠M->b≠D->f b=J b:=.h
 have ae:iu G f:=λb o e=>by have w:=jg e t.nd;have T:=t.sub _ _ e;rw[s w (jg e t.nl) (jg T I.ns) (jg T I.ng)];exact I.keep b o T w
 have A:iu f J:=λb o e=>by
  by_cases q:b=d\/b=p\/b=M\/b=D;ext bP
  .have:f b=J b:=il q;rw[this]at e;exact e
 have m:j7 .aH f Y F:=ab.keep λb o e=>by
  have B:b≠M:=.zP
  rw[rD B]at e;have n4:b≠D:=.zP
  rw[rD n4]at e;rw[s (old_ne e t.hd y) (old_ne e L y) B n4];exact(vU e).1
 refine k a J ha .IW ?_ (aa▸ac)
 .rcases q with q|⟨ag,u,q⟩;.grind
  .rw[z,t.hd]at e;grind
 .rw[er];exact#[h,@n #[g,i7,P,f,l,.a2,#[y,t.ok,A,ip .cS,ip .iV,t.gt.keep ae TG,I.hd],@n #[_,#[x,dx,M,D,Y,Y,Y],F,F,F,y,#[y,#[A,ip (@n .iV),ip (@n .qU),I.hx,I.hs,I.hg,m,m,m],Tj I.ns L,Tj I.ng L,ok]]]]
theorem Ya(g:.bR)(s:j5 k F)(L:∀n r,.ed->n<1000)(a:l.given0=0)(D:l.given1=0):qV t l (CS k) F F F:=#[#[s,s,s],g,g,g,L,#[.h,.t],#[.h,.t]]
theorem Nn(h:o.bind f=O b):∃a,o=O a/\f a=O b:=Option.bind_eq_some_iff.mp h
theorem aeh(TG:.c7)(h:DS C C3 c p H d S)(l:.j0)(s:.aB tl (l4 B))(t:.rB)(k:Kont C C3 c p H d Q (Cs S B)):GR K C c.g .w5 H Q E:=by
 let#[x,u,A,T]:=h.aao;have e3:R0=3000:=y;refine#[d,x,tl,u,A,B,y,T,s,t,λh3=>k.no h ?_,λh3=>?_];.grind[Cs]
 .have M:Cs S B=match Vaattd.grammarOf B with|e'=>.kt 2|O g=>({gram:=O g},.B1):=by grind[Cs]
  cases J:.d6 Mx.wC with
  |none=>
   refine k.no h ?_;rw[M,Mx.VZ];cases Y:Mx.o (o2 B)with
   |none=>simp
   |some ts=>grind
  |some m=>
   let#[ts,Y,J]:=Nn J;refine#[λhk=>k.no h ?_,λhk a r L ha I ac=>?_];.grind[Mx.VZ]
   .let#[g,hg,w]:=Mx.agF Y J hk;rw[M,hg]at k;let#[ys,l]:=l;let f:Hp:=λb=>if b=d\/b=p then e' else L b;have aa:∀{b:U},b≠d->b≠p->f b=L b:=.h
    have v:iu .dl f:=λb o e=>by rw[aa (old_ne e T y) (old_ne e l y)];exact(vU e).1
    have ab:iu f L:=λb o e=>by
     by_cases q:b=d\/b=p;ext bP
     .have:f b=L b:=il q;rw[this]at e;exact e
    let#[dx,sd,pd,ss,ps,q1,q2,q3,q4,q5]:=I.gr;have eS:m.1=g.syms.map Mx.lU:=.kv w
    have D:m.2=g.prods.map Mx.kD:=.kv w
    refine k a L ha .IW #[x,@n #[g,ps,m.2,f,r,.iM,#[y,#[D,I.fi,.h],ab,ip .cS,ip (@n y),#[dx,sd,pd,v _ _ q1,v _ _ q4,q5.imp λa b q=>.bD (.dc v) TG],I.hd],.q9]] ?_;.grind
    .have:[0,(m.1.length:Int),(m.2.length:Int)]=(.B1).code::(.B1).out:=by rw[eS,D,i0,i0];rfl
     grind
theorem aiG(TG:.c7)(h:.jZ)(L:.j0)(T:.aB tl (l4 B))(f:.rB)(k:.b4 (As S B)):∃i7 P,GQ K C v .aH .w5 H Q E:=by
 have a:=h;have e3:R0=3000:=y;obtain⟨x,⟨h1,h2,J⟩|⟨g,i7,P,G,l,tv,m,_⟩⟩:=h;.exact#[[],[],d,x,tl,_,_,B,y,J,T,f,.n #[y,.cp (by grind[As])]]
 .refine#[i7,P,d,x,tl,_,_,B,y,m.hd,T,f,@n #[l,g,y,λU=>.cp ?_,λU=>#[m.gt.keep m.sub TG,m.ok.fi,m.ok.node,?_]]];.unfold As;rw[m.gr];grind
  .have M:As S B=match AE g B with|e'=>.kt 4|O t=>(.nR g (FQ 0 t),o3 [t.size]):=by unfold As;rw[m.gr];grind
   cases w:.d6 (.dL 0)with
   |none=>exact .cp (by rw[M,Ii m.ok (.n w)])|some s=>
    refine#[λA=>.cp (by rw[M,Ii m.ok (@n #[s,w,A])]),λA u=>?_];let#[ts,Y,w]:=Nn w;let#[q,D,w2,I,w4,_]:=Ww m.ok (Mx.Eg Y) w A u;rw[M,D]at k;have aa:(jl 0 s).length=.bw:=sZ 0 s;refine Wc TG L m (TF:=FQ 0 q) ?_ y ?_ k;.refine Ya w4 (by rw[I];exact#[y,Sj _]) (λn r f=>?_) y y;have:=ve f;grind[NL]
    .show(0:Int)::[nF q.size]=[0,((jl 0 s).length:Int)];grind
theorem uZ(s:.dw)(A:Int):j5 .gI .a9:=by
 unfold pF pick;split;.exact s.a0
 .exact s.a1
theorem qV.good(h:.jY)(A:Int):.aI .a9:=by
 unfold pick;split;.exact h.a0
 .exact h.a1
theorem ajD(h:.ed):pQ F .aY=f':=by unfold pQ;exact Fz.mpr #[r,kB h,by rw[nZ h];simp]
theorem DG(h:.jY)(M:.oA≠0):.ec .bG f=pY S .oA:=by
 unfold vQ;unfold ku at M⊢;by_cases w:.rV;.grind
 .rw[.bL]at M⊢;rw[.bL];by_cases c:[.bG].all (pQ .a9)=f';.grind
  .rw[il c];by_cases a:.bG<0;.grind
   .rw[il a,il];intro q;unfold has at q;rw[(.j1).rec (.lM).nd]at q;let#[r,g]:=.bV q;grind[ajD]
theorem Bi(h:.jY)(w:.fZ)(c:.O .a9 n=O r):.ec .aY f=f n:=by
 unfold vQ;rw[.B2,.ev,ip];.rfl
 .unfold has;rw[(.j1).rec (.lM).nd,yI,c];rfl
theorem Wx(h:.jY)(w:.fZ)(s:j5 v F)(f:.bR)(a:∀n r,.ed->.IX\/(.xm<=n/\n<.xm+k))(hk:.xn+k<=900)(g:l.given0=.bA (.cb+k) .cb)(m:l.given1=.bA .cc (.cc+k)):qV t l (aco T A v) B (.bA F I) (.bA u F):=by
 ext aB
 .refine#[#[h.s.b,s,h.s.a1],h.b,f,h.a1,h.low,#[λn r c=>?_,?_],?_]
  .rcases a n r c with⟨C,D,M⟩|⟨D,M⟩
   .rcases h.s0.ids n C D with⟨p,L,q⟩|⟨L,q⟩;.grind
    .exact @n #[L,.IY]
   .have D:1000+.cb<=n:=D;have M:n<1000+.cb+k:=M;exact @n #[.t,.IY]
  .rw[g];exact hk
  .rw[m];exact h.s1
 .refine#[#[h.s.b,h.s.a0,s],h.b,h.a0,f,h.low,?_,#[λn r c=>?_,?_]];.rw[g];exact h.s0
  .rcases a n r c with⟨C,D,M⟩|⟨D,M⟩
   .rcases h.s1.ids n C D with⟨p,L,q⟩|⟨L,q⟩;.grind
    .exact @n #[L,.IZ]
   .have D:2000+.cc<=n:=D;have M:n<2000+.cc+k:=M;exact @n #[.t,.IZ]
  .rw[m];exact hk
theorem aic(h:.jY)(A:Int):.xn<=900:=by
 unfold pick;split;.exact h.s0.gv
 .exact h.s1.gv
theorem O7{P:.aP}(TG:.c7)(L:.j0)(t:mK q c p H d x S g i7 P G l .hX)(m:.f5)(w:.fZ)(s:j5 h F)(f:Good .aH F)(a:∀n r,.ed->.IX)(k:Kont q v c p H d Q (FD S T A h,o3 [])):.h0 0 [0]:=by have hk:=aic m.ok A;exact Pb TG L t m w (S':=FD S T A h) t.gr y .oZ .oZ (Wx m.ok w (k:=0) s f .q @h .oZ .oZ) k
theorem tM{P:.aP}(t:.o0)(m:.f5):.jZ:=#[x,@n #[g,i7,P,G,l,_,t,@n #[T,D,B,I,u,y,m]]]
theorem afx {P:.aP} (TG:.c7) (l:∃ ys,H p=.ji ys) (t:mK C c p H d dd S g i7 P G ga .hX) (q:oI f .aH p G H S T D B I u) (k:Kont C f c p H d Q (.ay (.number A .bG v))):HJ f .aH [.bQ,.h A,.h .bG,.h v] H Q E:=by
 have a:=tM t q;have h:=q.ok;refine#[D,G,B,I,u,.cb,.cc,A,.bG,v,y,q.qC,.xo,λM=>.cp (DG (f:=λn=>.xp) h M),λn r w U s=>?_];subst U;have Y:.ay (.number A .aY v)=.xp:=Bi (f:=λn=>.xp) h w s;rw[Y] at k;have ho:=(.j1).own t.ok .lM s;unfold Cz at k;ext aC;rw[ho] at k;refine#[λaa=>.cp ?_,λx=>#[λL=>.cp ?_,λL=>?_]];.grind
 .grind[Vaatta.TOP]
 .rw[x,.d3,il (by show ¬(v< -999999999999999999\/999999999999999999<v);omega)] at k;refine O7 TG l t q w ?_ (aj3 .lM s x L) (λm r2 J=>?_) k;.exact#[(.j1).1,(.j1).2.map .BQ]
  .rw[NC] at J;obtain⟨r0,h1,rfl⟩:=.M J;grind[zg]
theorem MP(h:.O #[.cj,.bp (mw f F) l] n=O r):∃C,.ee=O C/\.bO=C.prod:=by have M:=(y8.mp (kB h)).2;rw[nZ h,yX]at M;let#[C,a,e]:=.M M;grind
theorem aiI{P:.aP}(TG:.c7)(hl:.pp H v ys)(t:.I0)(a:oI C .aH v G H S T D B I u)(k:Kont Cd C c v H d Q (.ay (.lift A .bG))):IX C .aH [.bQ,.h A,.h .bG] H Q E:=by
 have w:=tM t a;have h:=a.ok;refine#[D,G,B,I,u,.cb,.cc,A,.bG,y,a.qC,.xo,λhu=>k.no w (DG h hu),λn rn M hn x=>?_];subst hn;have e0:.ay (.lift A .aY)=KD S g T A n:=Bi h M x;rw[e0]at k;have s:=.j1;have f:=.lM;let#[dp,o,ag]:=f.od;have ab:.I1=.rX:=by
  cases J:.rX with
  |none=>rw[RJ];intro r ac;have:=adK J (.fw ac);grind|some p=>
   let#[U,p2]:=C4 J;cases hq:.I1 with
   |none=>have:=RJ.mp hq p (s.2.mem_iff.mpr U);grind|some q=>
    have L:=.fw (sI hq);have Y:n∈q.kids:=.h
    rw[o.one L U Y p2]
 unfold KD at k;ext aC;rw[ab]at k;refine#[λJ=>k.no w (by rw[J]),λp J=>?_];rw[J]at k;ext aC;let#[U,p2]:=C4 J;have aa:=rec_of o.nd U;have ae:KC g .gI p.id (RZ g .gI n)=(.q (p.id=.gA)||.q ((.aH).left rn.prod=(.aH).left .h1)):=by unfold KC;rw[.gd x,.gd aa,s.1,yP];grind
 rw[ae]at k;refine#[aa,λah=>k.no w .q,λaf=>?_];rw[af]at k;let#[l,dl,L,Y,q3,q4,q5,q6]:=ajx f x J .q;refine#[l,dl,L,Y,.t,?_];exact O7 TG hl t a M (WT (SM (λm=>.pE m p.id n) s) .I2 L q4 Y).1 q6 (by grind[MP]) k
theorem ag7{P:.aP}(TG:.c7)(L:.j0)(t:.o0)(m:.f5)(k:.b4 (.ay (.reset A))):Io v .aH [.bQ,.h A] H Q E:=by
 have a:=m.ok;have M:.ay (.reset A)=if .rV then .kt 13 else(FD S T A T.base,o3 []):=y;rw[M]at k;refine#[D,G,B,I,u,.cb,.cc,A,y,m.qC,λw=>k.no (tM t m) .bD,λw=>?_];rw[.B2]at k;refine Pb TG L t m w (S':=FD S T A T.base) t.gr y .oZ .oZ ?_ k;ext aB;.exact#[#[a.s.b,a.s.b,a.s.a1],a.b,a.b,a.a1,a.low,#[λn r h=>.n #[r,h,y],a.s0.gv],a.s1]
 .exact#[#[a.s.b,a.s.a0,a.s.b],a.b,a.a0,a.b,a.low,a.s0,#[λn r h=>.n #[r,h,y],a.s1.gv]]
theorem G6(A:Int)(w:.af):ku F0 F1 A w=-13/\.rV\/.fZ/\((.I3=f'/\ku F0 F1 A w=0)\/(.I3=ij/\ku F0 F1 A w=-6)):=.oy
theorem ag4(h:.jY){A a b:Int}{f:Nat->Nat->.sN}(M:.wr≠0):(.ec a λn=>.ec b λm=>f n m)=pY S .wr:=by
 by_cases p:.bj A [a]=0
 .rcases G6 (F0:=I) (F1:=u) A [a]with⟨q,_⟩|⟨g,⟨L,_⟩|⟨_,q⟩⟩;.omega
  .have L:pQ .a9 a=f':=.h
   obtain⟨n,r,rfl,c⟩:=A6 L;rw[Bi h g c];rcases G6 (F0:=I) (F1:=u) A [(n:Int),b]with⟨q,z⟩|⟨_,⟨_,q⟩|⟨k,q⟩⟩;.omega
   .omega
   .rw[q];rcases G6 (F0:=I) (F1:=u) A [b]with⟨_,z⟩|⟨_,⟨w,_⟩|⟨_,w⟩⟩;.omega
    .grind
    grind[DG]
  omega
 grind[DG,G6]
theorem aiH{P:.aP}(TG:.c7)(hl:.pp H v ys)(t:.I0)(p:oI M .aH v G H S T D B I u)(k:Kont Cd M c v H d Q (.ay (.swap A a b))):IW M .aH .Hf H Q E:=by
 have J:=tM t p;have h:=p.ok;have s:=.j1;have f:=.lM;let#[dp,o,ae]:=f.od;refine#[D,G,B,I,u,.cb,.cc,A,a,b,Jc .a9,y,p.qC,.xo,o.rank @h (.j7 f.ln),λhu=>.c0 (ag4 (f:=λn m=>.o1) h hu),λn m rn rm Y hn hm U r=>?_];subst hn hm;have e0:.ay (.swap A .aY (m:Int))=.o1:=(Bi (f:=λn=>.ec (m:Int) λm=>.o1) h Y U).trans (Bi (f:=λm=>.o1) h Y r);rw[e0]at k;let#[ln,dn,qn,xn,sn]:=o.part U;let#[lm,dm,qm,xm,af]:=o.part r;have e:=s.rec o.nd;have en:pV .gI n=ln:=(ya e qn).nodes 200 @h;have em:pV .gI m=lm:=(ya e qm).nodes 200 @h;unfold yK at k;ext aC;rw[en,em,.gd U,.gd r]at k;have hw:(ln.contains m||lm.contains n)=f'↔.Hg:=by rw[o.within qm,o.within qn];grind
 refine#[λw=>.c0 (ip (hw.mpr w)),λw1 w2=>?_];rw[il (λq=>(hw.mp q).elim w1 w2)]at k;refine#[λag=>.c0 .q,λaa=>?_];rw[il (.j0 aa)]at k;let#[l,dl,q1,q2,q3,q4,q5]:=aiE f U r w1 w2 aa;have ah:.ac<=60:=by rw[q4.length_eq,i0];exact f.ln
 refine#[l,dl,q1,q2,.t,?_];have C:=SM .jA s;have hU:.bf (mw .jA .gI) (mw .jA .gI).root l dl:=by have:=ya (C.rec (by grind[CU])) q1;rw[C.1];ext Q
 have ab:t7 (mw .jA .gI)=(.q (60<.ac)||.q (24<dl)):=by unfold t7;rw[show pV _ _=l from hU.nodes 200 q3,show RP _ K9 _=dl from hU.levels 200 q3];rfl
 rw[ab]at k;refine .I4;rw[.jw L]at k;exact O7 TG hl t p Y (Ip C .I2 (by rw[CU];exact q4)) (q5 .q) (λm r2 ac=>MP ac) k
theorem aeg{P:.aP}(TG:.c7)(hl:.pp H M ys)(t:mK Cd c M H d dd S g i7 P G ga .hX)(v:oI C3 .aH M G H S T D B I u)(hL:.aB tl (l4 a))(hn:.c1<=4000)(k:Kont Cd C3 c M H d Q (.ay (.replace A .bG a))):G9 K C3 .aH [.bQ,@h ga,.h A,.h .bG,@h tl] H Q E:=by
 have J:=tM t v;have h:=v.ok;have e3:R0=3000:=y;refine#[D,G,B,I,u,.cb,.cc,A,.bG,ga,tl,a,g,y,v.qC,t.gt.keep t.sub TG,t.ok.fi,t.ok.node,hL,hn,λhu=>.c0 (DG (f:=λn=>.ge a) h hu),λn r w ac C=>?_];subst ac;have e0:.ay (.replace A .aY a)=.ge a:=Bi (f:=λn=>.ge a) h w C;rw[e0]at k;have sm:=.j1;have f:=.lM;have ae:Vaattx.nextOf S A=.xm:=.Q
 have af:Vaattx.givenOf S A=.xn:=y;unfold Cq at k;rw[ae,af]at k;generalize Y:.xm=first at k⊢;refine#[λh3=>.c0 .q,λh3=>?_];ext aC;rw[il (by rw[e3];omega)]at k;cases p:(Mx.o (o2 a)).bind (.dL @z)with
 |none=>exact .c0 (by rw[Ii t.ok (.n p)])|some s=>
  refine#[λhf=>.c0 (by rw[Ii t.ok (@n #[s,p,hf])]),λhf ag=>?_];let#[ts,ho,p]:=Nn p;let#[tr,w1,w2,w3,w4,r0,w5,w6]:=Ww t.ok (Mx.Eg ho) p hf ag;rw[w1]at k;ext aC;rw[w3,w2]at k;have ah:KC g .gI n (tr.sym g)=(.q (n=.gA)||.q ((.aH).left r0.prod=(.aH).left .bO)):=by unfold KC;rw[sm.sym t.ok f C,sm.1,<-w6,yP];grind
  rw[ah]at k;have ai:∀x∈.cB,@z<=x.id/\x.id<@z+.bw:=λx hx=>by obtain⟨i,m,hi,rfl⟩:=DH hx;have:=.jQ hi;exact#[ab5 _ _,Nat.add_lt_add_left .bM _]
  have hold:∀x∈(.a9).recs,x.id<@z:=λx hx=>by
   have aa:=rec_of f.nd hx;ext aB
   .have Y:1000+.cb=@z:=Y;rcases h.s0.ids _ _ aa with⟨rb,q,_⟩|⟨_,q⟩;.have:=h.low _ _ q;omega
    .omega
   .have Y:2000+.cc=@z:=Y;rcases h.s1.ids _ _ aa with⟨rb,q,_⟩|⟨_,q⟩;.have:=h.low _ _ q;omega
    .omega
  have dj:∀x∈(.a9).recs,∀aj∈.cB,x.id≠aj.id:=.h
  refine#[r0,w5,λan=>.c0 .q,λak=>#[dj,.j7 f.ln,?_]];rw[ak]at k;let#[l,dl,q1,q2,q3,q4,q5,q6,q7]:=aev (L:=.gu) f w4 dj C w5 .q;refine#[l,dl,q1,q2,q3,?_];have ab:=WT (adD (L:=.gu) sm f w4 dj (ve C)) q6 q1 q4 q2;rw[.d3]at k;have e9:=ab.2;refine#[λU=>.c0 (ip (e9.trans U)),λU=>?_];rw[il (by intro q;rw[e9,U]at q;cases q)]at k;refine .I4;rw[il (show¬Vaattx.mostGiven<.xn+.bw from Nat.not_lt.mpr L)]at k;rw[abo]at U;have ao:=.cO U.1;have ap:=.cO U.2;have al:=q7 @h @h;refine Pb TG hl t v w (S':=(Vaattx.give (FD S T A .I5) A .bw)) ?_ (T':=aco T A .I5) ?_ ?_ ?_ (Wx h w (k:=s.length) ab.1 al (λm r2 am=>?_) L ?_ ?_) k;.rcases w with rfl|rfl<;>exact t.gr
  .ext aD
  .ext aD
  .ext aD
  .rw[Y];let#[r1,h1,h2]:=MP am;cases hq:.O .a9 m with
   |some rq=>grind[NW]|none=>rw[NX (L:=.gu) hq]at h1;have:=ai r1 (kB h1);grind[nZ]
  .ext aD
  .ext aD
theorem F5(h:.jY)(z:Int):(.jL=e'/\Av T z=e')\/∃F k,.jL=O F/\Av T z=O k/\j5 k F/\.bR:=by
 unfold rH Av;by_cases M:z=2;.subst M;exact @n #[B,T.base,y,y,h.s.b,h.b]
 .rw[il M];by_cases a:z=0;.rw[ip a,ip a];exact @n #[_,_,y,y,h.s.a0,h.a0]
  .rw[il a,il a];by_cases D:z=1;.rw[ip D,ip D];exact @n #[_,_,y,y,h.s.a1,h.a1]
   grind
theorem mK.prods{P:.aP}(TG:.c7)(t:.fx M):pI .aH H:=.xo
theorem X1{P:.aP}(TG:.c7)(t:.fx M)(f:Good .aH F):zZ .aH H F:=by let#[e,o,a]:=f.od;exact#[t.prods TG,t.ok.fi,#[_,e,o.tr,a,by rw[i0];have:=f.ln;omega],f.nm]
theorem XF(G:.c5)(s:j5 k F)(f:.bR):(o3 (yS g k)).code::(o3 (yS g k)).out=0::BG t F:=by rw[s.form G f];rfl
theorem Y2(s:j5 k F)(f:.bR):(o3 (pV k k.root)).code::(o3 (pV k k.root)).out=0::JH F:=by rw[s.nodes f];unfold o3 adq JH;simp
theorem aiJ{P:.aP}(TG:.c7)(t:.I6)(m:.f5)(k:Kont h v c p H d Q (.ay (.form z))):GP v .aH .lz H Q E:=by
 have a:=tM t m;have M:.ay (.form z)=.I7:=y;rw[M]at k;refine .I8;ext cO
 .rw[A]at k;refine#[.dH,λw q=>?_];.grind
  .rw[C]at q;cases q;exact#[X1 TG t f,.eJ (XF t.ok s f)]
theorem ag8{P:.aP}(t:.I6)(m:.f5)(k:Kont h v c p H d Q (.ay (.nodes z))):F7 v .aH .lz H Q E:=by
 have a:=tM t m;have M:.ay (.nodes z)=.I9:=y;rw[M]at k;refine .I8;ext cO
 .rw[A]at k;refine#[.dH,λw q=>?_];.grind
  .rw[C]at q;cases q;exact .eJ (Y2 s f)
theorem Jz:∀{l:.bv},(∀z∈l,.pA=3)->l.flatten.length=3*.ac
 |[],_=>y|z::l,h=>by rw[abZ,j9,h z jO,Jz .q,lH];omega
theorem Ou{L:.eg}{z:.af}(h:z∈L.map lK):.pA=3:=by obtain⟨x,_,rfl⟩:=@Q h;rfl
theorem aei{C v:U}{c:Tc}{p:U}{H:Hp}{d x:U}{g:xr}{P:.aP}{l:U}{T:Three}{D:lW}{B I u:@H}{Q:VK}{E:XK}(t:.o0)(m:.f5)(k:.b4 (.ay (.changes z))):HG v .aH .lz H Q E:=by
 have a:=tM t m;have h:=m.ok;have M:.ay (.changes z)=.Ja:=y;rw[M]at k;refine#[D,G,B,I,u,.cb,.cc,z,y,m.qC,λw=>.cp .bD,λw=>?_];rw[.B2]at k;have s:=uZ h.s z;have f:=h.good z;have r:t4 B .jx:=by
  have:=h.BF t.ok;ext aB;.exact this.p0
  .exact this.p1
 have h1:=Iw h.b .jx;have h2:=Y' (t:=jT c i7 P) h.b f;refine#[OI h.b f r,.t,?_,λzs J A=>.eJ ?_];.rw[Jz λL Y=>Ou ((Py h.s.b s h.b f r L).mp Y)];omega
 .rw[afb h.s.b s h.b f r J A]
structure Fb(t:Tc)(T:Three)(B F0 F1:Flat)(m:Nat)(o:List Nat):Prop where
 me:Meets B F0 F1 m o
 ln:o.length<=180
 un:∀n∈o,n∈univ B F0 F1
 re:∀n,n∈o↔Reach (j8 B F0 F1) (ml B F0 F1) n
 ft:Fits t B F0 F1 (js B F0 F1 o)
 sm:j5 (oO T) (js B F0 F1 o)
 cf:∀zs,EC t B F0 F1 (js B F0 F1 o) zs->zs=(vN T).map lK
 mm:∀z,z∈pU t B F0 F1 (js B F0 F1 o)↔z∈(JW T).map lK
theorem Eh(s:.dw)(g:.aR):∃m o,.sO:=by let#[m,o,D,M,r,a]:=ahZ g;exact#[m,o,D,M,r,a,fits_of g D.ids r M,aek s g D.nd a,λf c=>ait s g D.nd D.ids r a c,λz=>XU s g D.nd D.ids r a z]
theorem Tp(g:.aR)(M:.sO)(k:.lL=[]):∃d,.bf .a3 .sA .eT d/\t7 .c6=.w3/\(t7 .c6=ij->.aI .a3):=by
 let#[d,c]:=agp g M.me M.un M.re k;have a:.eT=o:=M.me.ids;have s:d<=200:=by have:=X7 c;rw[a]at this;have:=M.ln;omega
 have f:.bf .c6 .xq .eT d:=M.sm.1.symm▸ya (M.sm.rec (.mj a M.me.nd)) c;have h:t7 .c6=.w3:=by unfold t7;rw[show pV .c6 .xq=_ from f.nodes 200 s,show RP .c6 K9 .xq=d from f.levels 200 s,i0];rfl
 refine#[d,c,h,.dH];rw[h,abo]at q;have L:=.cO q.1;have l:=.cO q.2;exact adZ g M.me M.un M.re c @h @h
theorem ahY(g:.aR)(M:.sO)(h:.o2=ij->R (-17))(f:.o2=f'->t7 .c6=f'->R (-9))(A:.o2=f'->t7 .c6=ij->.aI .a3->x):D7 t B I u o H R x:=by
 intro r c;have p:=M.cf r c;refine#[λs=>h ?_,λa=>?_];.grind
 .have v:.o2=f':=.aW
  have k:.lL=[]:=by
   cases q:.lL with
   |nil=>rfl|cons z l=>have:=(c.2.1 z).mpr .q;grind
  grind[Tp]
theorem NP[.lv]:∀{l m:.aA},l.Nodup->(∀x∈l,x∈m)->.ac<=m.length
 |[],_,_,_=>.au|x::l,m,k,h=>by rw[rg]at k;have:=NP (l:=l) (m:=m.erase x) k.2 .q;grind
theorem aiK{C v:U}{c:Tc}{p:U}{H:Hp}{d s:U}{g:xr}{P:.aP}{l:U}{T:Three}{D:lW}{B I u:@H}{Q:VK}{E:XK}(t:mK C c p H d s S g i7 P G l .hX)(f:.f5)(k:.b4 (.ay .conflicts)):HH v .aH [.bQ] H Q E:=by
 have a:=tM t f;let#[m,o,M]:=Eh f.ok.s (f.ok.BF t.ok);refine#[D,G,B,I,u,.cb,.cc,m,o,y,f.qC,M.me,M.ft,λr h=>?_];have q:=M.cf r h;have A:.ek<=2000:=ja (NP h.1 λx w=>(h.2.1 x).mp w) (vS M.ft.cl);refine#[?_,.eJ ?_];.rw[Jz (by grind[Ou])];omega
 .rw[q,MF];rfl
theorem VO(S:State)(T:Three)(f:Flat->.sN):R9 S T f=if ! .o2 then .kt 17 else if t7 .c6 then .kt 9 else f .c6:=rfl
theorem OT(g:.aR)(M:.sO)(a:.jZ)(k:.b4 (R9 S T f))(A:.aI .a3->.b4 (f .c6)->x):.gc x:=by rw[VO]at k;refine ahY g M (λq=>.cp (.jP q)) (λL h=>.cp .q) λL h l=>A l ?_;rw[L,h]at k;exact k
theorem ag9{P:.aP}(TG:.c7)(t:.o0)(h:.f5)(k:.b4 (.ay .merge)):F8 v .aH [.bQ] H Q E:=by ext cP;exact#[D,G,B,I,u,.cb,.cc,m,o,y,h.qC,M.me,M.ft,OT q M a k λf k=>#[X1 TG t f,.eJ (XF t.ok M.sm f)]]
theorem afw{P:.aP}(t:.o0)(h:.f5)(k:.b4 (.ay .origin)):FT v .aH [.bQ] H Q E:=by ext cP;exact#[D,G,B,I,u,.cb,.cc,m,o,y,h.qC,M.me,M.ft,OT q M a k λf k=>.eJ (Y2 M.sm f)]
theorem afy{P:.aP}(TG:.c7)(L:.j0)(t:.o0)(a:.f5)(k:.b4 (.ay .accept)):HN C v .aH [.aD] H Q E:=by
 have q:=a.ok.BF t.ok;let#[m,o,M]:=Eh a.ok.s q;refine#[d,x,.cw,D,G,B,I,u,.cb,.cc,m,o,y,t.hd,a.qC,M.me,M.ft,OT q M (tM t a) k λf k=>#[λr h U hk=>?_,?_]];.let#[e,s,_]:=f.od;exact s.in h hk
 .let#[g1,w]:=aew f;have A:=ahm M.sm f;refine Wc TG L t (TF:=Kq .c6) (Ya g1 (by rw[A];exact#[y,Sj _]) (λn r J=>?_) y y) y ?_ k;.have:=w r (kB J);grind[nZ]
  .show(0:Int)::[nF (pV .c6 .xq).length]=_;rw[M.sm.nodes f,i0,L5 f.nd,i0];rfl
section
variable{K:jd}{Cd C3:U}{c:Tc}{Lt:U}{H H':Hp}{d dd:U}{S S':State}{g:xr}{i7:List U}{P:List Mx.MProd}{G:Hp}{ga:U}{tv:V}{T:Three}{D:lW}{B F0 F1:Flat}{Q:VK}{E:XK}{t:Tc}
theorem mK.later(a:mK Cd c Lt H d dd S g i7 P G ga tv)(s:.I H'):.h1 tv:=#[a.gr,a.ok,a.sub.trans s,a.nd,a.nl,a.gt,.ae a.hd]
theorem oI.later(m:oI C3 t Lt G H S T D B F0 F1)(s:.I H'):oI C3 t Lt G H' S T D B F0 F1:=.IU
def wW(K:jd)(Cd C3:U)(c:Tc):Sp:=λa H Q E=>∃i7 P,Qy K Cd C3 .aH a H Q E
theorem tp(C:p≠0)(v:p≠1)(h:DS Cd C3 c Lt H d S)(A:.kz I)(k:.hi (xE S r))(u:xE S r=.oF r 5)(f:∀{dd:U}{g:xr}{i7:@D}{P:.aP}{G:Hp}{ga:U}{T:Three}{D:lW}{B F0 F1:@H}{H':Hp},.I H'->.h1 .hX->oI C3 .aH Lt G H' S T D B F0 F1->Kont Cd C3 c Lt H' d Q (.ay r)->((p=6\/p=7\/p=8)/\.Jb)\/((p=9\/p=10\/p=11\/p=12)/\JE Cd C3 .aH [.aD,.h p] H' Q E)\/((p≠6/\p≠7/\p≠8/\p≠9/\p≠10/\p≠11/\p≠12)/\IY K Cd C3 .aH .Jc H' Q E)):.Jd:=by
 have a:=h;obtain⟨dd,⟨Y,M,J⟩|⟨g,i7,P,G,ga,tv,l,m⟩⟩:=h;.refine#[[],[],d,dd,I,tl,_,_,p,w,y,J,A,λq=>.Z q C,λq=>.Z q v,λ_ _=>.n #[y,.cp ?_]];grind
 .refine#[i7,P,d,dd,I,tl,_,_,p,w,y,l.hd,A,λq=>.Z q C,λq=>.Z q v,λ_ _=>?_];rcases m with⟨M,rfl⟩|⟨T,D,B,F0,F1,rfl,m⟩;.refine .n #[y,.cp ?_];grind
  .have x:.hi (.ay r):=by rw[u,l.gr,m.tr]at k;exact k
   refine @n #[D.x,ga,y,y,.dH,λq H' s=>?_,λL q2 q3 q4 q5 q6 q7 H' s=>?_]
   .have one:∀H',.I H'->.Jb:=λH' s=>by
     rcases f s (l.later s) (m.later s) (x.later s)with⟨_,z⟩|⟨z,_⟩|⟨z,_⟩;.exact z
     .omega
     .omega
    obtain⟨z,rfl,_⟩:=one H .bN;grind
   .rcases f s (l.later s) (m.later s) (x.later s)with⟨z,_⟩|⟨_,z⟩|⟨z,_⟩;.omega
    .exact z
    .omega
   .rcases f s (l.later s) (m.later s) (x.later s)with⟨z,_⟩|⟨z,_⟩|⟨_,z⟩;.omega
    .omega
    .exact z
theorem Og(h:(u.all λ(z:Int)=>abh z 8)=f'):Fm u=O (u.map Int.toNat)/\u.map .a6=l4 (u.map Int.toNat):=by grind[abh,Fm,NeutralIO.bytes,l4,oM]
theorem ahS(h:RA q=O a):pM S q=((xE S a).1,.lG a):=by show Fn S q=_;unfold Fn;rw[h];rfl
theorem ajV(TG:.c7)(h:DS Cd C3 c Lt H d S)(L:.pp H Lt ys)(v:Ci .xr=f')(r:.kz I)(A:.aB tl ((M.headD []).map .a6))(k:∀a H',.cT->Fr Lt H H'->DS Cd C3 c Lt H' d (pM S .xr).1->qd H' a (pM S .xr).2->.aU H'):.Jd:=by
 have x:∀U,RA .xr=O U->.hi (xE S U):=λU e=>by rw[ahS e]at k;exact k
 have aa:∀{H'},.I H'->.pp H' Lt ys:=λs=>by let#[ys,e]:=L;exact#[ys,.ae e]
 let#[dd,Y,tv,l]:=h.aao;unfold Ci at v;split at v<;>rename_i C;.cases C;rw[qr]at v;let#[b1,J]:=Og v.1;exact#[[],[],d,dd,I,tl,Y,tv,0,[],y,l,r,λ_=>aeh (c:=c) (C3:=C3) (S:=S) TG h L (J▸A) .q (x (.grammar _) .B3),.bc,.xs]
 .cases C;rw[qr]at v;let#[b1,J]:=Og v.1;let#[i7,P,q]:=aiG (E:=E) TG h L (J▸A) .q (x (.tree _) .B3);exact#[i7,P,d,dd,I,tl,Y,tv,1,[],y,l,r,.bc,λ_=>q,.xt]
 .cases C;simp only[qr]at v;let#[_,_,v]:=v;let#[b1,J]:=Og v.1;have A:.aB tl (l4 _):=J▸A;refine .dr (x (.replace _ _ _) .B3) y λs f m u=>@n (@n #[.b0,d,_,_,_,I,tl,2,_,y,f.hd,s.seq r,λ_=>#[_,_,y,aeg TG (aa s) f m (s.seq A) .q u],.bc,.bc,.bc,.xs])
 .cases C;refine .p4 x (.number _ _ _) #[.b0,d,_,_,_,I,tl,3,_,y,f.hd,s.seq r,.bc,by grind[afx],.bc,.bc,.xt]
 .cases C;refine .p4 x (.swap _ _ _) #[.b0,d,_,_,_,I,tl,4,_,y,f.hd,s.seq r,.bc,.bc,by grind[aiH],.bc,.t]
 .cases C;refine .p4 x (.lift _ _) #[.b0,d,_,_,_,I,tl,5,_,y,f.hd,s.seq r,.bc,.bc,.bc,by grind[aiI],.t]
 .cases C;refine .dr (x (.form _) y) y λs f m u=>.n #[.b0,_,y,_,_,_,y,by grind[aiJ],.bc,.xs]
 .cases C;refine .dr (x (.nodes _) y) y λs f m u=>.n #[.b0,_,y,_,_,_,y,.bc,by grind[ag8],.xt]
 .cases C;refine .dr (x (.changes _) y) y λs f m u=>.n #[.b0,_,y,_,_,_,y,.bc,.bc,by grind[aei]]
 .cases C;refine .dr (x .conflicts y) y λs f m u=>.j2 #[.b0,d,_,_,_,9,y,f.hd,by grind[aiK],.bc,.bc,.xs]
 .cases C;refine .dr (x .merge y) y λs f m u=>.j2 #[.b0,d,_,_,_,10,y,f.hd,.bc,by grind[ag9],.bc,.xt]
 .cases C;refine .dr (x .origin y) y λs f m u=>.j2 #[.b0,d,_,_,_,11,y,f.hd,.bc,.bc,by grind[afw],.t]
 .cases C;refine .dr (x .accept y) y λs f m u=>.j2 #[.b0,d,_,_,_,12,y,f.hd,.bc,.bc,.bc,by grind[afy]]
 .cases C;refine .p4 x (.reset _) #[.b0,d,_,_,_,I,tl,13,_,y,f.hd,s.seq r,.bc,.bc,.bc,.bc,by grind[ag7]]
 .cases v
end
def Short(r:.sN):.n:=r.2.out.length<=19999
theorem p6(z:Int):.bm (pY S z):=by grind[Short,pY]
theorem afD[Decidable p](D:.bm a)(M:.bm b):.bm (.pB p a b):=.h
theorem sV(h:.ac<=19999):.bm (s,o3 l):=by grind[Short,o3,adq]
theorem C9(h:∀n,.bm (f n)):.bm (.ec .bG f):=by grind[vQ,p6]
theorem UL(G:.c5)(s:j5 k F)(f:.bR):(yS g k).length<=19999:=by rw[s.form G f];let#[d,o,T]:=f.od;have:=A7 G.fi f.nm o.tr 24;rw[i0]at this;have:=f.ln;omega
theorem Th(s:j5 k F)(f:.bR):(pV k k.root).length<=19999:=by rw[s.nodes f,i0];have:=f.ln;omega
theorem Te{L:.eg}{m:.bv}(h:∀z,z∈m↔z∈L.map lK)(M:m.length<=n):(FE (Vaattx.inOrder L)).length<=3*n:=by
 rw[<-MF,Jz λz c=>Ou c];refine abw _ (ja (NP (m:=m) ?_ λz c=>?_) M);.grind[Ln,mv.asymm,lK]
 .obtain⟨x,v,rfl⟩:=@Q c;exact(h _).mpr (jr.mpr #[x,Hg.mp v,y])
theorem Lj(c:.aR)(M:.sO)(h:.aI .a3->.bm (f .c6)):.bm (R9 S T f):=by
 rw[VO];cases a:.o2 with
 |false=>exact p6 _|true=>
  cases L:t7 .c6 with
  |true=>exact p6 _|false=>
   have k:.lL=[]:=by
    cases q:.lL with
    |nil=>rfl|cons z l=>let#[x,v,_]:=@Q ((M.mm z).mp .q);have:=Hg.mpr v;grind[Px]
   grind[Tp]
theorem adE{C L:U}{c:Tc}{p:U}{H:Hp}{d x:U}{g:xr}{P:.aP}{l:U}{k:V}{T:Three}{D:lW}{B I u:@H}(t:.fx k)(r:oI L .aH p G H S T D B I u)(Q:ads):.bm (.ay Q):=by
 have h:=r.ok;have q:=h.BF t.ok;let#[m,o,M]:=Eh h.s q;cases Q with
 |grammar _=>exact p6 _|tree _=>exact p6 _|replace A node J=>refine C9 (f:=λn=>.ge J) λn=>?_;grind[Cq,p6,sV]|number A node v=>refine C9 (f:=λn=>.xp) λn=>?_;grind[Cz,p6,sV]|swap A a b=>refine C9 (f:=λn=>.ec b λm=>.o1) λn=>C9 (f:=λm=>.o1) λm=>?_;grind[yK,p6,sV]|lift A node=>refine C9 (f:=λn=>KD S g T A n) λn=>?_;grind[KD,p6,sV]|form z=>
  show .bm .I7;ext cQ
  .rw[y];exact sV (UL t.ok s f)|nodes z=>
  show .bm .I9;ext cQ
  grind[sV,Th]|changes z=>
  show .bm .Ja;by_cases w:z≠0/\z≠1;.grind[p6]
  .rw[.bL];have sp:t4 B .jx:=by
    unfold pick;split;.exact q.p0
    .exact q.p1
   have:=Te (Py h.s.b (uZ h.s z) h.b (h.good z) sp) (Y' (t:=jT c i7 P) h.b (h.good z));have h2:(FE (KN T.base (pF T z))).length<=3*241:=this;grind[Short]|conflicts=>show .bm (S,{code:=0,out:=FE (vN T)});have:=Te M.mm (vS M.ft.cl);grind[Px,Short]|merge=>exact Lj (f:=λF=>(S,o3 (yS g F))) q M λf=>sV (UL t.ok M.sm f)|origin=>exact Lj (f:=λF=>(S,o3 (pV F .a7))) q M λf=>sV (Th M.sm f)|accept=>exact Lj (f:=λF=>(.nR g (Kq F),o3 [(pV F .a7).length])) q M λf=>sV (show 1<=19999 by decide)|reset A=>exact afD (p6 _) (sV .au)
theorem ael(h:DS f v c p H d S)(Q:ads):.bm (xE S Q):=by
 have C:.bm (.oF Q 5):=by
  obtain⟨x,⟨k,M,q⟩|⟨g,i7,P,G,l,r,t,m⟩⟩:=h;.grind[p6]
  .rcases m with⟨M,rfl⟩|⟨T,D,B,I,u,rfl,m⟩;.grind[p6]
   .rw[t.gr,m.tr];grind[adE]
 cases Q with
 |grammar a=>show .bm (Cs S a);grind[Cs,p6,sV]|tree a=>show .bm (As S a);grind[As,p6,sV]|_=>exact C
theorem ag5(TG:.c7):Z3 K C (wW K C v c) (DS C v c)where
 zero:=λa H d x T _=>#[x,.n #[y,y,T]]
 upd:=λa H d S xs h L=>h.put L
 keep:=λa H l d S h s=>h.keep s
 step:=λa H d S p w B I tl Q E h L m g r k=>by grind[ajV]
 len:=λa H d S q h _=>by
  show(Fn S q).2.length<=20000;unfold Fn;cases RA q with
  |none=>simp
  |some f=>show(.lG f).length<=20000;grind[ael,Short]
end Tm
namespace Tm
open PySem PySem.Spec PyProof.Rows L2
theorem ags(h:f t=f'):.aM f .aC=.zG:=.nZ f t
theorem agr(h:(.dE f)=ij):.k7=([],us):=by
 cases us with
 |nil=>rfl|cons t r=>show(if f t=f' then _ else _)=_;grind
theorem Ta:jb ["reader","kind","names"] .qZ (i4 Mr):=.J
theorem ahC{G:Gc}(F:.D "read_names" Mr f fd)(M:.ky ae):@H ae .dL 2 f fd .qZ (OA G):=by
 refine .t Ta .Ae;obtain⟨R,us,l,c,rfl,B,hk,k⟩:=h;have ab:.b8:=.aO;have aa:∀us:.aj,.d7->(.bt=l↔(.dE c)=f'):=by grind[AD,CW]
 have af:∀(t:jH)(r:.aj),c t=f'->mJ .aC=.um:=λt r v=>by
  rcases hk with⟨rfl,rfl⟩|⟨rfl,rfl⟩;.exact AG v
  .exact LI v
 refine .md (.ag Ta.nd y @q .dJ) (iy (.bv (ju mH (um M ab .ae) @M .aw) (.jx (.ch .ad (Y (O8 M ab iI .ae @M) iw)))) .lf);refine#[.au,λL T=>?_];let W:.cp:=λm σ u=>∃(a:.aJ)(U:.aj),σ=[.eH,.kC l,.ja L]/\m=.k5/\.cj u R U/\jB R.r H u/\qb u L a/\.c1+.k5<=4000/\(.aM c us).1=a++(.aM c U).1/\(.aM c us).2=(.aM c U).2;refine .jY #[_,[],us,y,y,B.same (@t T),.da (@t T),iG,by have:=B.len;grind,y,y];rintro mm σ u⟨a,U,rfl,rfl,g,u',hS,hl,e1,e2⟩;ext z;refine g.kind y .cA;by_cases C:(U.head?.any c)=f'
 .rw[iq (show .aa .B4=.aa l by rw[(aa U g.ok).mpr C])];refine iQ #[λσ' I=>∃m',m'<.k5/\.cT I,.kX,?_];obtain⟨t,r,rfl,v⟩:=ta C;rw[ags v]at e1 e2;refine#[_,y,.jl hS,?_];refine g.Jp (p:=f') y y (by rcases hk with⟨rfl,_⟩|⟨rfl,_⟩<;>decide) #[.cY,λ_=>(aa _ g.ok).mpr C] (λ_ I B2 u2=>?_) .i4;have ac:qb I L a:=(g.keepR u2).lst hS;refine .m5 L ac;.grind[lC,sizeLine]
  rw[af t r v];have ai:R.r≠L:=by let#[n0,B0,_]:=B.at_;exact jg B0.ins T
  have e3:lC a++[.aa .kU]=lC (a++[.ax]):=by grind[lC]
  rw[e3];refine#[.ek,@E,a++[.ax],r,y,y,?_,(.dG u2).Bn T,iG,.h,.h,e2];let#[n,B3,e4]:=B2.at_;refine#[#[n,B3.keeps λb o q D=>?_,e4],B2.wY,B2.short];rw[iC];.exact q
  .intro z;subst z;rcases D with D|D|⟨xs,D⟩;.grind
   .have:H R.l=e':=.h
    let#[n0,B0,_]:=B.at_;rw[B0.lst]at this;cases this
   .rw[ac]at q;grind
 .rw[ir (show¬.aa .B4=.aa l from λq=>C ((aa U g.ok).mp .na))];refine iU .cL;grind[agr]
theorem FU:jb ["reader","name","down","up"] .bE (i4 LN):=.J
theorem afY{G:Gc}(F:.D "read_symbol" LN f fd)(M:.ky p)(T:.dn)(Gn:.L p G.C "read_names" 2 .qZ (OA G) fn ae)(Rc:.dH p G.C "Symbol" G.Cy 3 NY):@H p .dL 3 f fd .bE (WL G):=by
 refine .t FU .ze;ext aJ;have q:.b8:=c.mono @h;refine#[_,iy (.aK FU.nd y @q (.mH M q)) (iy (.ag FU.nd y @q (n8 Gn c (Y .ae .k1))) (iy (.mI M q) (iy (.aL FU.nd y @q (n8 Gn c (Y .ae .k1))) (iy (.mI M q) (.pv Rc c (Y @M .q7)))))),?_];have k:.bc (Mx.qe us) (JL G) Q E:=k;unfold Mx.qe at k;refine B.take y .E (CW B.ok) (λC H1 B1 u1=>?_) (λC=>?_);ext D;.rw[xQ C]at k;exact k H .k8
 obtain⟨t,r,rfl,ht⟩:=ta C;rw[Mx.qw ht]at k;have k:.bc ((.aq 62 (.aM mQ r).2).bind λr'=>(.aq 59 (.aM mQ r').2).bind λu=>O (#[.ax,(.aM mQ r).1,(.aM mQ r').1],u)) (JL G) Q E:=k;refine#[_,y,R,r,_,mQ,y,B1,.q9,λdl H2 D hd nd u2=>?_];have I:=u1.trans u2;ext z;refine D.take y .E (.mq D.sign 62) (λL H3 B3 u3=>?_) (λL=>?_);ext D;.ext ak;rw[.jw L]at k;exact k H2 I
 ext ak;rw[ip L]at k;have k:.bc ((.aq 59 (.B5).2).bind λu=>O (.Je,u)) (JL G) Q E:=k;refine#[_,y,R,_,_,mQ,y,B3,.q9,λg H4 U hu nu u4=>?_];have v4:=.pb I.trans u3 u4;have ab:=(B3.keepR u4).lst ((D.keepR u3).lst hd);ext z;refine U.take y .E (U.sign (b:=59) .z .E) (λaa H5 B5 a=>?_) (λaa=>?_);ext D;.ext ak;rw[.jw aa]at k;exact k H4 v4
 ext ak;rw[ip aa]at k;refine#[_,y,_,y,_,y,y,λx dx l nx ah m v=>?_];have v:l x=O (.ak G.Cy dx (EI (mJ .aC) dl g)):=v;rw[LI ht]at v;have e5:=B5.ext (v4.trans a);have ac:Mx.qe .aC=O (.Je,(.B5).2.drop 1):=by grind[Mx.qe,Mx.qw,Mx.jk]
 exact k .dP l (B5.same m) #[afs B.ok B.len ac,x,y,dx,dl,g,.nv ((e5 x).1 nx) v,by show jt H l dl=_;rw[lh ((B1.ext u1 dl).1 nd)];exact m _ _ ((U.keepR a).lst ab),by show jt H l g=_;rw[lh ((B3.ext (I.trans u3) g).1 nu)];exact m _ _ ((U.keepR a).lst hu)] ((v4.trans a).trans (.da m))
theorem Ll:jb ["reader","place"] .bE (i4 LM):=.J
theorem afX{G:Gc}(F:.D "read_target" LM f fd)(M:.ky ab):@H ab .dL 2 f fd .bE (WK G):=by
 refine .t Ll .E1;ext aJ;refine .md (.aK Ll.nd y @q iY) (.pI (.n4 M c) (iy (.aK Ll.nd y @q .B6) (.jx .B6)) (l7 (Y @M (Y .B6 iw))));have k:.bc (vo us) JB Q E:=k;unfold vo at k;have fin:∀(n:Nat)(a:.aj)(L:Hp),.cj L R a->.d9->.bc ((Mx.kL mQ a).bind λq=>O ((n,.iI),q.2)) JB Q E->∃v,([.eH,.jh n]:L2.St)[1]? =.jI v/\Bq G.C G.Cr E 0 "small" [.eH,.jh n] L λx I=>[v,x].length<=@Q/\∀l,I l=e'->Q .d0 (.az l (@L [v,x])):=λn a L u T D=>by
  refine#[_,y,u.take y .E (AD u.ok) (λg I C m=>#[@Z,λl hl=>?_]) (λg=>?_)];.obtain⟨t,r,rfl,U⟩:=ta g;rw[Mx.qw U]at D;have sm:iu I (.az l (@L [.cd,mJ .aC])):=@t hl;have v2:=T.trans m;refine D .d0 _ (C.same sm) #[l,y,?_] (v2.trans (.da sm));rw[lh ((C.ext v2 l).1 hl),iG,AG U];rfl
  .rw[xQ g]at D;exact D L T
 ext z;refine B.kind y .np;by_cases hk:.uK
 .rw[.lb .bt];obtain⟨t,r,rfl,U⟩:=.la B.ok;rw[.g0 U]at k;ext aa;refine B.take (p:=f') y .E .q (λ_ H1 B1 u1=>?_) .i4;ext z;refine B1.take y .E (B1.sign aab .E) (λaa I C m=>?_) (λaa=>?_);.have k:.bc (((.aq 46 r).bind λr=>O (uR .ax,r)).bind .FS) JB Q E:=k;ext ak;rw[ip (show jP 46 r=f' from aa)]at k;have:=fin (uR .ax) _ I C (u1.trans m) k;rw[FW (.ej U)];ext Q
  grind[oj,Mx.jk]
 .rw[.zs];ext L;have ac:.vJ=ij:=by
   cases h:.vJ with
   |false=>rfl|true=>exact .GE
  rw[xQ ac]at k;exact fin 0 us H B .k8 k
theorem agi(w:.aJ):(.aE txt).Nodup↔w.Nodup:=by
 ext n;.intro h;rw[GN,vL]at h;exact h.imp .q
 .intro h;rw[GN,vL];exact h.imp λc q=>c (tf.mp q)
theorem ahi:jb .nM .nM (i4 Pq):=.cJ
theorem aga(F:.D "all_differ" Pq f a)(x:.fO)(t:mg "set"=e'):.ba .nM NA:=by
 refine .t ahi .cK;obtain⟨l,p,rfl,v,L,k⟩:=h;refine .jW (pG mH (afP y x t .ae) (kA oA .z x lN .ji) .aw);have e:lC p=(p.map txt).map V.str:=by unfold lC;simp
 have q:=v;unfold qb at q;rw[e]at q;refine#[_,y,l,p.map txt,y,@D q,?_,λm M=>?_];.rw[i0];exact qp (Nat.succ_le_succ L) .E
 refine#[_,y,l,_,y,.jD v,y,?_];grind[agi]
section
variable{P:kS}{w:jR}{K:jd}{mg:iA->Option iB}{base:jo}{t:Tc}{C3 Cm Cd:U}
theorem XE{f:U}{a:iZ}(D:.z "form_of" Ez .ch f a)(T:.az)(c:mg "str"=e'):∀j,@H base .aG .bK f a .ch (Ea t j)
 |0=>ahG D.F|j+1=>ajf D.F T c (D.callee (XE D T c j))
end
theorem ale{k:Nat}{ps:.bX}{ι κ:Type}{p:ι->κ->Sp}(h:∀i j,.aX k f a ps (p i j)):.aX k f a ps (λg H Q E=>∃i j,p i j g H Q E)where
 len:=λg H Q E#[i,j,q]=>(h i j).len g H Q E q
 run:=λA I s H M us g Q E c e b r#[i,j,q]=>(h i j).run A I s H M us g Q E c e b r q
theorem kb.mk'(T:kb K c)(i7:@D)(I:.aP):kb K (jT c i7 I):=#[T.G,.aT,T.nP,T.nV,T.nC,.as,T.tR,.bb,T.nr,T.tr]
theorem afc(D:.z "answer_of" Hz .fp f a)(h:∀i7 I,.hj (Qy K C v (jT c i7 I)) f a):.hj (wW K C v c) f a:=D.callee (ale λi j=>(h i j).ok)
theorem afg(T:kb K c)(m:.jN)(F:.D "answers" DJ f a)(M:.bm)(r:mg "Desk"=.ja C)(l:Mk K C L)(g:.he L t)(I:.j9 t)(v:mg "SHAPES"=.ja s)(A:.cP s kvs)(h:.w8)(Q:.hj (wW K C C3 c) x B):@H u (iP P w c.g.C) 196 f a .lC (Dj K):=aeP F M r l (adU g m) I v A h Q (ag5 T.G)
theorem aiM{xs:.af}(w:yl H)(T:.aB Q (.a4 .a6))(p:Rt xs=f'):Dj K [@h Q] H (λv L=>Dw K L v (.list ((Kv xs).map PySem.W.WData.int))) E:=#[Q,xs,y,w,T,p,λa L h=>@E (@D h) (Y8 _)]
theorem dm{h:jo}{x:iA}{st:i5}{ps:.bX}{f:U}{m:iB}{g q:.E U}{A:.py}{kV p B D T:iB}(X:.fI)(G:.p6)(a:SA K .g1 x=O (.ja f))(l:.jz f=O #[m,g,.func .B7,A])(c:KQ K D x=f')(k:Aw K .f6=f')(b:∀(kV p B:iB)(q:.E U)(D T:iB)(us:.Y),.cQ=.bh->bindArgs .B7 .kg=pure .mf):.z x st ps f .B7:=#[P9 l c k,acG X G a,(P9 l c k).binds b]
theorem akC(m:mg "Unreadable"=.ja C)(l:.jz C=O (excClassObj p q C N r [.af "Exception",.af "BaseException",.af "object"] c k sub t L B M A s h u "Exception.__new__"))(Q:.jz N=O #[H,I,.d7 f n,T])(w:(f.toList.all λe=>match e.key with|.str _ _=>f'|_=>ij)=f')(g:(quietNames.all λx=>(nsFind f x).isNone)=f')(X:K.In D):qy mg D C:=#[_,_,_,_,#[m,_,N,p,q,r,c,k,sub,t,L,B,M,A,s,h,u,λx=>nsFind f x,X _ _ l,#[_,f,n,X _ _ Q,y,λe a=>(by
  have:=xp.mp w e (abq.mpr a);split at this;.exact#[_,_,by assumption]
  .cases this),.cY],λx v=>Option.isNone_iff_eq_none.mp (xp.mp g x v),.base],PySem.F.excBase_Exception]
theorem ajW(l:.jz a=O #[.kk,d,.seq M n,c])(z:M.size<=@Q)(v:.b5 M.toList):∀H:Hp,.lY:=λ_=>@n #[_,M,n,l,y,y,z,v]
theorem YP(l:.jz d=O #[.ky,e',.d7 f n,.cU])(s:.jN d)(p:.h2 .rM)(r:(.cu .bS).Nodup):.cP d kvs:=#[s,λh X=>by
 let#[f]:=f;have q:∀{kvs:.aI}{f:@q sW},.h2 f->∃g,.dB/\Pairs .it f g/\g.map .bS=.cu .bS/\∀e∈f,∃k,(.it).is k e.key=f'/\e.hash=(.it).hash k:=by
  intro kvs f h;induction h with
  |nil=>exact#[[],.nil,.nil,y,nofun]|@cons x e _ _ h _ I=>
   let#[g,a,b,c,d]:=I;refine#[(x.1,e.val)::g,.J #[y,h.2.2] a,.J h.1 y b,by simp[c],λT m=>?_];rcases kc.mp m with rfl|m;.exact#[x.1,h.1,h.2.1]
   .exact d T m
 let#[g,a,b,c,d]:=q p;exact#[g,a,_,_,n,X _ _ l,#[y,y,y],y,λe m=>d e (abq.mpr m),b,.mj c r]]
theorem aea{k:Nat}{m:.bX}{l:.cV->.ih}{Q:jR->.ih}{K:xX->jd}{ps:.bX}{sp:jd->Sp}(T:r.wellSaid=f')(I:d.params.defaults=[])(x:r.args.length=.bh)(c:jy k .mJ)(A:.DR)(F:∀(w:jR)(mg:.cV)(t:U)(h:jo),Q w h->(.e8).In h->.p6->mg d.name=.ja t->∃p:iZ,(.nY s p)/\∀u:jo,(.e8).In u->u.Ns .g1 mg->iN r.prog w .e8 mg u (iP r.prog w C) k t p ps (sp .e8))(g:∀(K:jd)(H:Hp)(xs:.L)(a:PySem.W.Codec.denoteAll .fK),yl H->PySem.W.Codec.withinAll .fK a=f'->abV .fK r.asked a=f'->tP K H xs (PySem.W.Codec.encAll .fK a)->sp K xs H (λv L=>Dw K L v (r.ret.enc (abV .fK r.f a))) .tC):acu q m l Q r d [] (λf B=>PySem.call f B):=afl (K:=K) (CX:=λw=>iP r.prog w C) (sp:=λw=>sp .e8) T I x c A F (λw H xs a D M y J=>g .e8 H xs a D M y J) λ_ _ _ _ _#[_,_,_,_,_,_,_,_,z]=>z
def ZY:@q (Int×Nat×Nat):=[(0,0,1),(1,0,1),(2,2,1),(3,3,0),(4,3,0),(5,2,0),(6,1,0),(7,1,0),(8,1,0),(9,0,0),(10,0,0),(11,0,0),(12,0,0),(13,1,0)]
theorem akz(h:∀e∈ZY,∃q,jN kvs (iO e.1)=.ja q/\∀H:Hp,.aJ q [.h (e.2.1:Nat),.j6 (e.2.2=1)]):.w8:=λp n k Q=>h (p,n,k) (by unfold rj at Q;grind(splits:=20)(gen:=20)[ZY])
theorem akl(X:.fI)(G:.p6)(a:∀p∈QM,∃c,SA K .g1 p.1=.jI (.h p.2 c))(b:∀x∈(["len","all","abs","ord","str","dict","list","sorted","set","enumerate","reversed","range","max"]:.bX),SA K .g1 x=O e'):.bm:=#[λx n e=>(by let#[l,r,e]:=List.lookup_eq_some_iff.mp e;let#[c,q]:=a (x,n) (by rw[e.1];simp);exact#[c,acG X G q]),λx v=>PySem.W.mg_none_of X G (b x v)]
section
variable{P:kS}{w:jR}{K:jd}{mg:iA->Option iB}{h base:jo}
theorem all_mk{fa C x l B a m r t v C3 Cm Cd:U}{af:iZ}(cU:.z "answers" DJ .lC fa af)(bb:.qD s af us)(ih:mg "Unreadable"=.ja C)(az:mg "Reader"=.fh)(cV:mg "Expression"=.ja l)(cW:mg "Symbol"=.ja B)(cX:mg "Rule"=.fz)(cY:mg "Production"=.ja m)(cZ:mg "Grammar"=.ja r)(c0:mg "Node"=.ja t)(c1:mg "Tree"=.ja v)(c2:mg "ThreeTrees"=.ja C3)(c3:mg "Merge"=.ja Cm)(c4:mg "Desk"=.ja Cd)(T:kb K .o3)(Q:sv K C3)(L:BK K Cm)(TD:vy K Cd)(M:.bm)(u:∀base:jo,K.In base->qy mg base C)(TR:.qH)(TE:.qI)(Tx:Z6 K mg){aA aB aC aD aF aR:U}(hA:.zo=.ja aA)(DA:.cP aA Em){c5 c6 c7 c8 c9 da db:Tok}(q1:∃I,mg "LONGEST_NAME"=.mi 12 I)(q2:∃I,mg "LONGEST_NUMBER"=.mi 18 I)(q3:mg "SIGNS"=.ja aB)(q4:.cP aB DT)(q5:∃I,mg "DIGITS"=O (@I EN I))(q6:∃I,.n2 mg I)(q7:∃I,mg "SMALL_LETTERS"=O (@I EM I))(q8:mg "WORDS"=.ja aC)(q9:∀H:Hp,.aJ aC D8)(dc:mg "int"=e')(dd:mg "BLANKS"=.ja aD)(de:∀H:Hp,.aJ aD IG)(df:mg "MOST_SYMBOLS"=.mi 12 c5)(dg:mg "MOST_ATTRIBUTES"=.mi 4 c6)(dh:mg "MOST_PRODUCTIONS"=.mi 24 c7)(di:mg "MOST_CHILDREN"=.mi 3 c8)(dj:mg "MOST_RULES"=.mi 24 c9)(aE:.Am=.mi 60 da)(aG:.An=.mi 24 db)(dk:.Hs)(dn:.pO aF 1000 2000)(ag:.wE=.ja aR)(ah:.pO aR (-1) 0){dp:U}{dq:iZ}(aH:.z "is_digit" N' .c4 dp dq){dr:U}{ds:iZ}(aI:.z "is_letter" Ni .c4 dr ds){dt:U}{du:iZ}(aJ:.z "name_end" N8 .ey dt du){dv:U}{dw:iZ}(aK:.z "number_end" Mt .ey dv dw){dx:U}{dy:iZ}(aL:.z "token_end" M6 .ey dx dy){dz:U}{dA:iZ}(aM:.z "sign_of" Ph .c4 dz dA){dB:U}{dC:iZ}(aN:.z "token_of" N2 ["piece"] dB dC){dD:U}{dE:iZ}(aO:.z "tokens_of" M5 .iS dD dE){dF:U}{dG:iZ}(dH:.z "read_number" GC .aF dF dG){dI:U}{dJ:iZ}(dL:.hF dI dJ){dM:U}{dN:iZ}(dO:.z "read_name" Hv .aF dM dN){dP:U}{dQ:iZ}(dR:.z "read_atom" Hw .aF dP dQ){dS:U}{dU:iZ}(dV:.z "read_signed" GB .aF dS dU){dW:U}{dX:iZ}(dY:.z "read_choice" GD .aF dW dX){dZ:U}{d0:iZ}(aP:.z "read_whole" Df .aF dZ d0){d1:U}{d2:iZ}(aQ:.z "read_expression" Nf .bE d1 d2){d3:U}{d4:iZ}(aT:.z "read_names" Mr .qZ d3 d4){d5:U}{d6:iZ}(aU:.z "read_symbol" LN .bE d5 d6){d7:U}{d8:iZ}(aV:.z "read_target" LM .bE d7 d8){d9:U}{ea:iZ}(aW:.z "read_rule" Na .bE d9 ea){eb:U}{ec:iZ}(aX:.z "read_production" Nb .bE eb ec){ed:U}{ee:iZ}(aY:.z "demand" Pt .q3 ed ee){eg:U}{eh:iZ}(aZ:.z "attributes_of" Qq .nD eg eh){ei:U}{ej:iZ}(a0:.z "check_expression" QK .vc ei ej){ek:U}{el:iZ}(a1:.z "all_differ" Pq .nM ek el){em:U}{en:iZ}(a2:.z "to_be_defined" Qg .vm em en){eo:U}{eq:iZ}(a3:.z "check_targets" LR .vn eo eq){er:U}{es:iZ}(a4:.z "check_trees" Nj .jf er es){et:U}{eu:iZ}(a5:.z "check_symbols" Od .vq et eu){ev:U}{ew:iZ}(a6:.z "check_productions" Nk .jf ev ew){ex:U}{ey:iZ}(a7:.z "read_grammar" Nd .iS ex ey){ez:U}{eA:iZ}(a8:.z "symbol_of" Qh .ch ez eA){eB:U}{eC:iZ}(a9:.z "parent_of" Pn .ch eB eC){eD:U}{eE:iZ}(ba:.z "is_within" Pe .vE eD eE){eF:U}{eG:iZ}(bc:.z "rebuilt" N6 .n2 eF eG){eH:U}{eI:iZ}(bd:.z "read_value" Mq .bE eH eI){eJ:U}{eK:iZ}(be:.z "end_brackets" Qk .rr eJ eK){eL:U}{eM:iZ}(bf:.z "read_node" Nc .vL eL eM){eN:U}{eO:iZ}(bg:.z "check_children" Oe ["nodes"] eN eO){eP:U}{eQ:iZ}(bh:.z "read_tree" M' .rC eP eQ){eR:U}{eS:iZ}(bi:.z "with_value" N0 .vV eR eS){eT:U}{eU:iZ}(bj:.z "levels_of" Po .bP eT eU){eV:U}{eW:iZ}(bk:.z "is_too_large" M4 .bP eV eW){eX:U}{eY:iZ}(bm:.z "form_of" Ez .ch eX eY){eZ:U}{e0:iZ}(bn:.z "renumbered" Qj .bP eZ e0){e1:U}{e2:iZ}(bo:.z "unknown" N1 .hR e1 e2){e3:U}{e4:iZ}(bp:.z "may_stand" Ng .ox e3 e4){e5:U}{e6:iZ}(bq:.z "reset" Qi .lp e5 e6){e7:U}{e8:iZ}(br:.z "set_number" Mn .wt e7 e8){e9:U}{fb:iZ}(bs:.z "swap" QG .wv e9 fb){fc:U}{fe:iZ}(bt:.z "lift" QH .ww fc fe){ff:U}{fg:iZ}(bu:.z "replace" N5 .wx ff fg){fh:U}{fi:iZ}(bv:.z "kept_nodes" QI .ca fh fi){fj:U}{fk:iZ}(bw:.z "changed_numbers" Qn .ca fj fk){fl:U}{fm:iZ}(bx:.z "changed_places" Qm .ca fl fm){fn:U}{fo:iZ}(bz:.z "worked_on" Pd .ca fn fo){fp:U}{fq:iZ}(bA:.z "changes_of" Of .ca fp fq){fr:U}{fs:iZ}(bB:.z "clash" Ql .ck fr fs){ft:U}{fu:iZ}(bC:.z "merged_one" Mu .ck ft fu){fv:U}{fw:iZ}(bD:.z "roots_of" N4 .bo fv fw){fx:U}{fy:iZ}(bE:.z "values_of" M3 .ck fx fy){fz:U}{fA:iZ}(bF:.z "children_at" LS .sf fz fA){fB:U}{fC:iZ}(bG:.z "three_of" N3 .oL fB fC){fD:U}{fE:iZ}(bH:.z "merged_node" LP .ck fD fE){fF:U}{fG:iZ}(bI:.z "merged_tree" LO .bo fF fG){fH:U}{fI:iZ}(bJ:.z "standing_twice" KU .bP fH fI){fJ:U}{fK:iZ}(bK:.z "lost_work" Nh .eR fJ fK){fL:U}{fM:iZ}(bL:.z "clashing_places" KL .eR fL fM){fN:U}{fO:iZ}(bM:.z "conflicts_of" Lr .eR fN fO){fP:U}{fQ:iZ}(bN:.z "merge_of" N9 .bo fP fQ){fR:U}{fS:iZ}(bO:.z "refusal_of" Mp .ly fR fS){fT:U}{fU:iZ}(bP:.z "tree_called" LK .eS fT fU){fV:U}{fW:iZ}(bQ:.z "in_one_row" QZ .sy fV fW){fX:U}{fY:iZ}(bR:.z "bytes_of_form" Qo .bP fX fY){fZ:U}{f0:iZ}(bS:.z "tell_form" M7 .eS fZ f0){f1:U}{f2:iZ}(bT:.z "tell_nodes" Ml .eS f1 f2){f3:U}{f4:iZ}(bU:.z "tell_changes" Lq .lp f3 f4){f5:U}{f6:iZ}(bV:.z "tell_conflicts" Pg .bo f5 f6){f7:U}{f8:iZ}(bW:.z "tell_merge" Mm .bo f7 f8){f9:U}{ga:iZ}(bX:.z "tell_origin" LL .bo f9 ga){gb:U}{gc:iZ}(bY:.z "begin_with" Qp .sB gb gc){gd:U}{ge:iZ}(bZ:.z "accept" Pu ["desk"] gd ge){gf:U}{gg:iZ}(b0:.z "take_tree" M8 .jO gf gg){gh:U}{gi:iZ}(b1:.z "take_grammar" M9 .jO gh gi){gj:U}{gl:iZ}(b2:.z "answer_of_one_tree" N7 .sC gj gl){gm:U}{gn:iZ}(b3:.z "answer_of_merge" LQ .sD gm gn){gp:U}{gq:iZ}(b4:.z "answer_of_edit" QJ .fp gp gq){gr:U}{gs:iZ}(ai:.z "answer_of" Hz .fp gr gs){b5:U}{b6:iZ}(gu:.bb "Symbol.__init__" NZ b5 b6)(gv:.aT b6 .u0 [])(gw:Mk K B b5){b7:U}{b8:iZ}(gx:.bb "Rule.__init__" Qc b7 b8)(gy:.aT b8 .u2 [])(oh:Mk K a b7){b9:U}{ca:iZ}(gz:.hG b9 ca)(gA:.aT ca .u3 [])(gB:Mk K m b9){cb:U}{cc:iZ}(gC:.bb "Grammar.__init__" M0 cb cc)(gD:.aT cc .u4 [])(gE:Mk K r cb){cd:U}{ce:iZ}(gF:.bb "Node.__init__" Qe cd ce)(gG:.aT ce .u5 [])(jX:Mk K t cd){cf:U}{cg:iZ}(gH:.bb "Tree.__init__" Qb cf cg)(gI:.aT cg .u6 [])(gJ:Mk K v cf){ch:U}{ci:iZ}(gK:.bb "Merge.__init__" Pc ch ci)(gL:.aT ci .u7 [])(gM:Mk K Cm ch){aj:U}{ak:iZ}(gN:.hy aj ak)(cj:.j9 ak)(ck:Meth K x "kind" aj){al:U}{am:iZ}(gO:.hz al am)(cl:.aT am .gi [])(cm:Meth K x "take" al){cn:U}{co:iZ}(gP:.hA cn co)(gQ:.aT co .gi [])(gR:Meth K x "skip" cn){cp:U}{cq:iZ}(gS:.hC cp cq)(gT:.j9 cq)(gU:Meth K l "count_part" cp){cr:U}{cs:iZ}(gV:.hD cr cs)(gW:.j9 cs)(gX:Meth K l "enter" cr){ct:U}{cu:iZ}(gY:.hE ct cu)(gZ:.aT cu .uy [])(mleave:Meth K l "leave" ct){an:U}{ao:iZ}(g2:.bb "Reader.__init__" Pm an ao)(cv:.aT ao .hy [])(cw:Mk K x an){ap:U}{aq:iZ}(g3:.hB ap aq)(g4:.j9 aq)(g5:Mk K l ap){ar:U}{au:iZ}(g6:.hU ar au)(g7:.aT au .lB [])(g8:Mk K C3 ar){cx aS:U}{cy:iZ}{kvs:.aI}(g9:Mk K Cd cx)(ha:.he cx cy)(hb:.j9 cy)(hS:mg "SHAPES"=.ja aS)(MD:.cP aS kvs)(hc:.w8):∃fd:iZ,(.qD s fd us)/\∀base:jo,K.In base->base.Ns .g1 mg->.dZ 196 fa fd .lC (Dj K):=by refine#[af,bb,λbase XB _=>afg (c:=.o3) (C3:=C3) T TD cU.F M c4 g9 ha hb hS MD hc (afc (c:=.o3) ai λi7 Pr=>?_)];have T:=T.mk' i7 Pr;have u:=u _ XB;have c:∀{n st ps f g k sp},.z n st ps f g->@H base (iP P w (jT .o3 i7 Pr).g.C) k f g ps sp->.L base (jT .o3 i7 Pr).g.C n k ps sp f g:=λD=>D.callee;have hd:.ed "Symbol" B 3 NY:=#[cW,_,_,_,gw,ahR gu T.G.y T.G.yN T.G.yD T.G.yU,gv];have he:.ed "Rule" a 2 Jk:=#[cX,_,_,_,oh,akg gx T.G.u T.G.uT T.G.uX,gy];have hf:.ed "Production" m 5 Lo:=#[cY,_,_,_,gB,ada gz T.G.p T.G.pN T.G.pL T.G.pH T.G.pC T.G.pR,gA];have hg:.ed "Grammar" r 2 MZ:=#[cZ,_,_,_,gE,agf gC T.G.g T.G.gS T.G.gP,gD];have J:.ed "Node" t 3 zM:=#[c0,_,_,_,jX,akh gF .aT T.nP T.nV T.nC,gG];have Y:.ed "Tree" v 2 zL:=#[c1,_,_,_,gJ,akf gH .as T.tR .bb,gI];have hh:.ed "Merge" Cm 2 O5:=#[c3,_,_,_,gM,ajo gK L.cl L.nT L.nC,gL];have aa:=c aH (aeJ aH.F);have cz:=c aI (adT aI.F);have hi:=c aJ (aeI aJ.F u .bn q1 cz aa);have hj:=c aK (ac9 aK.F u .bn q2 aa);have hl:=c aL (afq (adN aL.F u q3 q4 cz aa hi hj));have hm:=c aM (af0 aM.F q5 q6 q7 aa);have hn:=c aN (aeD aN.F q3 q4 q8 q9 q6 dc hm aa);have ho:=c aO (adM aO.F dd de .bn hl hn);have cA:.dZ 5 an ao .hy (HM K C x):=af5 g2 TR ho;have hp:.dZ 1 ap aq .eC (Nz l):=af' g3 TE;have hq:.dZ 1 ar au .lB (Nw C3):=afU g6 Q;have gk:.dZ 1 aj ak .eC (HL x):=af4 gN TR;have gt:.dZ 1 al am .gi (HK C x):=af2 gO u TR;have A:.b0 base C x l:=#[TR,TE,u,#[_,_,gk,cj,ck],#[_,_,gt,cl,cm],#[_,_,af3 gP TR gk cj ck gt cl cm,gQ,gR],#[_,_,aeM gS u TE,gT,gU],#[_,_,aeL gV u TE,gW,gX],#[_,_,aeK gY TE,gZ,mleave]];have hr:=aP.callee (U5 A Tx hA DA aP dY dV dR dL dO dH 31);have hs:=bm.callee (XE (P:=P) (w:=w) (base:=base) (t:=jT .o3 i7 Pr) bm T .bn 24);have ht:=c aQ (ajg aQ.F A cV g5 hp g4 hr);have cB:=c aT (ahC aT.F A);have hu:=c aU (afY aU.F A T.G cB hd);have hv:=c aV (afX aV.F A);have hw:=c aW (ai8 aW.F A T.G hv ht he);have hx:=c aX (ai9 aX.F A T.G cB hw hf);have ab:=c aY (agb aY.F u);have cC:=c aZ (ahQ aZ.F T.G);have hy:=c a0 (ajj a0.F T.G .bn ab cC);have cD:=c a1 (aga a1.F .bn .bn);have hz:=c a2 (ahw a2.F T.G .bn .bn);have hB:=c a3 (ajk a3.F T.G .bn ab hz);have hC:=c a4 (ahJ a4.F T.G .bn .bn ab);have hD:=c a5 (ahK a5.F T.G .bn df dg ab cC cD);have hE:=c a6 (ahL a6.F T.G .bn .bn dh di dj ab cD hB hy);have hF:=c a7 (aje a7.F A T.G .bn az cw cA cv hu hx hD hE hC hg);have ac:=c a8 (ahx a8.F T);have cE:=c a9 (af6 a9.F T);have hG:=c ba (afS ba.F cE);have av:=c bc (aeH bc.F T .bn J Y);have hH:=c bd (ahv bd.F A);have hI:=c be (ahH be.F A);have hJ:=c bf (ai' bf.F A T hH J);have hK:=c bg (aeN bg.F T u);have cF:=c bh (adR bh.F A T az .bn aE aG cw cA cv hJ hI hK Y);have hL:=c bi (aeB bi.F T .bn J Y);have hM:=c bj (af8 bj.F T .bn);have aw:=c bk (adL bk.F T .bn aE aG hM);have hN:=c bn (ahB bn.F T .bn .bn J Y);have y:=c bo (aeC bo.F T Q M);have cG:=c bp (adS bp.F T ac);have hO:=c bq (ahA bq.F T Q y);have hP:=c br (af1 br.F T Q M y hL);have hQ:=c bs (ai7 bs.F T Q M y hG ac av aw);have hR:=c bt (ajc bt.F T Q M y cE ac av cG);have hT:=c bu (aeF bu.F T Q M u dk dn y cF ac av cG aw);have cH:=c bv (ajd bv.F T);have cI:=c bw (ahN bw.F T cH);have cJ:=c bx (ahM bx.F T M ag ah cH);have hU:=c bz (afR bz.F T ag ah cI cJ);have hV:=c bA (aeO bA.F T M cI cJ);have cK:=c bB (ahI bB.F);have cL:=c bC (ac' bC.F);have cM:=c bD (ahz bD.F T Q);have cO:=c bE (ai6 bE.F T);have cP:=c bF (af9 bF.F T);have ax:=c bG (aeE bG.F T Q);have hW:=c bH (ahF bH.F T M cL cP cO J);have hX:=c bI (ahE bI.F T M cL cM ax hW Y);have hY:=c bJ (ahy bJ.F T);have hZ:=c bK (ajb bK.F T Q hU);have h0:=c bL (ajl bL.F T M ag ah cK cM ax cP);have h1:=c bM (aji bM.F T M cK ax cO h0 hY hZ);have ae:=c bN (ahD bN.F hX h1 hh);have ay:=c bO (aeG bO.F L M aw);have cQ:=c bP (agd bP.F Q M);have cR:=c bQ (akd bQ.F);have cS:=c bR (ahO bR.F T M hs);have h2:=c bS (adO bS.F T M cQ cS);have h3:=c bT (ac7 bT.F T M cQ);have h4:=c bU (afV bU.F T Q M y hV cR);have h5:=c bV (afW bV.F L ae cR);have h6:=c bW (ac8 bW.F T L ae ay cS);have h7:=c bX (acP bX.F T L M ae ay);have cT:=c bY (ahP bY.F T TD M c2 g8 hq g7);have h8:=c bZ (age bZ.F TD L ae ay hN cT);have h9:=c b0 (adP b0.F T TD M u cF cT);have ia:=c b1 (adQ b1.F T.G TD M u hF);have ib:=c b2 (ake b2.F M h2 h3 h4);have ic:=c b3 (ak8 b3.F TD M h5 h6 h7 h8);have ie:=c b4 (ajh b4.F TD M hT hP hQ hR hO);have ig:=c ai (adV ai.F TD M ia h9 ib ic ie);exact ig
end
end Tm
end
open PySem PySem.W PyProof.Rows
set_option hygiene false
local macro_rules|`(tactic|walk_at"bind")=>`(tactic|(first|(exact match us,hl with|[_],_=>rfl)|(exact match us,hl with|[_,_],_=>rfl)|(exact match us,hl with|[_,_,_],_=>rfl)|(exact match us,hl with|[_,_,_,_],_=>rfl)|(exact match us,hl with|[_,_,_,_,_],_=>rfl)|(exact match us,hl with|[_,_,_,_,_,_],_=>rfl)))
local macro_rules|`(tactic|walk_at"tup")=>`(tactic|(refine Tm.ajW (by k_is) (by decide) ?_;repeat(first|exact .nil|refine .cons (by first|rfl|exact⟨_,rfl⟩) ?_)))
local macro_rules|`(tactic|walk_at"dict")=>`(tactic|(refine Tm.YP (by k_is) (by rfl) ?_ (by decide+kernel);repeat(first|exact .nil|refine .cons ⟨by rfl,by rfl,by first|rfl|exact⟨_,rfl⟩⟩ ?_)))
local macro_rules|`(tactic|walk_at"c")=>`(tactic|first
 |(show L2.lS _ _;exact⟨by k_is,by k_is,by k_is,by k_is⟩)|(show findIn _ _ _=_;k_is)|decide|exact⟨_,mg_of KX G (by k_is)⟩)
set_option maxHeartbeats 0 in
theorem PySem.Challenge.cw_treemerge_s01_answers_holds : PySem.Challenge.rw_treemerge_s01_answers.Holds := by
 refine q_h ?_;k_fillS;refine' Tm.aea (r:=aaJ) (k:=196) (ps:=["calls"]) (sp:=Tm.Dj) (by decide+kernel) y y ⟨y,by decide,by decide⟩ (λw h Y=>PySem.W.kIn_of Y) ?F ?S;case F=>
  intro w mg fa h Y KX G hmg;have DA:=Tm.dm (x:="answers") (st:=Tm.DJ) (ps:=["calls"]) KX G (by k_is) (by k_is) (by k_is) (by k_is) λ_ _ _ _ _ _ us hl=>match us,hl with|[_],_=>rfl;cases hmg.symm.trans DA.E4;have m1:mg "Unreadable"=some (.ref _):=mg_of KX G (by k_is);have m2:mg "Reader"=some (.ref _):=mg_of KX G (by k_is);have m3:mg "Expression"=some (.ref _):=mg_of KX G (by k_is);have m4:mg "Symbol"=some (.ref _):=mg_of KX G (by k_is);have m5:mg "Rule"=some (.ref _):=mg_of KX G (by k_is);have m6:mg "Production"=some (.ref _):=mg_of KX G (by k_is);have m7:mg "Grammar"=some (.ref _):=mg_of KX G (by k_is);have m8:mg "Node"=some (.ref _):=mg_of KX G (by k_is);have m9:mg "Tree"=some (.ref _):=mg_of KX G (by k_is);have m10:mg "ThreeTrees"=some (.ref _):=mg_of KX G (by k_is);have m11:mg "Merge"=some (.ref _):=mg_of KX G (by k_is);have m12:mg "Desk"=some (.ref _):=mg_of KX G (by k_is);apply Tm.all_mk DA (λs us hu=>match us,hu with|[_],_=>.of_eq rfl) m1 m2 m3 m4 m5 m6 m7 m8 m9 m10 m11 m12;case T=>constructor;(constructor<;>walk_at"c");all_goals walk_at"c"
  case Q=>constructor<;>walk_at"c"
  case L=>constructor<;>walk_at"c"
  case TD=>constructor<;>walk_at"c"
  case TR=>constructor<;>walk_at"c"
  case TE=>constructor<;>walk_at"c"
  case Tx=>constructor<;>exact⟨_,mg_of KX G (by k_is),by walk_at"tup"⟩
  case M=>
   refine Tm.akl KX G ?_ ?_;.repeat(first|refine Kj.mpr ⟨⟨_,by k_is⟩,?_⟩|exact nofun)
   .repeat(first|refine Kj.mpr ⟨by k_is,?_⟩|exact nofun)
  case u=>exact λbase X=>Tm.akC m1 (by k_is) (by k_is) (by rfl) (by rfl) X
  all_goals try(refine Tm.dm KX G (by k_is) (by k_is) (by k_is) (by k_is) λ_ _ _ _ _ _ us hl=>?_;walk_at"bind")
  all_goals try(exact mg_of KX G (by k_is))
  all_goals try(exact⟨_,mg_of KX G (by k_is)⟩)
  all_goals try(exact mg_none_of KX G (by k_is))
  all_goals try(show L2.Mk _ _ _;exact⟨by k_is,by k_is,by k_is,by k_is⟩)
  all_goals try(show L2.Meth _ _ _ _;exact⟨by k_is,by k_is,by k_is⟩)
  all_goals try(exact L2.P9 (by k_is) (by k_is) (by k_is))
  all_goals try(exact L2.Binds.all λus hl=>by walk_at"bind")
  all_goals try walk_at"tup"
  case MD=>
   refine' Tm.YP (kvs:=[(iO 0,.ref _),(iO 1,.ref _),(iO 2,.ref _),(iO 3,.ref _),(iO 4,.ref _),(iO 5,.ref _),(iO 6,.ref _),(iO 7,.ref _),(iO 8,.ref _),(iO 9,.ref _),(iO 10,.ref _),(iO 11,.ref _),(iO 12,.ref _),(iO 13,.ref _)]) ?a (by rfl) ?b ?c;case a=>k_is
   case b=>repeat(first|exact .nil|refine .cons ⟨by rfl,by rfl,by rfl⟩ ?_)
   case c=>decide+kernel
  case hc=>exact Tm.akz (by repeat(first|refine Kj.mpr ⟨⟨_,by rfl,by walk_at"tup"⟩,?_⟩|exact nofun))
  all_goals walk_at"dict"
 case S=>
  intro K H xs a hO hwi alM hx;cases hx with
  |cons h1 h2=>
   cases h2;cases h1 with
   |lst hs ha=>have e:=L2.Y0 a.1 _ ha;subst e;exact Tm.aiM hO hs alM
