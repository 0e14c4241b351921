import PyProof.Rows.All
import Wide.All
import OpenK.AllK
import Wide.FinOn
import Lean
import PyProof.EqAt
import PyProof.EqKinds
import PyProof.TupleCall
import PyProof.ListRange
import PyProof.StrCalls2
import PyProof.StrWalks
import PyProof.EnumMake
import PyProof.Rows.Range3
import PyProof.SliceStr
import PyProof.StrLawsChain
import PyProof.DictValues
import PyProof.StrLawsIdx
import KE.KDictList
import PyProof.Rows.SortRunsK
import PyProof.Rows.Walk
import KE.KSortTup
import PyProof.ExcInit
import PyProof.StationsW
import PyProof.ExcArgsOwn
import PyProof.InstStoreFacts
import KE.KIsAll
import PyProof.ExcBaseAll.ValueError
import PyProof.RulesAs
import PyProof.NsDelKeeps
import PySem.Challenge.RW_restdraw_k43_meetings_of_a_web
set_option Elab.async false
set_option linter.all false
set_option maxRecDepth 100000
local macro_rules | `(tactic| omega)=>`(tactic| lia)
noncomputable section
open PySem renaming wpAny_bind->aa,Value->af,Addr->ag,Shared->aj,wpAny_pure->aq,wpAny->br,mainGlobals->cu,Program->cw,Around->dj,Heap->eH,World->eK,wpAny_holding->eQ,FuncData->fj,Expr->fm,Stmt->fq,wpAny_newObj_type->fu,mem_of_lookup->iX,wpAny_mono->jc,boot_len->jr,wpAny_field->jt,wpAny_truthy_bool->kj,wpAny_loadPart_at->kv,wpAny_standAt->mh,sizeLine_eq->mj,wpAny_call_entry->mv,sizeLine->my,NameKind->ng,wpAny_passesOwn->ou,wpAny_loadPart'->ow,Model->qt,Scope->qw,wpAny_forIn_list->rf,wpAny_callSpecial?_slot->rg,wpAny_seqItems->rm,wpAny_pyIter_tuple->sk,wpAny_Call_Name_kw->so,Fin->uc,wpAny_rule->uo,wpAny_setField->uu,PyData->vm,wpAny_comprehension_free->vq,wpAny_execs_nil->wa,Builtin->wb,wpAny_specialOf->we,codeAny_builtin->wg,wpAny_pyIter_list->xh,isSubtype_tuple_tuple->yf,wpAny_call->yj,wpAny_newFunctionEnv->zc,codeAny_call_builtin->zh,wpAny_isSubtype_exc->AF,codeAny_mono->AJ,wpAny_typeOf->AK,wpAny_newFunctionEnv_cells->AZ,wpAny_tupleItemsOf->Ak,wpAny_tryCatch->Ap,slot_list_getitem->Ax,wpAny_letGo->BE,wpAny_getItem_list_slice->BG,Comprehension->BJ,plainId_quiet->BN,noFill_tuple_add->BV,wpAny_isInstance->Ba,wpAny_pyNext_list_item->Bd,IsPart->Bg,wpAny_Call_method_late->Bi,call_meets->Bk,ExcBaseFacts->Bo,wpAny_updateSeq->Bw,wpAny_pyNext_list_end->Bx,codeAny_call_function->By,Paired->CD,wpAny_loadPart->CQ,BindsTo->CY,seq_tuple_add->Ck,evalPart_none->Cm,wpAny_attempt->Co,wpAny_newList->Cp,wpAny_assign_Name->DG,concat_meets->DL,wpAny_sequenceKey->DM,seqIndex_neg->DN,Keyword->DO,wpAny_pyIter_enum->DT,wpAny_eqBool_int->Dk,wpAny_execs_cons->Dl,Result->Do,wpAny_madeBy_exc->EE,seqIndex_of->EJ,wpAny_of_eq->EL,intItems_at->EM,wpAny_tests_nil->EU,codeAny_of_tree->EV,GenState->EY,wpAny_Name->EZ,wpAny_bindName->Ea,call->Ef,numAt_eq->Eh,refuseLoop_ref->Es,PassesOwn->FZ,Arguments->Fd,Within->Ff,ReadsAll->Fy,HeapKind->GB,Params->GF,Reads->GN,Code->GS
open PySem.W renaming Frag->ai,nsIn->eB,findIn->eV,keepIn->iD,kia_one->iI,fnOf->iN,mroIn->ip,kitOne->ir,mg_of->jj,specialIn->kl,findCls->oz,codeIn->qz,callWith_K->wj,cellsFrom_some->xj,typeIn->xw,looks_mroIn->zg,readsIn->AC,instIn->Ao,methodObj->Av,hasDictIn->Aw,looks_findIn->Bp,instObj->Bq,takesIn->Br,OpenLaw->Bs,Looks->Bv,methodCall_KW->CB,lookIn->CG,subIn->Cq,codeRec_of->Cv,mg_none_of->DB,kitx_list->DI,kitx_dict->DJ,plainGet->Dm,InstAt->Eb,WalkO->FV,Frag->GR
open PySem.Heap renaming get?_push_of_some->ak,lt_size->bf,get?_push_size->cv,get?_update_other->eA,get?_update_self->ff,get?_update_ne->lj,SameBut->lz,size_push->ni,get?_none_of_le->yx,get?_push_at->Df,size_update->ED,MadeExcOf->Er,ExtBut->Fw
open List renaming getElem?_eq_getElem->ao,getElem?_eq_some_iff->au,length_map->bg,getElem?_map->bq,getElem?_append_right->bu,pairwise_append->dc,size_toArray->dq,length_append->du,getElem?_append_left->dw,mem_of_getElem?->eJ,append_assoc->eM,mem_cons_of_mem->eY,mem_append_right->eg,mem_singleton->eu,take_of_length_le->fb,mem_cons_self->fe,getD_eq_getElem?_getD->fg,length_drop->fh,mem_append->gf,mem_cons->gu,length_take->gw,length_cons->gy,map_append->iM,getElem?_set_ne->iO,mem_iff_getElem->iR,take_append_drop->iT,map_cons->iV,drop_eq_nil_of_le->ig,pairwise_singleton->je,length_singleton->jg,perm_append_comm->jh,getElem?_set_self->jo,append_nil->jq,extract_eq_take_drop->jv,mem_append_left->lh,contains_cons->ml,length_filter_le->mw,replicate->nh,pairwise_iff_getElem->oo,length->ph,range->qg,getElem?_take_of_lt->qi,length_reverse->qv,getElem_mem->si,take_length->sj,filterMap_cons->um,nodup_cons->uq,mem_range->uz,reverse_append->vo,filter_append->vy,mem_filter->vz,length_set->wc,foldl_cons->wd,zip_cons_cons->wk,getElem?_drop->wq,length_eq_zero_iff->wx,pairwise_map->xt,flatMap_singleton->yb,length_replicate->yd,pairwise_reverse->ye,mem_iff_getElem?->yg,getElem_inj->yi,length_nil->yl,lookup_cons->ym,drop_append->yn,take_succ->yq,mem_map->yt,nil_perm->yu,map_drop->yv,take_append_of_le_length->zd,filter_cons->zk,of_mem_zip->zm,flatMap_append->AG,map_nil->AL,getElem?_concat_length->AQ,idxOf_lt_length_of_mem->AR,filterMap_map->Ab,nodup_nil->Ac,drop_drop->Af,nil_append->Ah,pairwise_cons->Ai,drop_eq_getElem_cons->As,getElem_drop->BB,nodup_append->BD,length_range->BF,any_cons->BH,all_eq_true->BW,any_eq_true->BX,mem_reverse->BY,pairwise_mergeSort->BZ,find?_cons->Bu,getElem?_reverse->Bz,drop_zero->CK,mem_of_mem_take->CN,reverse_reverse->CO,length_take_le'->CT,mergeSort_perm->Ce,length_pos_iff->Cf,length_take_le->Ci,map_take->Cr,mem_filterMap->Cu,reverse_cons->DP,getElem_take->DY,ext_getElem?->Da,reverse_perm->Dd,map_map->Dg,mem_toArray->Dx,not_mem_nil->Dy,perm_middle->EB,map_snd_zip->EC,getD->EF,flatMap_def->EG,lookup->EK,range_succ->EX,drop_take->El,take_take->Em,all_cons->FU,reverse->Fn,range'->GA,drop->GT
open PyProof.Rows renaming Keyed->av,wpS_bind->bh,boot_isinstance->cf,pendingOf->ck,arrOf->cm,wpS_pure->cn,SortSt->de,slot_tuple_getitem->gz,wpS_forRange->iC,SortKind->iw,wpS_modify->jf,boot_tuple->ji,callWith_type1->ma,boot_list->me,boot_abs->nv,wpS_mono->qa,failedOf->qb,boot_int->uh,boot_min->ui,IntsAre->uj,wpS_get->xq,callWith_builtin1->yk,reverseSlice'_eq->yo,get?_update_seq->AA,AllBare->AH,assignInOrder_cons->AW,listUpdate_at->BM,boot_sorted->BR,subscriptTail_builtinR->Bh,boot_max->CC,IsTup->CF,lt_int->CZ,entry_tuple_getitem->Ca,args_tuple_getitem->Cy,assignInOrder_nil->DH,listItems_at->De,seqEpoch_at->EO,slicePart_none->Ed,Subscript_->Ee,boot_divmod->FX,importsNone->FY,boot_any->Fp
open Nat renaming le_refl->ba,lt_of_lt_of_le->be,lt_of_le_of_lt->cj,ne_of_lt->dh,le_trans->gk,zero_le->iA,lt_irrefl->iQ,add_assoc->jm,min_eq_left->ju,mul_le_mul->ki,lt_trans->md,pow_le_pow_right->pk,le_of_lt->va,lt_or_ge->vc,le_mul_of_pos_right->wy,mul_assoc->yw,ne_of_gt->AI,lt_succ_of_lt->BA,le_succ->BC,gcd_comm->Bl,gcd_zero_right->DC,lt_or_eq_of_le->DF,le_of_eq->DQ,gcd->DU,add_zero->DZ,sub_self->Dc,min_le_right->Dp,min_eq_right->Dv,lt_succ_self->Dz,add_mul->ER,pow_succ->Fj,zero_add->Fk,mul_comm->Fm,mod_lt->GL
open Int renaming mul_pos->bc,eq_of_mul_eq_mul_left->eF,mul_eq_zero->eZ,gcd->iE,mul_neg_of_neg_of_pos->iF,toNat_natCast->iZ,natAbs_mul->iu,mul_nonneg_of_nonpos_of_nonpos->jd,mul_comm->jx,zero_mul->jy,lt_trichotomy->ku,eq_ofNat_of_zero_le->lg,mul_neg_of_pos_of_neg->om,not_le->tm,le_of_lt->tu,mul_zero->tx,natAbs_dvd_natAbs->ue,sub_self->vg,mul_pos_of_neg_of_neg->vk,lt_or_gt_of_ne->wm,fdiv_eq_ediv_of_dvd->wz,gcd_dvd_right->xn,natCast_emod->yp,emod_nonneg->AD,ediv_mul_cancel->AE,fdiv_eq_ediv_of_nonneg->AX,fmod_eq_emod_of_nonneg->AY,eq_of_mul_eq_mul_right->Ad,mul_nonneg->Ae,emod_lt_of_pos->Aq,neg_mul->CM,mul_lt_mul_left->Cb,natAbs_natCast->DD,ne_of_gt->DW,gcd_dvd_left->EA,mul_one->EI,neg_dvd->EN,neg_eq_zero->EW,natAbs_pos->Ej,ediv_one->Fi
open Bool renaming false_eq_true->bj,false_ne_true->cq,eq_false_iff->fv,and_eq_true->gi,eq_iff_iff->iH,not_true->jl,false_and->kh,true_and->ud,or_true->xv,or_eq_true->zw,not_eq_true'->DX,not_false->Ek
open PySem.Value renaming ref->eD,none->iK,int->mq,bool->mz,builtin->vw,type->yh,str->CW,float->EH,isStrOf->FG,isInt->Fq,bytes->Ft
open Option renaming map_eq_some_iff->eE,toList_some->ua,none->wu,map_some->zo,getD_none->Dq,bind_some->Du,map->Eo
open Array renaming length_toList->eI,toList_append->eN,getElem?_eq_some_iff->ez,size_push->fw,size_extract->iG,getElem?_toList->ik,getElem?_setIfInBounds->ja,toList_extract->qc,toList_push->qf,size_append->uk,toList_reverse->ux,getElem?_setIfInBounds_ne->yc,mem_toList_iff->yz,append_assoc->AU,toList_setIfInBounds->Ag,forIn_toList->Al,getElem_mem->Az,size_setIfInBounds->BL,toList_modify->Cc,size_reverse->DA,toList->Fg,getD->GK
open Option.some renaming inj->eO,injEq->GM
open PySem.PyData renaming eqv->eW,canLayAll0->eX,canLay0->iJ,depthAll->iS,depth->jb,eqvAll->qq,int->DE,strOk->Dh
open ForInStep renaming yield->gj,done->uw
open PySem.SeqAt renaming shaped->iB,canLay_of_shaped->tf,EqAt->Bf,in_tupleAt->Dr,in_listAt->ET
open False renaming elim->iL
open PySem.Obj renaming data_mapFields->iP,isFreed_of_fields->jw,mapSeq->qk,mapFields->ql,data_mapDictKeys->CP
open PySem.F renaming plain_min_loop->iU,slot_list_append->jz,type_list_append->kg,slot_tuple_iterator_next->nu,slot_tuple_hash->rz,slot_tuple_eq->ug,args_tuple_add_2->vp,entry_tuple_add->wt,slot_tuple_add->xk,entry_min_loop->ya,args_tuple_iterator_next_1->zu,slot_dict_setdefault->AB,entry_tuple_iterator_next->AM,excAttr_ValueError->Am,excBase_ValueError->An,plainAttrs_tuple->BO,slot_tuple_index->BP,type_tuple_index->BQ,slot_list_insert->BS,type_list_insert->BU,slot_list_index->Bb,type_list_index->Bc
open PySem.Builtin.Tuple renaming tupleHashOf->iW,tupleExact->qj,tupleItemsOf->ur,tupleCompareSizes->Di,tupleIsExact->Ei
open Ne renaming symm->iY
open PySem.Builtin.Slice renaming slicePlaces->og,sliceAdjust->vh,sliceApplied->Aa,slicePartIndex->ES,sliceFields->FF
open PySem.Builtin.SmallTypes renaming nextOf->oh
open List.Perm renaming trans->oy,append_right->tz,append_left->uf,refl->xp
open True renaming intro->qh
open PySem.Heap.SameBut renaming update->qu,refl->DR
open PySem.Str renaming ofString->sv
open List.Nodup renaming length_le_of_subset->yr
open PySem.Builtin.BaseException renaming bexcPut->zi
open PySem.Around renaming under_plainId->zj,under->Be,frames_deeper->CH
open PySem.Builtin.List renaming listExtendWith->AN
open PySem.Builtin.Builtins renaming bindParams->AO
open PySem.Calls renaming Name_function_global->AV,callWith_builtin->Bj,evalArgs_plain->CJ
open PySem.Code renaming quiet_builtin->Aj,isFrame->DK,isGuard->Fh,frames->Fu
open PySem.Challenge renaming rw_restdraw_k43_meetings_of_a_web->Ar
open Classical renaming byContradiction->Au,epsilon_spec->Bm,epsilon->DV
open List.Pairwise renaming nil->Ay,filter->GC,map->GO
open PyProof renaming noPylong_of_log2->BI
open PySem.NameKind renaming free->BK
open PyProof.Rows.SortSt renaming mk'->Bn
open PySem.PassesOwn renaming never->Bt
open PySem.SeqAt.EqAt renaming bool_bool->CI,int_str->Cs,str_int->Ct,int_int->Cw
open Std.Legacy.Range renaming forIn_eq_forIn_range'->CL,size->Fo
open Sum renaming inl->CU,inr->CV
open PySem.EntryCells renaming newEntry->Cg
open PySem.Paired renaming length->Cj
open PySem.Heap.IsSliceOf renaming new->Cz
open Nat.Coprime renaming dvd_of_dvd_mul_left->Dj
open Or renaming inl->Ds,inr->Eg
open PySem.MeetsSeq renaming EqGives->Dw
open Prod renaming ext->Ec
open PySem.Builtin.Dict renaming keyAndDefault->Ep
open PySem.EqNone renaming eq_none_none->Et,eq_none_bool->Eu,eq_bool_none->Ew,ne_none_none->FA,ne_none_bool->FB,ne_bool_none->FC,eq_none_int->FH,eq_none_str->FI,eq_int_none->FJ,eq_str_none->FL,ne_none_int->FN,ne_none_str->FP,ne_int_none->FQ,ne_str_none->FS
open PySem.EqMixed renaming eq_bool_str->Ey,eq_str_bool->Ez,ne_bool_str->FD,ne_str_bool->FE,eq_int_str->FK,eq_str_int->FM,ne_int_str->FR,ne_str_int->FT
open PySem.Value.ref renaming inj->FW
open PySem.Builtin.Range renaming rangeSize->Fb
open And renaming intro->Fe
open PySem.MeetsSeq.EqGives renaming int->Fv
open PySem.Builtin.Int renaming intBits->GE
open PySem.W.WShape renaming has->GG
open PySem.SeqAt.Reads renaming unique->GH
open PySem.Walks renaming list->GI
open PUnit renaming unit->GJ
open PySem.Flow renaming next->GP
open PySem.W.WData renaming int->GQ
open PySem.W.Looks renaming ld->GU
theorem yS0:0<=my:=by decide
theorem yS1:1<=my:=by decide
theorem yS2:2<=my:=by decide
theorem yS3:3<=my:=by decide
theorem yS4:4<=my:=by decide
theorem yS8:8<=my:=by decide
theorem yS12:12<=my:=by decide
theorem yS16:16<=my:=by decide
namespace L2
open PySem PySem.Spec PyProof.Rows
abbrev Key:=Sum Int Str
def mU:Key->af->Bool
 | .inl k,v=>Fq k v
 | .inr x,v=>FG x v
def kRP (w:eK):Key->Int
 | .inl k=>hashInt k
 | .inr x=>hashStr w x
theorem qY:∀ {k:Key} {v:af},mU k v=true->(∃ i t,k=CU i/\v=mq i t)\/(∃ x t,k=CV x/\v=CW x t)
 | .inl i,v,h=>by
  obtain ⟨t,e⟩:=Value.isInt_shape (k:=i) (v:=v) h;exact .inl ⟨i,t,rfl,e⟩
 | .inr x,v,h=>by
  obtain ⟨t,e⟩:=Value.isStrOf_shape (x:=x) (v:=v) h;exact .inr ⟨x,t,rfl,e⟩
theorem kEL (i:Int) (t:Tok):mU (.inl i) (.int i t)=true:=by simp [mU,Fq]
theorem kEK (x:Str) (t:Tok):mU (.inr x) (.str x t)=true:=by simp [mU,FG]
theorem kOB (a b:Int):decide ((CU a:Key)=CU b)=(a == b):=by
 by_cases e:a=b
 ·subst e;simp
 ·have h:¬ (CU a:Key)=CU b:=λ q=>e (Sum.inl.inj q)
  rw [decide_eq_false h];exact (beq_eq_false_iff_ne.mpr e).symm
theorem kNX (a b:Str):decide ((CV a:Key)=CV b)=decide (a=b):=by
 by_cases e:a=b
 ·subst e;simp
 ·have h:¬ (CV a:Key)=CV b:=λ q=>e (Sum.inr.inj q)
  rw [decide_eq_false h,decide_eq_false e]
theorem kOA (a:Int) (b:Str):decide ((CU a:Key)=CV b)=false:=decide_eq_false (λ q=>nomatch q)
theorem kNY (a:Str) (b:Int):decide ((CV a:Key)=CU b)=false:=decide_eq_false (λ q=>nomatch q)
def qL (prog:cw) (w:eK):PySem.KeyKind prog w Key where
 is:=mU
 hash:=kRP w
 inj:=λ v a b ha hb=>by
  rcases qY ha with ⟨i,t,rfl,rfl⟩ | ⟨x,t,rfl,rfl⟩
  ·rcases qY hb with ⟨j,u,rfl,e⟩ | ⟨y,u,rfl,e⟩
   ·injection e with e1 _;rw [e1]
   ·exact nomatch e
  ·rcases qY hb with ⟨j,u,rfl,e⟩ | ⟨y,u,rfl,e⟩
   ·exact nomatch e
   ·injection e with e1 _;rw [e1]
 byValue:=λ k v h=>by
  rcases qY h with ⟨i,t,rfl,rfl⟩ | ⟨x,t,rfl,rfl⟩<;>rfl
 pyHash:=λ hv h=>by
  rcases qY hv with ⟨i,t,rfl,rfl⟩ | ⟨x,t,rfl,rfl⟩
  ·exact wpAny_pyHash_int h
  ·exact wpAny_pyHash_str h
 eqBool:=λ hu hv h=>by
  rcases qY hu with ⟨i,t,rfl,rfl⟩ | ⟨x,t,rfl,rfl⟩
  ·rcases qY hv with ⟨j,u,rfl,rfl⟩ | ⟨y,u,rfl,rfl⟩
   ·rw [kOB] at h;exact Dk h
   ·rw [kOA] at h;exact Cs i t y u _ _ _ _ h
  ·rcases qY hv with ⟨j,u,rfl,rfl⟩ | ⟨y,u,rfl,rfl⟩
   ·rw [kNY] at h;exact Ct x t j u _ _ _ _ h
   ·rw [kNX] at h;exact wpAny_eqBool_str h
 «strs»:=λ k x t v h=>by
  rcases qY h with ⟨i,u,rfl,e⟩ | ⟨y,u,rfl,e⟩
  ·exact nomatch e
  ·injection e with e1 _
   subst e1;cases v<;>rfl
theorem sQ (prog:cw) (w:eK) (i:Int) (t:Tok):(qL prog w).is (.inl i) (.int i t)=true:=kEL i t
theorem sP (prog:cw) (w:eK) (x:Str) (t:Tok):(qL prog w).is (.inr x) (.str x t)=true:=kEK x t
inductive V where
 | non | bl (b:Bool) | int (i:Int) | str (x:Str) | byt (b:Array UInt8) | flt (b:UInt64) | ref (a:ag) | ty (n:String)
 deriving DecidableEq
def RelV:V->af->Prop
 | .non,u=>u=iK
 | .bl b,u=>u=mz b
 | .int i,u=>∃ t,u=mq i t
 | .str x,u=>∃ t,u=CW x t
 | .byt b,u=>∃ t,u=Ft b t
 | .flt b,u=>∃ t,u=EH b t
 | .ref a,u=>u=eD a
 | .ty n,u=>u=yh n
abbrev Vals:List V->List af->Prop:=CD RelV
theorem Vals.length {xs:List V} {us:List af} (r:Vals xs us):xs.length=us.length:=Cj r
theorem Vals.get:∀ {xs:List V} {us:List af} {i:Nat} {x:V},Vals xs us->xs[i]?=some x->∃ u,us[i]?=some u/\RelV x u
 | _,_,_,_,.nil,e=>by simp at e
 | _,_,0,_,.cons r _,e=>by simp at e;subst e;exact ⟨_,rfl,r⟩
 | _,_,i+1,x,.cons _ t,e=>by
  obtain ⟨u,h1,h2⟩:=Vals.get (i:=i) (x:=x) t (by simpa using e);exact ⟨u,by simpa using h1,h2⟩
theorem Vals.set {x:V} {u:af} (r:RelV x u):∀ {xs:List V} {us:List af} (i:Nat),Vals xs us->Vals (xs.set i x) (us.set i u)
 | _,_,_,.nil=>.nil
 | _,_,0,.cons _ t=>.cons r t
 | _,_,i+1,.cons q t=>.cons q (Vals.set r i t)
theorem Vals.append:∀ {xs ys:List V} {us ws:List af},Vals xs us->Vals ys ws->Vals (xs++ys) (us++ws)
 | _,_,_,_,.nil,s=>s
 | _,_,_,_,.cons r t,s=>.cons r (Vals.append t s)
theorem Vals.take:∀ {xs:List V} {us:List af} (n:Nat),Vals xs us->Vals (xs.take n) (us.take n)
 | _,_,0,_=>.nil
 | _,_,_+1,.nil=>.nil
 | _,_,n+1,.cons r t=>.cons r (Vals.take n t)
theorem Vals.drop:∀ {xs:List V} {us:List af} (n:Nat),Vals xs us->Vals (xs.drop n) (us.drop n)
 | _,_,0,r=>r
 | _,_,_+1,.nil=>.nil
 | _,_,n+1,.cons _ t=>Vals.drop n t
def RelO:Option V->Option af->Prop
 | some v,some u=>RelV v u
 | none,none=>True
 | _,_=>False
def KV {κ:Type}:List (κ×V)->List (κ×af)->Prop:=CD λ (p:κ×V) (q:κ×af)=>p.1=q.1/\RelV p.2 q.2
def kV:Key->V
 | .inl i=>.int i
 | .inr x=>.str x
inductive HO where
 | lst (xs:List V)
 | tup (xs:List V)
 | dK (kvs:List (Key×V)) | dT (kvs:List (List Key×V))
 | set (S:Int->Bool) (n:Nat)
 | ins (C dx:ag) (fs:List (Str×V))
 | own (x:ag)
 | xd (fs:List (Str×V))
 | met (f x:ag)
 | rng (lo hi:Int)
 | frz (o:Obj) (u:HO)
 | tbl (ps:Array af)
 | ext (φ:eH->Prop)
abbrev Hp:=ag->Option HO
def upd (H:Hp) (a:ag) (o:HO):Hp:=λ b=>if b=a then some o else H b
theorem kD {H:Hp} {a:ag} {o:HO}:upd H a o a=some o:=by unfold upd;rw [if_pos rfl]
theorem kN {H:Hp} {a b:ag} {o:HO} (h:b≠a):upd H a o b=H b:=by unfold upd;rw [if_neg h]
theorem wI {H:Hp} {a b:ag} {o u:HO} (h:H a=some o) (h':H b=some u) (d:o≠u):a≠b:=by
 intro e;subst e;rw [h] at h';exact d (eO h')
theorem kR {H:Hp} {a b:ag} {o:HO} (h:H a=some o) (h':H b=none):a≠b:=by
 intro e;subst e;rw [h] at h';cases h'
section
def IsTupN (h:eH) (a:ag) (items:Array af):Prop:=∃ o,h.get? a=some o/\o.cls=.type "tuple"/\∃ n,o.data=.seq items n/\o.dict=none
theorem IsTupN.isTup {h:eH} {a:ag} {items:Array af}:IsTupN h a items->CF h a items:=λ ⟨o,e,c,n,d,_⟩=>⟨o,e,c,n,d⟩
theorem IsTupN.lt {h:eH} {a:ag} {items:Array af} (x:IsTupN h a items):a<h.objs.size:=x.isTup.lt
theorem IsTupN.new (h:eH) (items:Array af):IsTupN (h.push { cls:=.type "tuple",data:=.seq items }) h.objs.size items:=⟨_,cv _ rfl,rfl,_,rfl,rfl⟩
variable (P:cw) (w:eK)
def ObjOk (H:Hp) (h:eH) (a:ag):HO->Prop
 | .lst xs=>xs.length<=sizeLine/\∃ (its:List af) (n:Nat),Vals xs its/\h.get? a=some { cls:=.type "list",data:=.seq its.toArray n }
 | .tup xs=>xs.length<=sizeLine/\∃ its:List af,Vals xs its/\IsTupN h a its.toArray
 | .dK kvs=>kvs.length<=sizeLine/\(a == sysModules)=false/\∃ vs,KV kvs vs/\h.DictOf (qL P w) a vs
 | .dT kvs=>kvs.length<=sizeLine/\(a == sysModules)=false/\∃ xs:List (List Key×ag×af),
   CD (λ (p:List Key×V) (q:List Key×ag×af)=>p.1=q.1/\H q.2.1=some (.tup (p.1.map kV))/\RelV p.2 q.2.2) kvs xs /\
   ∃ o es ep,h.get? a=some o/\o.ExactDict/\o.data=.dict es ep/\es.toList=xs.map (entryOfKey (tupleKind (qL P w)))/\(xs.map (·.1)).Nodup
 | .set S n=>h.SetOf (intKind P w) a S n
 | .ins C dx fs=>H dx=some (.own a)/\fs.length<=1000/\dx≠a/\h.get? a=some (Bq C dx) /\
   ∃ mA,h.Ns1 dx mA/\(∀ f,RelO (fs.lookup f) (mA f))/\Ff mA (fs.map (·.1))
 | .own _=>∃ o,h.get? a=some o
 | .xd fs=>∃ mA,h.Ns1 a mA/\∀ f,RelO (fs.lookup f) (mA f)
 | .rng lo hi=>∃ t u v,h.get? a=some { cls:=.type "range",data:=.fields #[.int lo t,.int hi u,.int 1 v] }
 | .frz o u=>h.get? a=some o/\ObjOk H h a u
 | .tbl ps=>h.get? a=some { cls:=.none,data:=.fields ps }
 | .met f x=>h.get? a=some (Av (.ref f) (.ref x))
 | .ext φ=>φ h/\(∃ o,h.get? a=some o)/\∀ h1 h2:eH,φ h1->(∀ o,h1.get? a=some o->h2.get? a=some o)->φ h2
def HOk (H:Hp) (h:eH):Prop:=∀ a o,H a=some o->ObjOk P w H h a o
end
section
variable {P:cw} {w:eK} {H H':Hp} {h h':eH} {a:ag} {o:HO}
theorem ObjOk.lt (x:ObjOk P w H h a o):a<h.objs.size:=by
 cases o with
 | lst xs=>obtain ⟨_,_,_,_,e⟩:=x;exact bf e
 | tup xs=>obtain ⟨_,_,_,p⟩:=x;exact p.lt
 | dK kvs=>obtain ⟨_,_,_,_,o,_,_,e,_⟩:=x;exact bf e
 | dT kvs=>obtain ⟨_,_,_,_,o,_,_,e,_⟩:=x;exact bf e
 | set S n=>obtain ⟨o,_,_,_,e,_⟩:=x;exact bf e
 | ins C dx fs=>obtain ⟨_,_,_,e,_⟩:=x;exact bf e
 | own y=>obtain ⟨_,e⟩:=x;exact bf e
 | xd fs=>obtain ⟨_,⟨_,_,_,e,_⟩,_⟩:=x;exact bf e
 | rng lo hi=>obtain ⟨_,_,_,e⟩:=x;exact bf e
 | frz ob u=>obtain ⟨e,_⟩:=x;exact bf e
 | tbl ps=>exact bf (show h.get? a=some _ from x)
 | met f y=>exact bf (show h.get? a=some _ from x)
 | ext φ=>obtain ⟨_,⟨_,e⟩,_⟩:=x;exact bf e
theorem Paired.mapP {α β:Type} {F G:α->β->Prop}:∀ {l₁:List α} {l₂:List β},CD F l₁ l₂->(∀ a b,F a b->G a b)->CD G l₁ l₂
 | _,_,.nil,_=>.nil
 | _,_,.cons r t,f=>.cons (f _ _ r) (Paired.mapP t f)
theorem ObjOk.stay (x:ObjOk P w H h a o) (k:∀ b u,(b=a\/H b=some (.own a))->h.get? b=some u->h'.get? b=some u)
  (ho:∀ b,H b=some (.own a)->H' b=some (.own a)) (ht:∀ b xs,H b=some (.tup xs)->H' b=some (.tup xs)):ObjOk P w H' h' a o:=by
 induction o with
 | lst xs=>obtain ⟨z,its,n,r,e⟩:=x;exact ⟨z,its,n,r,k _ _ (.inl rfl) e⟩
 | tup xs=>obtain ⟨z,its,r,ob,e,c⟩:=x;exact ⟨z,its,r,ob,k _ _ (.inl rfl) e,c⟩
 | dK kvs=>obtain ⟨z,y,vs,r,ob,es,ep,e,c⟩:=x;exact ⟨z,y,vs,r,ob,es,ep,k _ _ (.inl rfl) e,c⟩
 | dT kvs =>
  obtain ⟨z,y,xs,r,ob,es,ep,e,c⟩:=x;exact ⟨z,y,xs,Paired.mapP r λ p q z=>⟨z.1,ht _ _ z.2.1,z.2.2⟩,ob,es,ep,k _ _ (.inl rfl) e,c⟩
 | set S n=>obtain ⟨ob,es,ep,t,e,c⟩:=x;exact ⟨ob,es,ep,t,k _ _ (.inl rfl) e,c⟩
 | ins C dx fs =>
  obtain ⟨d,z,ne,e,mA,⟨od,es,ep,e2,c⟩,r⟩:=x;exact ⟨ho _ d,z,ne,k _ _ (.inl rfl) e,mA,⟨od,es,ep,k _ _ (.inr d) e2,c⟩,r⟩
 | own y=>obtain ⟨ob,e⟩:=x;exact ⟨ob,k _ _ (.inl rfl) e⟩
 | xd fs=>obtain ⟨mA,⟨od,es,ep,e,c⟩,r⟩:=x;exact ⟨mA,⟨od,es,ep,k _ _ (.inl rfl) e,c⟩,r⟩
 | rng lo hi=>obtain ⟨t,u,v,e⟩:=x;exact ⟨t,u,v,k _ _ (.inl rfl) e⟩
 | frz ob u ih=>obtain ⟨e,q⟩:=x;exact ⟨k _ _ (.inl rfl) e,ih q⟩
 | tbl ps =>
  have e:h.get? a=some { cls:=.none,data:=.fields ps }:=x;show h'.get? a=some { cls:=.none,data:=.fields ps };exact k a _ (.inl rfl) e
 | met f y =>
  have e:h.get? a=some (Av (.ref f) (.ref y)):=x;show h'.get? a=some (Av (.ref f) (.ref y));exact k a _ (.inl rfl) e
 | ext φ=>obtain ⟨p,⟨o,e⟩,st⟩:=x;exact ⟨st _ _ p λ o q=>k _ _ (.inl rfl) q,⟨o,k _ _ (.inl rfl) e⟩,st⟩
theorem HOk.lt (x:HOk P w H h) (e:H a=some o):a<h.objs.size:=(x a o e).lt
theorem HOk.fresh (x:HOk P w H h) (e:h.objs.size<=a):H a=none:=by
 cases q:H a with
 | none=>rfl
 | some u=>exact absurd (be (x.lt q) e) (iQ _)
theorem HOk.kept (x:HOk P w H h) (k:∀ b u,h.get? b=some u->h'.get? b=some u):HOk P w H h':=λ a o e =>
 (x a o e).stay (λ b u _ q=>k b u q) (λ _ q=>q) λ _ _ q=>q
theorem HOk.laid (x:HOk P w H h) (k:∀ b u,h.get? b=some u->h'.get? b=some u) (hp:h.objs.size<=a) (new:ObjOk P w (upd H a o) h' a o):HOk P w (upd H a o) h':=λ b u e=>by
 have hn:=x.fresh hp;by_cases hb:b=a
 ·subst hb;rw [kD] at e;cases e;exact new
 ·rw [kN hb] at e
  exact (x b u e).stay (λ c v _ q=>k c v q) (λ c q=>by rw [kN (kR q hn)];exact q) λ c xs q=>by rw [kN (kR q hn)];exact q
end
def Rd (H:Hp) (a:ag) (u:HO):Prop:=H a=some u\/∃ o,H a=some (.frz o u)
theorem Rd.ok {P:cw} {w:eK} {H:Hp} {h:eH} {a:ag} {u:HO} (r:Rd H a u) (x:HOk P w H h):ObjOk P w H h a u:=by
 rcases r with r | ⟨o,r⟩
 ·exact x a u r
 ·obtain ⟨_,q⟩:=x a _ r
  exact q
def Mut:Option HO->Prop
 | some (.lst _)=>True
 | some (.dK _)=>True
 | some (.dT _)=>True
 | some (.set _ _)=>True
 | some (.ins _ _ _)=>True
 | some (.ext _)=>True
 | _=>False
section
variable {P:cw} {w:eK} {H:Hp} {h h':eH} {x e:ag} {o':HO}
theorem HOk.write (ok:HOk P w H h) (mu:Mut (H x)) (he:e=x\/H e=some (.own x)) (k:∀ b u,b≠e->h.get? b=some u->h'.get? b=some u) (heo:∃ u,h'.get? e=some u)
  (new:ObjOk P w (upd H x o') h' x o'):HOk P w (upd H x o') h':=λ b u q=>by
 have nown:∀ c y,H c=some (.own y)->c≠x:=λ c y r z=>by subst z;rw [r] at mu;exact mu
 have ntup:∀ c xs,H c=some (.tup xs)->c≠x:=λ c xs r z=>by subst z;rw [r] at mu;exact mu
 by_cases hb:b=x
 ·subst hb;rw [kD] at q;cases q;exact new
 ·rw [kN hb] at q
  by_cases hbe:b=e
  ·have q':H b=some (.own x):=by
    rcases he with z | z
    ·exact absurd (hbe.trans z) hb
    ·rw [hbe];exact z
   rw [q] at q';cases q';obtain ⟨v,hv⟩:=heo;exact ⟨v,by rw [hbe];exact hv⟩
  ·refine (ok b u q).stay (λ c v hc r=>k c v ?_ r) (λ c r=>by rw [kN (nown c b r)];exact r) λ c xs r=>by rw [kN (ntup c xs r)];exact r
   rcases hc with rfl | hc
   ·exact hbe
   ·rintro rfl
    rcases he with z | z
    ·exact nown c b hc z
    ·rw [hc] at z;cases z;exact hb rfl
end
structure Un (fs ex:List ag) (H H':Hp) (h h':eH):Prop where
 keep:∀ b o,h.get? b=some o->H b=none->b∉fs->b∉ex->h'.get? b=some o
 slot:∀ b o,h.get? b=some o->H b=none->b∈fs->b∉ex->∃ sl,h'.get? b=some { o with slots:=sl }
 free:∀ b o,h.get? b=some o->H b=none->b∉ex->H' b=none
 there:∀ b o,h.get? b=some o->b∉ex->∃ o',h'.get? b=some o'
 tups:∀ b xs,H b=some (.tup xs)->H' b=some (.tup xs)
 frzs:∀ b o u,H b=some (.frz o u)->H' b=some (.frz o u)
 tbls:∀ b ps,H b=some (.tbl ps)->∃ more,H' b=some (.tbl (ps++more))
section
variable {fs fs' ex ex':List ag} {H H1 H2:Hp} {h h1 h2 h':eH} {a x e:ag} {o:HO}
theorem Un.any (u:Un fs ex H H1 h h1) {b:ag} {ob:Obj} (q:h.get? b=some ob) (n:H b=none) (hx:b∉ex):∃ sl,h1.get? b=some { ob with slots:=sl }:=by
 by_cases hb:b∈fs
 ·exact u.slot b ob q n hb hx
 ·exact ⟨ob.slots,u.keep b ob q n hb hx⟩
theorem Un.trans (a:Un fs ex H H1 h h1) (b:Un fs ex H1 H2 h1 h2):Un fs ex H H2 h h2 where
 keep:=λ c ob q n hc hx=>b.keep c ob (a.keep c ob q n hc hx) (a.free c ob q n hx) hc hx
 slot:=λ c ob q n hc hx=>by
  obtain ⟨sl,e1⟩:=a.slot c ob q n hc hx;obtain ⟨sl',e2⟩:=b.slot c _ e1 (a.free c ob q n hx) hc hx;exact ⟨sl',e2⟩
 free:=λ c ob q n hx=>by
  obtain ⟨o',e1⟩:=a.there c ob q hx;exact b.free c o' e1 (a.free c ob q n hx) hx
 there:=λ c ob q hx=>by
  obtain ⟨o',e1⟩:=a.there c ob q hx;exact b.there c o' e1 hx
 tups:=λ c xs q=>b.tups c xs (a.tups c xs q)
 frzs:=λ c ob xs q=>b.frzs c ob xs (a.frzs c ob xs q)
 tbls:=λ c ps q=>by
  obtain ⟨m1,e1⟩:=a.tbls c ps q;obtain ⟨m2,e2⟩:=b.tbls c _ e1;exact ⟨m1++m2,by rw [e2,AU]⟩
theorem Un.kept (k:∀ b u,h.get? b=some u->h'.get? b=some u):Un fs ex H H h h' :=
 ⟨λ b ob q _ _ _=>k b ob q,λ b ob q _ _ _=>⟨ob.slots,k b ob q⟩,λ _ _ _ n _=>n,λ b ob q _=>⟨ob,k b ob q⟩,λ _ _ q=>q,λ _ _ _ q=>q,λ _ ps q=>⟨#[],by rw [q];simp⟩⟩
theorem Un.refl:Un fs ex H H h h:=Un.kept λ _ _ q=>q
theorem Un.laid (k:∀ b u,h.get? b=some u->h'.get? b=some u) (hp:h.objs.size<=a) (hn:H a=none):Un fs ex H (upd H a o) h h' where
 keep:=λ b u q _ _ _=>k b u q
 slot:=λ b u q _ _ _=>⟨u.slots,k b u q⟩
 free:=λ b u q n _=>by rw [kN (dh (be (bf q) hp))];exact n
 there:=λ b u q _=>⟨u,k b u q⟩
 tups:=λ b xs q=>by rw [kN (kR q hn)];exact q
 frzs:=λ b u xs q=>by rw [kN (kR q hn)];exact q
 tbls:=λ b ps q=>⟨#[],by rw [kN (kR q hn),q];simp⟩
theorem Un.write (mu:Mut (H x)) (he:e=x\/H e=some (.own x)) (k:∀ b u,b≠e->h.get? b=some u->h'.get? b=some u) (heo:∃ u,h'.get? e=some u):Un fs ex H (upd H x o) h h':=by
 have hx:∀ b,H b=none->b≠x:=λ b n z=>by subst z;rw [n] at mu;exact mu
 have hb:∀ b,H b=none->b≠e:=λ b n z=>by
  subst z;rcases he with r | r
  ·exact hx b n r
  ·rw [n] at r;cases r
 have hm:∀ b u,H b=some u->¬ Mut (some u)->b≠x:=λ b u q nm z=>by subst z;rw [q] at mu;exact nm mu
 refine ⟨λ b u q n _ _=>k b u (hb b n) q,λ b u q n _ _=>⟨u.slots,k b u (hb b n) q⟩,λ b u q n _=>by rw [kN (hx b n)];exact n,λ b u q _=>?_,
  λ b xs q=>by rw [kN (hm b _ q λ z=>z)];exact q,λ b u xs q=>by rw [kN (hm b _ q λ z=>z)];exact q,λ b ps q=>⟨#[],by rw [kN (hm b _ q λ z=>z),q];simp⟩⟩
 by_cases hbe:b=e
 ·subst hbe;exact heo
 ·exact ⟨u,k b u hbe q⟩
end
def trk (h:eH) (H:Hp):List ag:=(qg h.objs.size).filter λ a=>(H a).isSome
def pH (h:eH) (H:Hp):eH:=PySem.W.hideAll h (trk h H)
theorem kEO (h:eH) (H:Hp):(pH h H).objs.size=h.objs.size:=PySem.W.hideAll_size _ _
theorem kID {h:eH} {H:Hp} {b:ag} {o:Obj} (e:h.get? b=some o) (n:H b=none):(pH h H).get? b=some o :=
 PySem.W.hideAll_get _ e λ hm=>by
  have q:(H b).isSome=true:=(vz.mp hm).2;rw [n] at q;simp at q
theorem kKC {h:eH} {H:Hp} {b:ag} {o:Obj} (e:(pH h H).get? b=some o):h.get? b=some o/\H b=none:=by
 have e':h.get? b=some o:=PySem.W.of_hideAll (trk h H) e;refine ⟨e',?_⟩
 cases q:H b with
 | none=>rfl
 | some x =>
  have hm:b∈trk h H:=vz.mpr ⟨uz.mpr (bf e'),by simp [q]⟩;have z:(pH h H).get? b=none:=PySem.W.hideAll_none (trk h H) hm;rw [z] at e;cases e
structure Mod (K:ai) (mg:Str->Option af) (base:eH):Prop where
 kin:K.In base
 glob:base.Ns cu mg
 blt:∃ mb,base.Ns builtinsNs mb/\∀ x:Str,x≠"__name__"->mb x=bootBuiltins x
 nolimit:base.NoLimit
 seer:base.NoSeer
structure Cx where
 prog:cw
 w:eK
 K:ai
 mg:Str->Option af
 base:eH
 A:dj
 N:List Str
 s₀:aj
 H₀:Hp
 env:Env
 outer:List Env
 stack:List Env
 ex:List ag
 fn:Str->Bool
 calm:Bool
 pn:List (ag×Obj)
 xe:af->aj->Prop
def frs (l:List Env):List ag:=l.filterMap (·.frame)
abbrev Cx.fs (X:Cx):List ag:=frs X.outer
def Vis (sc:qw) (x:Str):Prop:=sc.names.lookup x=some .local\/sc.names.lookup x=some .cell\/sc.names.lookup x=some .free
def Loc (sc:qw) (x:Str):Prop:=sc.names.lookup x=some .local\/sc.names.lookup x=some .cell
def kRV (env:Env) (h:eH) (m:Str->Option af) (x:Str) (u:af):Prop :=
 (env.kindOf x=some .local/\m x=some u)\/((env.kindOf x=some .cell\/env.kindOf x=some .free)/\∃ c,env.cells.lookup x=some c/\h.IsCell c (some u))
structure Cx.Ok (X:Cx):Prop where
 mod:Mod X.K X.mg X.base
 kind:X.env.scope.kind=.function
 glob:X.env.globals=cu
 blt:X.env.builtins=builtinsNs
 above:X.s₀.heap.objs.size<=X.env.locals
 inj:∀ x y c,X.env.cells.lookup x=some c->X.env.cells.lookup y=some c->x=y
 has:∀ x,(X.env.kindOf x=some .cell\/X.env.kindOf x=some .free)->∃ c,X.env.cells.lookup x=some c
 cab:∀ x c,X.fn x=true->X.env.cells.lookup x=some c->X.s₀.heap.objs.size<=c
 hd:X.calm=true->X.A.handled=none
 frames:X.A.frames=some X.stack
 stk:X.stack=X.outer\/(X.stack=X.env::X.outer/\X.env.frame=some X.env.locals)
 exf:∀ b∈X.ex,b≠X.env.locals/\∀ x c,X.env.cells.lookup x=some c->c≠b
 bs:∀ b o,X.base.get? b=some o->X.s₀.heap.get? b=some o/\X.H₀ b=none
 bsz:X.base.objs.size<=X.s₀.heap.objs.size
 noex:∀ b o,X.base.get? b=some o->b∉X.ex
 exfs:∀ b∈X.ex,b∉X.fs
 funs:X.s₀.heap.FunFrames X.base X.outer
 frf:∀ b∈X.fs,X.H₀ b=none
structure Inv (X:Cx) (pins:List (ag×Obj)) (σ:List (Option V)) (H:Hp) (s:aj):Prop where
 ok:X.Ok
 os:s.os=X.s₀.os
 bare:AH s.gens
 base:Un X.fs X.ex X.H₀ H X.s₀.heap s.heap
 loc:∃ m,s.heap.Ns X.env.locals m/\∀ (i:Nat) (x:Str) (v:V),X.N[i]?=some x->σ[i]?=some (some v)->Vis X.env.scope x->∃ u,RelV v u/\kRV X.env s.heap m x u
 cell:∀ x c,X.env.cells.lookup x=some c->∃ v,s.heap.IsCell c v
 free:H X.env.locals=none
 freeC:∀ x c,X.env.cells.lookup x=some c->H c=none
 pin:∀ p∈X.pn++pins,s.heap.get? p.1=some p.2/\H p.1=none/\p.1≠X.env.locals/\p.1∉X.fs/\∀ v,p.2.data≠.cell v
 hok:HOk X.prog X.w H s.heap
 len:σ.length=X.N.length
section
variable {X:Cx} {pins:List (ag×Obj)} {σ:List (Option V)} {H H':Hp} {s:aj} {h':eH}
theorem Cx.Ok.nofr (ok:X.Ok) {b:ag} {o:Obj} (e:X.base.get? b=some o):b∉X.fs:=λ hb=>by
 have:=(ok.funs.mem hb).1;rw [e] at this;cases this
theorem Inv.bs (I:Inv X pins σ H s):∀ b o,X.base.get? b=some o->s.heap.get? b=some o/\H b=none:=λ b o e =>
 ⟨I.base.keep b o (I.ok.bs b o e).1 (I.ok.bs b o e).2 (I.ok.nofr e) (I.ok.noex b o e),I.base.free b o (I.ok.bs b o e).1 (I.ok.bs b o e).2 (I.ok.noex b o e)⟩
theorem Inv.bk (I:Inv X pins σ H s):∀ b o,X.base.get? b=some o->s.heap.get? b=some o:=λ b o e=>(I.bs b o e).1
theorem Inv.mod (I:Inv X pins σ H s):Mod X.K X.mg X.base:=I.ok.mod
theorem Inv.kIn (I:Inv X pins σ H s):X.K.In s.heap:=I.ok.mod.kin.keeps I.bk
theorem Inv.fr (I:Inv X pins σ H s):∃ m,Fr X.base X.env.locals s.heap m :=
 let ⟨m,hn,_⟩:=I.loc
 ⟨m,hn,I.bk,gk I.ok.bsz I.ok.above⟩
theorem Inv.lt (I:Inv X pins σ H s):X.env.locals<s.heap.objs.size:=let ⟨_,hn,_⟩:=I.loc;hn.lt
theorem Inv.sz (I:Inv X pins σ H s):X.s₀.heap.objs.size<=s.heap.objs.size:=gk I.ok.above (va I.lt)
theorem Inv.nofs (I:Inv X pins σ H s) {a:ag} (h:s.heap.objs.size<=a):a∉X.fs:=λ hb=>by
 obtain ⟨_,o,ho,_⟩:=I.ok.funs.mem hb;exact absurd (be (bf ho) (gk I.sz h)) (iQ _)
theorem Inv.cne (I:Inv X pins σ H s):∀ x c,X.env.cells.lookup x=some c->c≠X.env.locals:=λ x c e z=>by
 obtain ⟨v,o,ho,hd⟩:=I.cell x c e;obtain ⟨m,⟨o',es,ep,ho',hd',_⟩,_⟩:=I.loc;rw [z,ho'] at ho;cases ho;rw [hd'] at hd;cases hd
theorem Inv.funs (I:Inv X pins σ H s):s.heap.FunFrames X.base X.outer:=by
 have all:∀ (l:List Env),(∀ b∈frs l,b∈X.fs)->X.s₀.heap.FunFrames X.base l->s.heap.FunFrames X.base l:=by
  intro l
  induction l with
  | nil=>intro _ _;trivial
  | cons env r ih =>
   intro hs hl;obtain ⟨hk,⟨L,o,hf,hn,ho,hd⟩,hr⟩:=hl;have hL:L∈X.fs:=hs L (by unfold frs;rw [um,hf];exact fe);obtain ⟨sl,e⟩:=I.base.slot L o ho (I.ok.frf L hL) hL λ z=>I.ok.exfs L z hL;exact ⟨hk,⟨L,_,hf,hn,e,hd⟩,ih (λ b hb=>hs b (by unfold frs;rw [um,hf];exact eY _ hb)) hr⟩
 exact all X.outer (λ _ hb=>hb) I.ok.funs
theorem Inv.stack (I:Inv X pins σ H s):s.heap.FunFrames X.base X.stack:=by
 rcases I.ok.stk with e | ⟨e,hf⟩
 ·rw [e];exact I.funs
 ·rw [e]
  obtain ⟨m,hn,_⟩:=I.loc;refine .cons (by rw [I.ok.kind];decide) hf hn ?_ I.funs;exact yx (gk I.ok.bsz I.ok.above)
theorem Inv.stkSub (I:Inv X pins σ H s):∀ b∈frs X.stack,b∈X.env.locals::X.fs:=λ b hb=>by
 rcases I.ok.stk with e | ⟨e,hf⟩
 ·rw [e] at hb;exact eY _ hb
 ·rw [e] at hb
  unfold frs at hb;rw [um,hf] at hb;exact hb
theorem Inv.stkFree (I:Inv X pins σ H s):∀ b∈frs X.stack,H b=none:=λ b hb=>by
 rcases gu.mp (I.stkSub b hb) with e | hb
 ·rw [e];exact I.free
 ·obtain ⟨_,o,ho,_⟩:=I.ok.funs.mem hb
  exact I.base.free b o ho (I.ok.frf b hb) λ z=>I.ok.exfs b z hb
theorem Inv.step {g':Array EY} {t':Nat} {d':Drawn} {ch:List ag} (I:Inv X pins σ H s)
  (hch:∀ b∈ch,(b∈X.ex\/X.s₀.heap.objs.size<=b)/\b≠X.env.locals/\(∀ x c,X.env.cells.lookup x=some c->c≠b)/\∀ p∈X.pn++pins,p.1≠b)
  (keep:∀ b o,b≠X.env.locals->b∉X.fs->b∉ch->s.heap.get? b=some o->H b=none->h'.get? b=some o)
  (slot:∀ b o,b≠X.env.locals->b∈X.fs->b∉ch->s.heap.get? b=some o->H b=none->∃ sl,h'.get? b=some { o with slots:=sl }) (free:∀ b o,b∉ch->s.heap.get? b=some o->H b=none->H' b=none)
  (there:∀ b o,b∉ch->s.heap.get? b=some o->∃ o',h'.get? b=some o')
  (tups:∀ b xs,H b=some (.tup xs)->H' b=some (.tup xs)) (frzs:∀ b o u,H b=some (.frz o u)->H' b=some (.frz o u)) (tbls:∀ b ps,H b=some (.tbl ps)->∃ more,H' b=some (.tbl (ps++more)))
  (ns:∀ m,s.heap.Ns X.env.locals m->h'.Ns X.env.locals m) (hok:HOk X.prog X.w H' h') (hg:AH g') :
  Inv X pins σ H' { s with heap:=h',gens:=g',drawn:=d',toks:=t' }:=by
 have neL:∀ b o,X.s₀.heap.get? b=some o->b≠X.env.locals:=λ b o e=>dh (be (bf e) I.ok.above)
 have neC:∀ b o,X.s₀.heap.get? b=some o->b∉X.ex->b∉ch:=λ b o e hx hb=>by
  rcases (hch b hb).1 with z | z
  ·exact hx z
  ·exact absurd (be (bf e) z) (iQ _)
 have cellK:∀ x c,X.env.cells.lookup x=some c->∀ v,s.heap.IsCell c v->h'.IsCell c v:=λ x c e v ⟨o,ho,hd⟩=>by
  have nch:c∉ch:=λ z=>(hch c z).2.2.1 x c e rfl;by_cases hc:c∈X.fs
  ·obtain ⟨sl,q⟩:=slot c o (I.cne x c e) hc nch ho (I.freeC x c e)
   exact ⟨_,q,hd⟩
  ·exact ⟨o,keep c o (I.cne x c e) hc nch ho (I.freeC x c e),hd⟩
 refine ⟨I.ok,I.os,hg,⟨λ b o e n hb hx=>?_,λ b o e n hb hx=>?_,λ b o e n hx=>?_,λ b o e hx=>?_,λ b xs e=>tups b xs (I.base.tups b xs e),λ b o xs e=>frzs b o xs (I.base.frzs b o xs e),λ b ps e=>?_⟩,?_,λ x c e=>?_,?_,λ x c e=>?_,λ p hp=>?_,hok,I.len⟩
 ·exact keep b o (neL b o e) hb (neC b o e hx) (I.base.keep b o e n hb hx) (I.base.free b o e n hx)
 ·obtain ⟨sl,e1⟩:=I.base.slot b o e n hb hx
  obtain ⟨sl',e2⟩:=slot b _ (neL b o e) hb (neC b o e hx) e1 (I.base.free b o e n hx);exact ⟨sl',e2⟩
 ·obtain ⟨o',e1⟩:=I.base.there b o e hx
  exact free b o' (neC b o e hx) e1 (I.base.free b o e n hx)
 ·obtain ⟨o',e1⟩:=I.base.there b o e hx
  exact there b o' (neC b o e hx) e1
 ·obtain ⟨m1,e1⟩:=I.base.tbls b ps e
  obtain ⟨m2,e2⟩:=tbls b _ e1;exact ⟨m1++m2,by rw [e2,AU]⟩
 ·obtain ⟨m,hn,hl⟩:=I.loc
  refine ⟨m,ns m hn,λ i x v e1 e2 e3=>?_⟩;obtain ⟨u,r,l⟩:=hl i x v e1 e2 e3;refine ⟨u,r,?_⟩;rcases l with l | ⟨k,c,e,z⟩
  ·exact .inl l
  ·exact .inr ⟨k,c,e,cellK x c e _ z⟩
 ·obtain ⟨v,z⟩:=I.cell x c e
  exact ⟨v,cellK x c e v z⟩
 ·obtain ⟨m,⟨o,_,_,ho,_⟩,_⟩:=I.loc
  exact free _ o (λ z=>(hch _ z).2.1 rfl) ho I.free
 ·obtain ⟨v,o,ho,hd⟩:=I.cell x c e
  exact free c o (λ z=>(hch c z).2.2.1 x c e rfl) ho (I.freeC x c e)
 ·obtain ⟨e,n,ne,nf,d⟩:=I.pin p hp
  have nch:p.1∉ch:=λ z=>(hch p.1 z).2.2.2 p hp rfl;exact ⟨keep p.1 p.2 ne nf nch e n,free p.1 p.2 nch e n,ne,nf,d⟩
theorem Inv.un {t':Nat} (I:Inv X pins σ H s) (u:Un X.fs [] H H' s.heap h') (hok:HOk X.prog X.w H' h'):Inv X pins σ H' { s with heap:=h',toks:=t' }:=by
 obtain ⟨m,⟨o,es,ep,ho,r⟩,_⟩:=id I.loc;obtain ⟨sl,hL⟩:=u.any ho I.free (by simp)
 exact I.step (g':=s.gens) (d':=s.drawn) (ch:=[]) (λ _ z=>nomatch z) (λ b o _ hb _ e n=>u.keep b o e n hb (by simp)) (λ b o _ hb _ e n=>u.slot b o e n hb (by simp)) (λ b o _ e n=>u.free b o e n (by simp)) (λ b o _ e=>u.there b o e (by simp)) u.tups u.frzs u.tbls (λ m' hm=>by
  obtain ⟨o',es',ep',ho',r'⟩:=hm;rw [ho] at ho';cases ho';exact ⟨_,es',ep',hL,r'⟩) hok I.bare
theorem Inv.call {g':Array EY} {t':Nat} {d':Drawn} {ch:List ag} (I:Inv X pins σ H s) (u:Un (frs X.stack) ch H H' s.heap h') (hok:HOk X.prog X.w H' h') (hg:AH g')
  (hch:∀ b∈ch,(b∈X.ex\/X.s₀.heap.objs.size<=b)/\b≠X.env.locals/\(∀ x c,X.env.cells.lookup x=some c->c≠b)/\∀ p∈X.pn++pins,p.1≠b) :
  Inv X pins σ H' { s with heap:=h',gens:=g',drawn:=d',toks:=t' }:=by
 obtain ⟨m,⟨o,es,ep,ho,r⟩,_⟩:=id I.loc;obtain ⟨sl,hL⟩:=u.any ho I.free λ z=>(hch _ z).2.1 rfl
 exact I.step (ch:=ch) hch (λ b o hL hb hc e n=>u.keep b o e n (λ z=>(gu.mp (I.stkSub b z)).elim hL hb) hc) (λ b o _ _ hc e n=>u.any e n hc) (λ b o hc e n=>u.free b o e n hc) (λ b o hc e=>u.there b o e hc) u.tups u.frzs u.tbls (λ m' hm=>by
  obtain ⟨o',es',ep',ho',r'⟩:=hm;rw [ho] at ho';cases ho';exact ⟨_,es',ep',hL,r'⟩) hok hg
theorem Inv.turned {t':Nat} {it:ag} (I:Inv X pins σ H s) (k:∀ b o,b≠it->s.heap.get? b=some o->h'.get? b=some o) (hn:H it=none) (hL:it≠X.env.locals)
  (h1:it∈X.ex\/X.s₀.heap.objs.size<=it) (h2:∀ x c,X.env.cells.lookup x=some c->c≠it) (h3:∀ p∈X.pn++pins,p.1≠it):Inv X pins σ H { s with heap:=h',toks:=t' }:=by
 have nit:∀ b u,H b=some u->b≠it:=λ b u e z=>by rw [z,hn] at e;cases e
 refine I.step (g':=s.gens) (d':=s.drawn) (ch:=[it]) (λ b hb=>?_) (λ b o _ _ hc e _=>k b o (λ z=>hc (by simp [z])) e) (λ b o _ _ hc e _=>⟨o.slots,k b o (λ z=>hc (by simp [z])) e⟩) (λ _ _ _ _ n=>n)
  (λ b o hc e=>⟨o,k b o (λ z=>hc (by simp [z])) e⟩) (λ _ _ e=>e) (λ _ _ _ e=>e) (λ b ps e=>⟨#[],by rw [e];simp⟩) (λ m hm=>?_) (λ b u e=>?_) I.bare
 ·have e:b=it:=by simpa using hb
  subst e;exact ⟨h1,hL,h2,h3⟩
 ·obtain ⟨o,es,ep,ho,r⟩:=hm
  exact ⟨o,es,ep,k _ o (iY hL) ho,r⟩
 ·refine (I.hok b u e).stay (λ c v hc q=>k c v ?_ q) (λ _ q=>q) λ _ _ q=>q
  rcases hc with z | z
  ·rw [z];exact nit b u e
  ·exact nit c _ z
theorem Inv.tok (I:Inv X pins σ H s) (t:Nat):Inv X pins σ H { s with toks:=t }:=I.un (h':=s.heap) (t':=t) Un.refl I.hok
theorem Inv.kept {t':Nat} (I:Inv X pins σ H s) (k:∀ b u,s.heap.get? b=some u->h'.get? b=some u):Inv X pins σ H { s with heap:=h',toks:=t' }:=I.un (Un.kept k) (I.hok.kept k)
theorem Inv.laid {a:ag} {o:HO} {t':Nat} (I:Inv X pins σ H s) (k:∀ b u,s.heap.get? b=some u->h'.get? b=some u) (hp:s.heap.objs.size<=a) (new:ObjOk X.prog X.w (upd H a o) h' a o) :
  Inv X pins σ (upd H a o) { s with heap:=h',toks:=t' }:=I.un (Un.laid k hp (I.hok.fresh hp)) (I.hok.laid k hp new)
theorem Inv.write {x e:ag} {o:HO} {t':Nat} (I:Inv X pins σ H s) (mu:Mut (H x)) (he:e=x\/H e=some (.own x)) (k:∀ b u,b≠e->s.heap.get? b=some u->h'.get? b=some u) (heo:∃ u,h'.get? e=some u)
  (new:ObjOk X.prog X.w (upd H x o) h' x o):Inv X pins σ (upd H x o) { s with heap:=h',toks:=t' }:=I.un (Un.write mu he k heo) (I.hok.write mu he k heo new)
theorem Inv.pins_of {pins':List (ag×Obj)} (I:Inv X pins σ H s) (h:∀ p∈pins',s.heap.get? p.1=some p.2/\H p.1=none/\p.1≠X.env.locals/\p.1∉X.fs/\∀ v,p.2.data≠.cell v):Inv X pins' σ H s :=
 ⟨I.ok,I.os,I.bare,I.base,I.loc,I.cell,I.free,I.freeC,λ p hp=>(gf.mp hp).elim (λ z=>I.pin p (lh _ z)) (h p),I.hok,I.len⟩
theorem fQ {N:List Str} (hN:N.Nodup) {i j:Nat} {x:Str} (a:N[i]?=some x) (b:N[j]?=some x):i=j:=by
 obtain ⟨h1,e1⟩:=au.mp a;obtain ⟨h2,e2⟩:=au.mp b;exact (yi hN).mp (e1.trans e2.symm)
theorem lY {M:qt} {A:dj} {E:af->aj->Prop} {i:Nat} {x:Str} {v:V} {u:af} {Q:Unit->aj->Prop} (I:Inv X pins σ H s) (hN:X.N.Nodup) (hi:X.N[i]?=some x) (hx:Loc X.env.scope x) (r:RelV v u)
  (h:∀ s',Inv X pins (σ.set i (some v)) H s'->(∃ a,lz a s.heap s'.heap/\(a=X.env.locals\/X.env.cells.lookup x=some a))->Q () s') (hf:X.fn x=true\/X.env.scope.names.lookup x=some .local:=by first | exact .inl rfl | exact .inr rfl | assumption):br M A (storeName X.env x u) Q E s:=by
 obtain ⟨m,hn,hl⟩:=id I.loc;have hcls:(X.env.scope.kind == .class || (X.env.scope.kind == .module && X.env.locals != X.env.globals))=false:=by rw [I.ok.kind];rfl
 have hiσ:i<σ.length:=by rw [I.len];exact (au.mp hi).1
 have cne:=I.cne
 have tracked:∀ {a:ag} {h':eH},(∃ o,s.heap.get? a=some o/\H a=none)->lz a s.heap h'->HOk X.prog X.w H h':=λ {a h'} ha hs b ob e=>by
  obtain ⟨_,_,hfree⟩:=ha;refine (I.hok b ob e).stay (λ c w' hc q=>(hs.2 c ?_).trans q) (λ _ q=>q) λ _ _ q=>q;rintro rfl;rcases hc with rfl | hc
  ·rw [hfree] at e;cases e
  ·rw [hfree] at hc;cases hc
 rcases hx with hk | hk
 ·refine wpAny_storeName_local hk hn (λ h' hn' hs=>?_) hcls
  obtain ⟨oL,_,_,hoL,_⟩:=id hn;refine h _ ⟨I.ok,I.os,I.bare,⟨λ b o e n hb hx=>?_,λ b o e n hb hx=>?_,I.base.free,λ b o e hx=>?_,I.base.tups,I.base.frzs,I.base.tbls⟩,⟨_,hn',λ j y v' e1 e2 e3=>?_⟩,λ y c e=>?_,I.free,I.freeC,λ p hp=>?_,tracked ⟨oL,hoL,I.free⟩ hs,by simpa using I.len⟩ ⟨_,hs,.inl rfl⟩
  ·exact (hs.2 b (dh (be (bf e) I.ok.above))).trans (I.base.keep b o e n hb hx)
  ·obtain ⟨sl,e1⟩:=I.base.slot b o e n hb hx
   exact ⟨sl,(hs.2 b (dh (be (bf e) I.ok.above))).trans e1⟩
  ·obtain ⟨o',e1⟩:=I.base.there b o e hx
   exact ⟨o',(hs.2 b (dh (be (bf e) I.ok.above))).trans e1⟩
  ·by_cases hj:j=i
   ·subst hj
    rw [hi] at e1;cases e1;rw [jo hiσ] at e2;cases e2
    exact ⟨u,r,.inl ⟨hk,by simp⟩⟩
   ·rw [iO (iY hj)] at e2
    obtain ⟨u',r',q⟩:=hl j y v' e1 e2 e3;refine ⟨u',r',?_⟩;rcases q with ⟨k,e⟩ | ⟨k,c,e,z⟩
    ·refine .inl ⟨k,?_⟩
     have:y≠x:=λ e=>hj (fQ hN e1 (e ▸ hi));simp [this,e]
    ·exact .inr ⟨k,c,e,z.sameBut hs (cne y c e)⟩
  ·obtain ⟨w',z⟩:=I.cell y c e
   exact ⟨w',z.sameBut hs (cne y c e)⟩
  ·obtain ⟨e,n,ne,nf,d⟩:=I.pin p hp
   exact ⟨(hs.2 p.1 ne).trans e,n,ne,nf,d⟩
 ·have hfn:X.fn x=true:=by
   rcases hf with z | z
   ·exact z
   ·rw [z] at hk;cases hk
  obtain ⟨c,hc⟩:=I.ok.has x (.inl hk);obtain ⟨w',z⟩:=I.cell x c hc;refine wpAny_storeName_cell I.ok.kind hk hc z (λ h' hc' hs=>?_);obtain ⟨oc,hoc,hocd⟩:=id z;refine h { s with heap:=h' } ⟨I.ok,I.os,I.bare,⟨λ b o e n hb hx=>?_,λ b o e n hb hx=>?_,I.base.free,λ b o e hx=>?_,I.base.tups,I.base.frzs,I.base.tbls⟩,⟨m,hn.sameBut hs (iY (cne x c hc)),λ j y v' e1 e2 e3=>?_⟩,λ y c' e=>?_,I.free,I.freeC,λ p hp=>?_,tracked ⟨oc,hoc,I.freeC x c hc⟩ hs,by simpa using I.len⟩ ⟨c,hs,.inr hc⟩
  ·exact (hs.2 b (dh (be (bf e) (I.ok.cab x c hfn hc)))).trans (I.base.keep b o e n hb hx)
  ·obtain ⟨sl,e1⟩:=I.base.slot b o e n hb hx
   exact ⟨sl,(hs.2 b (dh (be (bf e) (I.ok.cab x c hfn hc)))).trans e1⟩
  ·obtain ⟨o',e1⟩:=I.base.there b o e hx
   exact ⟨o',(hs.2 b (dh (be (bf e) (I.ok.cab x c hfn hc)))).trans e1⟩
  ·by_cases hj:j=i
   ·subst hj
    rw [hi] at e1;cases e1;rw [jo hiσ] at e2;cases e2
    exact ⟨u,r,.inr ⟨.inl hk,c,hc,hc'⟩⟩
   ·rw [iO (iY hj)] at e2
    obtain ⟨u',r',q⟩:=hl j y v' e1 e2 e3;refine ⟨u',r',?_⟩;rcases q with q | ⟨k,c',e,z'⟩
    ·exact .inl q
    ·refine .inr ⟨k,c',e,z'.sameBut hs ?_⟩
     rintro rfl;exact hj (fQ hN e1 (I.ok.inj _ _ _ e hc ▸ hi))
  ·by_cases hcc:c'=c
   ·subst hcc;exact ⟨_,hc'⟩
   ·obtain ⟨w2,z2⟩:=I.cell y c' e
    exact ⟨w2,z2.sameBut hs hcc⟩
  ·obtain ⟨e,n,ne,nf,d⟩:=I.pin p hp
   refine ⟨(hs.2 p.1 ?_).trans e,n,ne,nf,d⟩;intro q;rw [q,hoc] at e;have q':oc=p.2:=eO e;exact d w' (by rw [<-q'];exact hocd)
theorem zT {M:qt} {A:dj} {E:af->aj->Prop} {i:Nat} {x:Str} {v:V} {u:af} {Q:Unit->aj->Prop} (I:Inv X pins σ H s) (hN:X.N.Nodup) (hi:X.N[i]?=some x) (hx:Loc X.env.scope x) (r:RelV v u)
  (h:∀ s',Inv X pins (σ.set i (some v)) H s'->Q () s') (hf:X.fn x=true\/X.env.scope.names.lookup x=some .local:=by first | exact .inl rfl | exact .inr rfl | assumption):br M A (storeName X.env x u) Q E s :=
 lY I hN hi hx r (λ s' I' _=>h s' I') hf
theorem Inv.call' {s':aj} {ch:List ag} (I:Inv X pins σ H s) (ho:s'.os=s.os) (u:Un (frs X.stack) ch H H' s.heap s'.heap) (hok:HOk X.prog X.w H' s'.heap) (hg:AH s'.gens)
  (hch:∀ b∈ch,(b∈X.ex\/X.s₀.heap.objs.size<=b)/\b≠X.env.locals/\(∀ x c,X.env.cells.lookup x=some c->c≠b)/\∀ p∈X.pn++pins,p.1≠b):Inv X pins σ H' s':=by
 obtain ⟨h',g',d',t',o'⟩:=s';have e:o'=s.os:=ho;subst e;exact I.call (g':=g') (t':=t') (d':=d') u hok hg hch
end
abbrev XK:=af->Option ag->Hp->Prop
abbrev St:=List (Option V)
abbrev VK:=V->Hp->Prop
abbrev TE:=St->Hp->VK->Prop
abbrev TT:=St->Hp->(Bool->Hp->Prop)->Prop
abbrev TA:=St->Hp->(List V->Hp->Prop)->Prop
structure Ends where
 nx:St->Hp->Prop
 rt:VK
 bk:St->Hp->Prop:=λ _ _=>False
 ct:St->Hp->Prop:=λ _ _=>False
abbrev TS:=Ends->St->Hp->Prop
def EP (X:Cx) (pins:List (ag×Obj)) (σ:St) (Q:VK) (u:af) (s':aj):Prop:=∃ v H',Inv X pins σ H' s'/\RelV v u/\Q v H'
def TP (X:Cx) (pins:List (ag×Obj)) (σ:St) (Q:Bool->Hp->Prop) (b:Bool) (s':aj):Prop:=∃ H',Inv X pins σ H' s'/\Q b H'
def AP (X:Cx) (pins:List (ag×Obj)) (σ:St) (Q:List V->Hp->Prop) (us:List af) (s':aj):Prop:=∃ vs H',Inv X pins σ H' s'/\Vals vs us/\Q vs H'
def SP (X:Cx) (pins:List (ag×Obj)) (D:Ends) (f:Flow) (s':aj):Prop :=
 match f with
 | .next=>∃ σ' H',Inv X pins σ' H' s'/\D.nx σ' H'
 | .brk=>∃ σ' H',Inv X pins σ' H' s'/\D.bk σ' H'
 | .cont=>∃ σ' H',Inv X pins σ' H' s'/\D.ct σ' H'
 | .ret u=>∃ v σ' H',Inv X pins σ' H' s'/\RelV v u/\D.rt v H'
def PE (X:Cx) (e:fm) (t:TE):Prop :=
 ∀ (pins:List (ag×Obj)) (s:aj) (σ:St) (H:Hp) (Q:VK),Inv X pins σ H s->t σ H Q->br (model X.prog X.w) X.A (eval e X.env) (EP X pins σ Q) X.xe s
def PT (X:Cx) (e:fm) (t:TT):Prop :=
 ∀ (pins:List (ag×Obj)) (s:aj) (σ:St) (H:Hp) (Q:Bool->Hp->Prop),Inv X pins σ H s->t σ H Q->br (model X.prog X.w) X.A (isTrue e X.env (eval e X.env)) (TP X pins σ Q) X.xe s
def PW (X:Cx) (e:fm) (t:TT):Prop :=
 ∀ (zK:Sem af) (pins:List (ag×Obj)) (s:aj) (σ:St) (H:Hp) (Q:Bool->Hp->Prop),Inv X pins σ H s->t σ H Q->br (model X.prog X.w) X.A (isTrue e X.env zK) (TP X pins σ Q) X.xe s
theorem PW.pt {X:Cx} {e:fm} {t:TT} (h:PW X e t):PT X e t:=h _
def PA (X:Cx) (es:List fm) (t:TA):Prop :=
 ∀ (pos:Pos) (pins:List (ag×Obj)) (s:aj) (σ:St) (H:Hp) (Q:List V->Hp->Prop),Inv X pins σ H s->t σ H Q->br (model X.prog X.w) X.A (spliced (backTo pos (starEach es X.env))) (AP X pins σ Q) X.xe s
def PS (X:Cx) (st:fq) (t:TS):Prop :=
 ∀ (pins:List (ag×Obj)) (s:aj) (σ:St) (H:Hp) (D:Ends),Inv X pins σ H s->t D σ H->br (model X.prog X.w) X.A (exec st X.env) (SP X pins D) X.xe s
def PSs (X:Cx) (st:List fq) (t:TS):Prop :=
 ∀ (pins:List (ag×Obj)) (s:aj) (σ:St) (H:Hp) (D:Ends),Inv X pins σ H s->t D σ H->br (model X.prog X.w) X.A (execs st X.env) (SP X pins D) X.xe s
theorem thn {α:Type} {t:Sem α} {Q Q':α->aj->Prop} {M:qt} {A:dj} {E:af->aj->Prop} {s:aj} (h:br M A t Q E s) (hQ:∀ a s,Q a s->Q' a s):br M A t Q' E s:=jc h hQ λ _ _ x=>x
section
variable {X:Cx}
inductive tS (i:Nat) (σ:St) (H:Hp) (Q:VK):Prop
 | mk:∀ v,(σ[i]?=some (some v))->(Q v H)->tS i σ H Q
def tC (v:V):TE:=λ _ H Q=>Q v H
theorem kNJ {i:Nat} {x:Str} {pos:Pos} (hN:X.N[i]?=some x) (hv:Vis X.env.scope x) (hd:(x == ("__debug__" : Str))=false:=by decide) (hcd:(x == ("__classdict__" : Str))=false:=by decide):PE X (.Name x pos) (tS i):=by
 intro pins s σ H Q I h;obtain ⟨v,e,h⟩:=h;obtain ⟨m,hn,hl⟩:=I.loc;obtain ⟨u,r,l⟩:=hl i x v hN e hv;have fin:EP X pins σ Q u s:=⟨v,H,I,r,h⟩;rcases l with ⟨hk,hm⟩ | ⟨hk,c,hc,hcell⟩
 ·exact EZ (wpAny_loadName_local I.ok.kind hk hn hm fin) hd
 ·rcases hk with hk | hk
  ·exact EZ (wpAny_loadName_cell I.ok.kind hk hc hcell fin) hd
  ·exact EZ (wpAny_loadName_free I.ok.kind hk hc hcell fin hcd) hd
theorem kC {i j pos}:PE X (.Constant (.int i) j pos) (tC (.int i)):=λ _ _ _ H _ I h=>wpAny_Constant_int ⟨.int i,H,I.tok _,⟨_,rfl⟩,h⟩
theorem fF {b j pos}:PE X (.Constant (.bool b) j pos) (tC (.bl b)):=λ _ _ _ H _ I h=>Constant_bool ⟨.bl b,H,I,rfl,h⟩
theorem jJ {j pos}:PE X (.Constant .none j pos) (tC .non):=λ _ _ _ H _ I h=>Constant_none ⟨.non,H,I,rfl,h⟩
theorem jY {x j pos}:PE X (.Constant (.str x) j pos) (tC (.str x)):=λ _ _ _ H _ I h=>Calls.Constant_str ⟨.str x,H,I.tok _,⟨_,rfl⟩,h⟩
def Gl (X:Cx) (x:Str):Prop:=X.env.kindOf x=some .globalImplicit
theorem wV {E:af->aj->Prop} {pins:List (ag×Obj)} {s:aj} {σ:St} {H:Hp} {x:Str} {u:af} {pos:Pos} {Q:af->aj->Prop} (I:Inv X pins σ H s) (hg:Gl X x) (hm:X.mg x=some u) (h:Q u s)
  (hd:(x == ("__debug__" : Str))=false:=by decide):br (model X.prog X.w) X.A (eval (.Name x pos) X.env) Q E s :=
 AV I.ok.kind hg (Calls.loadGlobal_global (by rw [I.ok.glob];exact I.mod.glob.keeps I.bk) hm h) hd
theorem vV {E:af->aj->Prop} {pins:List (ag×Obj)} {s:aj} {σ:St} {H:Hp} {x:Str} {u:af} {pos:Pos} {Q:af->aj->Prop} (I:Inv X pins σ H s) (hg:Gl X x) (hm:X.mg x=none) (hv:bootBuiltins x=some u) (h:Q u s)
  (hn:x≠"__name__":=by decide) (hd:(x == ("__debug__" : Str))=false:=by decide):br (model X.prog X.w) X.A (eval (.Name x pos) X.env) Q E s:=by
 obtain ⟨mb,h1,h2⟩:=I.mod.blt;exact AV I.ok.kind hg (Calls.loadGlobal_builtin (by rw [I.ok.glob];exact I.mod.glob.keeps I.bk) hm (by rw [I.ok.blt];exact h1.keeps I.bk) ((h2 x hn).trans hv) h) hd
theorem qX {x:Str} {v:V} {u:af} {pos:Pos} (hg:Gl X x) (hm:X.mg x=some u) (r:RelV v u) (hd:(x == ("__debug__" : Str))=false:=by decide):PE X (.Name x pos) (tC v) :=
 λ _ _ _ H _ I h=>wV I hg hm ⟨v,H,I,r,h⟩ hd
theorem cS {x:Str} {v:V} {u:af} {pos:Pos} (hg:Gl X x) (hm:X.mg x=none) (hv:bootBuiltins x=some u) (r:RelV v u) (hn:x≠"__name__":=by decide) (hd:(x == ("__debug__" : Str))=false:=by decide):PE X (.Name x pos) (tC v) :=
 λ _ _ _ H _ I h=>vV I hg hm hv ⟨v,H,I,r,h⟩ hn hd
variable {a b:fm} {ta tb:TE} {pos:Pos}
inductive tBY (Q:Bool->Hp->Prop) (x:V) (H1:Hp):Prop
 | mk:∀ c,(x=.bl c)->(Q c H1)->tBY Q x H1
def tB (t:TE):TT:=λ σ H Q=>t σ H λ x H1=>tBY Q x H1
theorem jT {e:fm} {t:TE} (h:PE X e t) (he:∀ zK,isTrue e X.env zK=(do let v <-zK;standAt e.pos;holding [v] (truthy v)):=by intro _;rfl):PT X e (tB t):=by
 intro pins s σ H Q I hw;refine isTrue_plain (thn (h pins s σ H _ I hw) λ v s1 ⟨x,H1,I1,r1,q1⟩=>?_) (he _);obtain ⟨d,rfl,q⟩:=q1;cases r1
 exact kj ⟨H1,I1,q⟩
variable {tA tB':TT} {rest:List fm}
def kRK (t u:TT):TT:=λ σ H Q=>t σ H λ c H1=>if c=true then u σ H1 Q else Q false H1
def tOr (t u:TT):TT:=λ σ H Q=>t σ H λ c H1=>if c=true then Q true H1 else u σ H1 Q
def kRH (t:TT):TT:=λ σ H Q=>t σ H λ c H1=>Q (!c) H1
theorem zD (ha:PT X a tA):PW X (.BoolOp .And [a] pos) tA:=by
 intro wh pins s σ H Q I h;refine isTrue_and (thn (ha pins s σ H Q I h) λ c s1 e=>?_)
 cases c with
 | true=>exact isTrue_and_nil e
 | false=>exact e
theorem oN (ha:PT X a tA):PW X (.BoolOp .Or [a] pos) tA:=by
 intro wh pins s σ H Q I h;refine isTrue_or (thn (ha pins s σ H Q I h) λ c s1 e=>?_)
 cases c with
 | false=>exact isTrue_or_nil e
 | true=>exact e
theorem wC (ha:PT X a tA) (hb:PW X (.BoolOp .And (b::rest) pos) tB'):PW X (.BoolOp .And (a::b::rest) pos) (kRK tA tB'):=by
 intro wh pins s σ H Q I h;refine isTrue_and (thn (ha pins s σ H _ I h) λ c s1 ⟨H1,I1,q1⟩=>?_)
 cases c with
 | true=>exact hb wh pins s1 σ H1 Q I1 q1
 | false=>exact ⟨H1,I1,q1⟩
theorem kCE (ha:PT X a tA) (hb:PW X (.BoolOp .Or (b::rest) pos) tB'):PW X (.BoolOp .Or (a::b::rest) pos) (tOr tA tB'):=by
 intro wh pins s σ H Q I h;refine isTrue_or (thn (ha pins s σ H _ I h) λ c s1 ⟨H1,I1,q1⟩=>?_)
 cases c with
 | true=>exact ⟨H1,I1,q1⟩
 | false=>exact hb wh pins s1 σ H1 Q I1 q1
theorem kHA (ha:PT X a tA):PT X (.UnaryOp .Not a pos) (kRH tA):=by
 intro pins s σ H Q I h;exact isTrue_not (ha pins s σ H (λ c H1=>Q (!c) H1) I h)
inductive kFT (tb:TE) (σ:St) (Q:VK) (x:V) (H1:Hp):Prop
 | mk:∀ c,(x=.bl c)->(if c=true then tb σ H1 Q else Q (.bl false) H1)->kFT tb σ Q x H1
def kPQ (ta tb:TE):TE:=λ σ H Q=>ta σ H λ x H1=>kFT tb σ Q x H1
theorem kAG {op} {t:TE} (h:PE X a t):PE X (.BoolOp op [a] pos) t:=λ pins s σ H Q I hw=>BoolOp_one (h pins s σ H Q I hw)
theorem oR (ha:PE X a ta) (hb:PE X (.BoolOp .And (b::rest) pos) tb):PE X (.BoolOp .And (a::b::rest) pos) (kPQ ta tb):=by
 intro pins s σ H Q I h;refine BoolOp_and (thn (ha pins s σ H _ I h) λ v s1 ⟨x,H1,I1,r1,q1⟩=>?_);obtain ⟨c,rfl,q1⟩:=q1;cases r1
 refine kj ?_
 cases c with
 | true=>exact hb pins s1 σ H1 Q I1 q1
 | false=>exact ⟨.bl false,H1,I1,rfl,q1⟩
def tIf (t:TT) (ta tb:TE):TE:=λ σ H Q=>t σ H λ c H1=>if c=true then ta σ H1 Q else tb σ H1 Q
theorem xW {c:fm} (hc:PT X c tA) (ha:PE X a ta) (hb:PE X b tb):PE X (.IfExp c a b pos) (tIf tA ta tb):=by
 intro pins s σ H Q I h;refine wpAny_IfExp (thn (hc pins s σ H _ I h) λ d s1 ⟨H1,I1,q1⟩=>?_)
 cases d with
 | true=>exact ha pins s1 σ H1 Q I1 q1
 | false=>exact hb pins s1 σ H1 Q I1 q1
end
def SqL (K:ai) (H:Hp) (a:ag) (xs:List V):Prop :=
 Rd H a (.lst xs) \/
  ∃ (o:Obj) (its:Array af) (n:Nat),K.lookup a=some o/\o.cls=.type "list"/\o.dict=none/\o.data=.seq its n/\its.size<=sizeLine/\Vals xs its.toList
def SqT (K:ai) (H:Hp) (a:ag) (xs:List V):Prop :=
 Rd H a (.tup xs) \/
  ∃ (o:Obj) (its:Array af) (n:Nat),K.lookup a=some o/\o.cls=.type "tuple"/\o.data=.seq its n/\its.size<=sizeLine/\Vals xs its.toList
def kRT:af->Option V
 | .none=>some .non
 | .bool b=>some (.bl b)
 | .int i _=>some (.int i)
 | .str x _=>some (.str x)
 | .bytes b _=>some (.byt b)
 | .float b _=>some (.flt b)
 | .ref a=>some (.ref a)
 | .type n=>some (.ty n)
 | _=>none
theorem RelV.abs {x:V} {u:af} (r:RelV x u):kRT u=some x:=by
 cases x with
 | non=>cases r;rfl
 | bl _=>cases r;rfl
 | int _=>obtain ⟨t,rfl⟩:=r;rfl
 | str _=>obtain ⟨t,rfl⟩:=r;rfl
 | byt _=>obtain ⟨t,rfl⟩:=r;rfl
 | flt _=>obtain ⟨t,rfl⟩:=r;rfl
 | ref _=>cases r;rfl
 | ty _=>cases r;rfl
theorem RelV.inj {x y:V} {u:af} (r:RelV x u) (q:RelV y u):x=y:=eO (r.abs.symm.trans q.abs)
theorem Vals.inj:∀ {xs ys:List V} {us:List af},Vals xs us->Vals ys us->xs=ys
 | _,_,_,.nil,.nil=>rfl
 | _,_,_,.cons r t,.cons r' t'=>by rw [r.inj r',Vals.inj t t']
section
variable {X:Cx} {pins:List (ag×Obj)} {σ:St} {H:Hp} {s:aj} {a:ag} {xs ys:List V}
theorem SqL.of {K:ai} (h:H a=some (.lst xs)):SqL K H a xs:=.inl (.inl h)
theorem SqT.of {K:ai} (h:H a=some (.tup xs)):SqT K H a xs:=.inl (.inl h)
theorem Inv.list (I:Inv X pins σ H s) (h:SqL X.K H a xs):∃ its:List af,Vals xs its/\PlainL s.heap a its.toArray/\xs.length<=sizeLine:=by
 rcases h with h | ⟨o,its,n,hk,hc,hd,hs,hz,r⟩
 ·obtain ⟨z,its,n,r,e⟩:=h.ok I.hok
  exact ⟨its,r,⟨_,n,e,rfl,rfl,rfl⟩,z⟩
 ·refine ⟨its.toList,r,⟨o,n,I.kIn a o hk,hc,hd,by simpa using hs⟩,?_⟩
  have e:=r.length;simp only [eI] at e;omega
theorem Inv.tuple (I:Inv X pins σ H s) (h:SqT X.K H a xs):∃ its:List af,Vals xs its/\CF s.heap a its.toArray/\xs.length<=sizeLine:=by
 rcases h with h | ⟨o,its,n,hk,hc,hs,hz,r⟩
 ·obtain ⟨z,its,r,p⟩:=h.ok I.hok
  exact ⟨its,r,p.isTup,z⟩
 ·refine ⟨its.toList,r,⟨o,I.kIn a o hk,hc,n,by simpa using hs⟩,?_⟩
  have e:=r.length;simp only [eI] at e;omega
theorem Inv.list_inj (I:Inv X pins σ H s) (h:SqL X.K H a xs) (h':SqL X.K H a ys):xs=ys:=by
 obtain ⟨its,r,⟨o,n,e,_,_,d⟩,_⟩:=I.list h;obtain ⟨its',r',⟨o',n',e',_,_,d'⟩,_⟩:=I.list h';rw [e] at e';cases e';rw [d] at d';injection d' with d1 _
 have:its=its':=by simpa using congrArg Fg d1
 subst this;exact r.inj r'
theorem Inv.tuple_inj (I:Inv X pins σ H s) (h:SqT X.K H a xs) (h':SqT X.K H a ys):xs=ys:=by
 obtain ⟨its,r,⟨o,e,_,n,d⟩,_⟩:=I.tuple h;obtain ⟨its',r',⟨o',e',_,n',d'⟩,_⟩:=I.tuple h';rw [e] at e';cases e';rw [d] at d';injection d' with d1 _
 have:its=its':=by simpa using congrArg Fg d1
 subst this;exact r.inj r'
end
abbrev Cx.wish (X:Cx) (E:af->aj->Prop):Cx:={ X with xe:=E }
abbrev Cx.nox (X:Cx):Cx:=X.wish λ _ _=>False
theorem Cx.Ok.wish {X:Cx} (ok:X.Ok) (E:af->aj->Prop):(X.wish E).Ok :=
 ⟨ok.mod,ok.kind,ok.glob,ok.blt,ok.above,ok.inj,ok.has,ok.cab,ok.hd,ok.frames,ok.stk,ok.exf,ok.bs,ok.bsz,ok.noex,ok.exfs,ok.funs,ok.frf⟩
theorem Cx.Ok.unwish {X:Cx} {E:af->aj->Prop} (ok:(X.wish E).Ok):X.Ok :=
 ⟨ok.mod,ok.kind,ok.glob,ok.blt,ok.above,ok.inj,ok.has,ok.cab,ok.hd,ok.frames,ok.stk,ok.exf,ok.bs,ok.bsz,ok.noex,ok.exfs,ok.funs,ok.frf⟩
section
variable {X:Cx} {pins:List (ag×Obj)} {σ:St} {H:Hp} {s:aj} {E:af->aj->Prop}
theorem Inv.wish (I:Inv X pins σ H s) (E:af->aj->Prop):Inv (X.wish E) pins σ H s:=⟨I.ok.wish E,I.os,I.bare,I.base,I.loc,I.cell,I.free,I.freeC,I.pin,I.hok,I.len⟩
theorem Inv.unwish (I:Inv (X.wish E) pins σ H s):Inv X pins σ H s:=⟨I.ok.unwish,I.os,I.bare,I.base,I.loc,I.cell,I.free,I.freeC,I.pin,I.hok,I.len⟩
theorem SP.unwish {D:Ends} {f:Flow} {s':aj} (h:SP (X.wish E) pins D f s'):SP X pins D f s':=by
 cases f with
 | next=>obtain ⟨σ',H',I,q⟩:=h;exact ⟨σ',H',I.unwish,q⟩
 | brk=>obtain ⟨σ',H',I,q⟩:=h;exact ⟨σ',H',I.unwish,q⟩
 | cont=>obtain ⟨σ',H',I,q⟩:=h;exact ⟨σ',H',I.unwish,q⟩
 | ret u=>obtain ⟨v,σ',H',I,r,q⟩:=h;exact ⟨v,σ',H',I.unwish,r,q⟩
theorem PSs.nox {st:List fq} {t:TS} (h:PSs X.nox st t):PSs X st t:=λ pins s σ H D I hw =>
 jc (h pins s σ H D (I.wish _) hw) (λ _ _ q=>q.unwish) λ _ _ z=>iL z
end
section
variable {X:Cx} {st:fq} {rest:List fq} {t u:TS} {e:fm} {te:TE} {pos:Pos}
def kPM:TS:=λ D σ H=>D.nx σ H
def kMX (t u:TS):TS:=λ D σ H=>t { D with nx:=u D } σ H
theorem qB:PSs X [] kPM:=λ _ _ σ H _ I h=>wa ⟨σ,H,I,h⟩
theorem kF (h1:PS X st t) (h2:PSs X rest u):PSs X (st::rest) (kMX t u):=by
 intro pins s σ H D I h;refine Dl (thn (h1 pins s σ H { D with nx:=u D } I h) λ f s1 q=>?_)
 cases f with
 | next =>
  obtain ⟨σ',H',I',q⟩:=q;exact h2 pins s1 σ' H' D I' q
 | ret v=>exact q
 | brk=>exact q
 | cont=>exact q
theorem kI (h1:PS X st t):PSs X [st] t:=by
 intro pins s σ H D I h;refine Dl (thn (h1 pins s σ H D I h) λ f s1 q=>?_)
 cases f with
 | next=>exact wa q
 | ret v=>exact q
 | brk=>exact q
 | cont=>exact q
theorem Inv.quiet {pins:List (ag×Obj)} {σ:St} {H:Hp} {s:aj} (I:Inv X pins σ H s):interactive X.env=false:=by simp [interactive,I.ok.kind]
def kPO (te:TE):TS:=λ D σ H=>te σ H λ _ H1=>D.nx σ H1
theorem jQ (he:PE X e te) (hs:swapsWith e none pos.line X.env=pure false:=by rfl):PS X (.Expr e pos) (kPO te):=by
 intro pins s σ H D I h;exact wpAny_Expr_any (thn (he pins s σ H _ I h) λ v s1 ⟨x,H1,I1,r1,q1⟩=>⟨σ,H1,I1,q1⟩) I.quiet hs
def kPK (te:TE):TS:=λ D σ H=>te σ H D.rt
theorem kP (he:PE X e te):PS X (.Return (some e) pos) (kPK te):=by
 intro pins s σ H D I h;exact wpAny_Return_some (thn (he pins s σ H _ I h) λ v s1 ⟨x,H1,I1,r1,q1⟩=>⟨x,σ,H1,I1,r1,q1⟩)
def kRJ (c:TT) (t u:TS):TS:=λ D σ H=>c σ H λ b H1=>if b=true then t D σ H1 else u D σ H1
theorem qP {c:fm} {a b:List fq} {tc:TT} (hc:PT X c tc) (ha:PSs X a t) (hb:PSs X b u):PS X (.If c a b pos) (kRJ tc t u):=by
 intro pins s σ H D I h;refine wpAny_If (thn (hc pins s σ H _ I h) λ d s1 ⟨H1,I1,q1⟩=>?_)
 cases d with
 | true=>exact ha pins s1 σ H1 D I1 q1
 | false=>exact hb pins s1 σ H1 D I1 q1
end
abbrev TG:=V->St->Hp->(St->Hp->Prop)->Prop
abbrev TGs:=List V->St->Hp->(St->Hp->Prop)->Prop
def PG (X:Cx) (target:fm) (t:TG):Prop :=
 ∀ (pins:List (ag×Obj)) (s:aj) (σ:St) (H:Hp) (v:V) (u:af) (Q:St->Hp->Prop),Inv X pins σ H s->RelV v u->t v σ H Q ->
  br (model X.prog X.w) X.A (assign target X.env u) (λ _ s'=>∃ σ' H',Inv X pins σ' H' s'/\Q σ' H') X.xe s
def PGs (X:Cx) (ts:List fm) (t:TGs):Prop :=
 ∀ (pins:List (ag×Obj)) (s:aj) (σ:St) (H:Hp) (vs:List V) (us:List af) (Q:St->Hp->Prop),Inv X pins σ H s->Vals vs us->t vs σ H Q ->
  br (model X.prog X.w) X.A (assignInOrder ((assignEach ts X.env).map (·.2)) us) (λ _ s'=>∃ σ' H',Inv X pins σ' H' s'/\Q σ' H') X.xe s
abbrev kOR:=V->V->V->Hp->(Hp->Prop)->Prop
def kRE (X:Cx) (t:kOR):Prop :=
 ∀ (pins:List (ag×Obj)) (s:aj) (σ:St) (H:Hp) (o i v:V) (ov iv u:af) (Q:Hp->Prop),Inv X pins σ H s->RelV o ov->RelV i iv->RelV v u->t o i v H Q ->
  br (model X.prog X.w) X.A (setItem ov iv u) (λ _ s'=>∃ H',Inv X pins σ H' s'/\Q H') X.xe s
section
variable {X:Cx} {pos:Pos}
def aB (i:Nat):TG:=λ v σ H Q=>Q (σ.set i (some v)) H
theorem kCG {i:Nat} {x:Str} (hN:X.N.Nodup) (hi:X.N[i]?=some x) (hx:Loc X.env.scope x) (hf:X.fn x=true\/X.env.scope.names.lookup x=some .local:=by first | exact .inl rfl | exact .inr rfl | assumption):PG X (.Name x pos) (aB i):=by
 intro pins s σ H v u Q I r h;exact DG (zT I hN hi hx r (λ s' I'=>⟨_,H,I',h⟩) hf)
inductive kQS (vs:List V) (σ:St) (H:Hp) (Q:St->Hp->Prop):Prop
 | mk:(vs=[])->(Q σ H)->kQS vs σ H Q
inductive kME (t:TG) (u:TGs) (vs:List V) (σ:St) (H:Hp) (Q:St->Hp->Prop):Prop
 | mk:∀ v r,(vs=v::r)->(t v σ H λ σ' H'=>u r σ' H' Q)->kME t u vs σ H Q
theorem qJ:PGs X [] kQS:=by
 intro pins s σ H vs us Q I r h;obtain ⟨e,h⟩:=h;subst e;cases r
 exact DH ⟨σ,H,I,h⟩
theorem kQ {e:fm} {es:List fm} {t:TG} {u:TGs} (h1:PG X e t) (h2:PGs X es u)
  (hs:(assignEach (e::es) X.env).map (·.2)=assign e X.env::(assignEach es X.env).map (·.2):=by rfl):PGs X (e::es) (kME t u):=by
 intro pins s σ H vs us Q I r h;obtain ⟨v,vr,e1,h⟩:=h;subst e1
 cases r with
 | cons r rr =>
  rw [hs];refine AW (thn (h1 pins s σ H _ _ _ I r h) λ _ s1 ⟨σ1,H1,I1,q1⟩=>?_);exact h2 pins s1 σ1 H1 _ _ Q I1 rr q1
inductive kKR (K:ai) (n:Nat) (t:TGs) (v:V) (σ:St) (H:Hp) (Q:St->Hp->Prop):Prop
 | mk:∀ a xs,(v=.ref a)->(SqT K H a xs)->(xs.length=n)->(t xs σ H Q)->kKR K n t v σ H Q
theorem jE {es:List fm} {k:Nat} {t:TGs} {n:Nat} (hc:X.calm=true) (h:PGs X es t)
  (hn:(assignEach es X.env).length=n:=by rfl) (hst:(assignEach es X.env).findIdx? (·.1)=none:=by rfl):PG X (.Tuple es k pos) (kKR X.K n t):=by
 intro pins s σ H v u Q I r hw;obtain ⟨a,xs,e1,hq,hl,hw⟩:=hw;subst e1;cases r
 obtain ⟨its,rv,ht,hz⟩:=I.tuple hq;refine assign_Tuple_tuple (I.ok.hd hc) ht (by simp [hn,<-hl,rv.length]) hst λ h' hx=>?_;have I1:Inv X pins σ H { s with heap:=h' }:=I.kept (t':=s.toks) λ b o e=>hx b o (dh (bf e)) e
 exact h pins _ σ H xs _ Q I1 (by simpa using rv) hw
def kRQ (to ti:TE) (t:kOR):TG:=λ v σ H Q=>to σ H λ o H1=>ti σ H1 λ i H2=>t o i v H2 λ H3=>Q σ H3
theorem kHD {o i:fm} {to ti:TE} {t:kOR} (ho:PE X o to) (hi:PE X i ti) (hs:kRE X t)
  (ha:∀ v,assign (.Subscript o i pos) X.env v=(do
   let ov <-holding [v] (eval o X.env)
   let iv <-holding [v,ov] (eval i X.env)
   standAt pos
   holding [v,ov,iv] (setItem ov iv v)
   release [v,ov,iv] []):=by intro _;rfl):PG X (.Subscript o i pos) (kRQ to ti t):=by
 intro pins s σ H v u Q I r h;rw [ha];refine aa (eQ (thn (ho pins s σ H _ I h) λ ov s1 ⟨x,H1,I1,r1,q1⟩=>?_));refine aa (eQ (thn (hi pins s1 σ H1 _ I1 q1) λ iv s2 ⟨y,H2,I2,r2,q2⟩=>?_));refine aa (mh (aa (eQ (thn (hs pins s2 σ H2 x y v ov iv u _ I2 r1 r2 r q2) λ _ s3 ⟨H3,I3,q3⟩=>?_))));exact wpAny_release ⟨σ,H3,I3,q3⟩
def kJD (te:TE) (g:TG):TS:=λ D σ H=>te σ H λ x H1=>g x σ H1 D.nx
theorem jX {tg e:fm} {te:TE} {g:TG} (he:PE X e te) (hg:PG X tg g) (hs:swapsWithSole [tg] e pos.line X.env=pure false:=by rfl) (hw:swappedStores [tg] e X.env=pure none:=by rfl)
  (h1:(assignEach [tg] X.env).map (·.2)=[assign tg X.env]:=by rfl):PS X (.Assign [tg] e pos) (kJD te g):=by
 intro pins s σ H D I h;refine wpAny_Assign_stores (thn (he pins s σ H _ I h) λ v s1 ⟨x,H1,I1,r1,q1⟩=>?_) hs hw;rw [h1];exact thn (hg pins s1 σ H1 x v _ I1 r1 q1) λ _ s2 q=>q
theorem kNH {i:Nat} {x:Str} {e:fm} {te:TE} {pos':Pos} (hN:X.N.Nodup) (hi:X.N[i]?=some x) (hx:Loc X.env.scope x) (he:PE X e te) (hs:swapsWith e (some (.Name x pos')) pos.line X.env=pure false:=by rfl) (hf:X.fn x=true\/X.env.scope.names.lookup x=some .local:=by first | exact .inl rfl | exact .inr rfl | assumption) :
  PS X (.Assign [.Name x pos'] e pos) (kJD te (aB i)):=by
 intro pins s σ H D I h;refine wpAny_Assign_Name (thn (he pins s σ H _ I h) λ v s1 ⟨y,H1,I1,r1,q1⟩=>?_) hs;exact zT I1 hN hi hx r1 (λ s2 I2=>⟨_,H1,I2,q1⟩) hf
inductive kLH (i:Nat) (j:Nat) (D:Ends) (σ:St) (vs:List V) (H1:Hp):Prop
 | mk:∀ v w,(vs=[v,w])->(D.nx ((σ.set i (some v)).set j (some w)) H1)->kLH i j D σ vs H1
def kRG (i j:Nat) (ta:TA):TS:=λ D σ H=>ta σ H λ vs H1=>kLH i j D σ vs H1
theorem wE {i j:Nat} {x y:Str} {a b:fm} {ta:TA} {px py pt:Pos} {kt k2 pt2} (hc:X.calm=true) (hN:X.N.Nodup) (hi:X.N[i]?=some x) (hj:X.N[j]?=some y) (hij:i≠j)
  (hx:X.env.scope.names.lookup x=some .local) (hy:X.env.scope.names.lookup y=some .local) (ha:PA X [a,b] ta)
  (hw:swappedStores [.Tuple [.Name x px,.Name y py] kt pt] (.Tuple [a,b] k2 pt2) X.env=pure (some [x,y]))
  (hs:swapsWithSole [.Tuple [.Name x px,.Name y py] kt pt] (.Tuple [a,b] k2 pt2) pos.line X.env=pure false:=by rfl) :
  PS X (.Assign [.Tuple [.Name x px,.Name y py] kt pt] (.Tuple [a,b] k2 pt2) pos) (kRG i j ta):=by
 intro pins s σ H D I h;rw [exec_Assign_arm];refine aa (mh ?_);rw [hs];refine aa (aq ?_);rw [if_neg (by decide)];refine aa (Tuple_ (thn (ha _ pins s σ H _ I h) λ us s1 ⟨vs,H1,I1,r1,q1⟩=>?_));obtain ⟨v,w,e1,q1⟩:=q1;subst e1
 obtain ⟨u1,u2,rfl,rv,rw'⟩ : ∃ u1 u2,us=[u1,u2]/\RelV v u1/\RelV w u2:=by
  cases r1 with
  | cons p q =>
   cases q with
   | cons p' q' =>
    cases q'
    exact ⟨_,_,rfl,p,p'⟩
 refine fu ?_ yS2;have I2:Inv X pins σ H1 { s1 with heap:=s1.heap.push { cls:=.type "tuple",data:=.seq [u1,u2].toArray } }:=I1.kept (t':=s1.toks) λ b o e=>ak _ e
 rw [hw];refine aa (aq ?_);show br (model X.prog X.w) X.A (do rule "assign.swapped-stores";let items <-unpackItems (.ref s1.heap.objs.size) 2 none;assignInOrder [λ v=>bindName X.env y v,λ v=>bindName X.env x v] items.reverse;pure GP) _ _ _;refine aa (uo (aa (unpackItems_tuple (items:=#[u1,u2]) (I.ok.hd hc) (IsTup.new s1.heap _) λ h' hx'=>?_)));have I3:=I2.kept (h':=h') (t':=s1.toks) λ b o e=>hx' b o (dh (bf e)) e;show br _ _ (assignInOrder [λ v=>bindName X.env y v,λ v=>bindName X.env x v] [u2,u1] >>= λ _=>pure GP) _ _ _;refine aa (AW (Ea (zT I3 hN hj (.inl hy) rw' (λ s2 I4=>?_) (.inr hy))));refine AW (Ea (zT I4 hN hi (.inl hx) rv (λ s3 I5=>DH (aq ?_)) (.inr hx)));rw [List.set_comm _ _ (iY hij)] at I5;exact ⟨_,H1,I5,q1⟩
def kFO (c:TT) (tb:TS):TS:=λ D σ H=>∃ W:Nat->St->Hp->Prop,(∃ m,W m σ H)/\∀ m σ H,W m σ H ->
 c σ H λ b H1=>if b=true then ∃ N:St->Hp->Prop,(∀ σ' H',N σ' H'->∃ m',m'<m/\W m' σ' H')/\tb { D with nx:=N,ct:=N,bk:=D.nx } σ H1 else D.nx σ H1
theorem sE {c:fm} {body:List fq} {tc:TT} {tb:TS} (hp:FZ (model X.prog X.w) X.A X.env X.xe) (hc:PT X c tc) (hb:PSs X body tb):PS X (.While c body [] pos) (kFO tc tb):=by
 intro pins s σ H D I h;obtain ⟨W,⟨m0,w0⟩,turn⟩:=h;refine wpAny_While (codeAny_whileLoop (λ n s'=>∃ σ' H',Inv X pins σ' H' s'/\W n σ' H') ?_ m0 ⟨σ,H,I,w0⟩);rintro n s1 ⟨σ1,H1,I1,w1⟩;refine ou hp (thn (hc pins s1 σ1 H1 _ I1 (turn n σ1 H1 w1)) λ b s2 ⟨H2,I2,q2⟩=>?_)
 cases b with
 | true =>
  obtain ⟨N,hN,q2⟩:=q2;rw [if_pos rfl];refine ou hp (thn (hb pins s2 σ1 H2 _ I2 q2) λ f s3 q3=>?_)
  cases f with
  | next =>
   obtain ⟨σ3,H3,I3,n3⟩:=q3;obtain ⟨m',hm,w3⟩:=hN σ3 H3 n3;exact ⟨m',hm,σ3,H3,I3,w3⟩
  | cont =>
   obtain ⟨σ3,H3,I3,n3⟩:=q3;obtain ⟨m',hm,w3⟩:=hN σ3 H3 n3;exact ⟨m',hm,σ3,H3,I3,w3⟩
  | brk=>exact q3
  | ret v=>exact q3
 | false =>
  rw [if_neg cq];exact wa ⟨σ1,H2,I2,q2⟩
end
structure It where
 go:Nat->Hp->Prop
 yld:Nat->Hp->V->Hp->Prop
 stop:Nat->Hp->Prop
def zS (X:Cx) (pins:List (ag×Obj)) (H:Hp) (b:ag):Prop :=
 H b=none/\b≠X.env.locals/\b∉X.fs/\(b∈X.ex\/X.s₀.heap.objs.size<=b)/\(∀ x c,X.env.cells.lookup x=some c->c≠b)/\∀ p∈X.pn++pins,p.1≠b
theorem Inv.fpOk {X:Cx} {pins:List (ag×Obj)} {σ:St} {H H':Hp} {s:aj} {b:ag} (I:Inv X pins σ H s) (hb:s.heap.objs.size<=b) (hn:H' b=none):zS X pins H' b:=by
 refine ⟨hn,AI (be I.lt hb),I.nofs hb,.inr (gk I.sz hb),λ x c e z=>?_,λ p hp z=>?_⟩
 ·obtain ⟨v,q⟩:=I.cell x c e
  exact absurd (be q.lt (by rw [z];exact hb)) (iQ _)
 ·exact absurd (be (bf (I.pin p hp).1) (by rw [z];exact hb)) (iQ _)
structure Turn (P:cw) (w:eK) (K:ai) (tg:fm) (J:It) (fp:List ag) (it:ag) (tn:Nat->eH->Prop):Prop where
 mem:it∈fp
 obj:∀ i h,tn i h->∀ b∈fp,∃ o,h.get? b=some o/\∀ v,o.data≠.cell v
 keep:∀ i h h',tn i h->(∀ b∈fp,∀ o,h.get? b=some o->h'.get? b=some o)->tn i h'
 item:∀ (X:Cx),X.prog=P->X.w=w->X.K=K->X.calm=true->∀ (i:Nat) (pins:List (ag×Obj)) (s:aj) (σ:St) (H:Hp) (E:af->aj->Prop),Inv X pins σ H s->(∀ b∈fp,zS X pins H b)->tn i s.heap->J.go i H ->
  br (model P w) X.A (pyNext (.ref it)) (λ r s1=>∃ u,r=some u /\
   br (model P w) X.A (letOwnedTupleGo tg (.ref it) u) (λ _ s2=>∃ x H',Inv X pins σ H' s2/\RelV x u/\J.yld i H x H'/\tn (i+1) s2.heap/\∀ b∈fp,H' b=none) E s1) E s
 done:∀ (X:Cx),X.prog=P->X.w=w->X.K=K->X.calm=true->∀ (i:Nat) (pins:List (ag×Obj)) (s:aj) (σ:St) (H:Hp) (E:af->aj->Prop),Inv X pins σ H s->(∀ b∈fp,zS X pins H b)->tn i s.heap->J.stop i H ->
  br (model P w) X.A (pyNext (.ref it)) (λ r s1=>r=none/\Inv X pins σ H s1) E s
 self:∀ (A:dj) (i:Nat) (s:aj) (Q:af->aj->Prop) (E:af->aj->Prop),tn i s.heap->Q (.ref it) s->br (model P w) A (pyIter (.ref it)) Q E s
abbrev TI:=St->Hp->(It->Hp->Prop)->Prop
def PIE (X:Cx) (pins:List (ag×Obj)) (σ:St) (tg:fm) (R:It->Hp->Prop) (itv:af) (s2:aj):Prop :=
 ∃ (it:ag) (fp:List ag) (tn:Nat->eH->Prop) (J:It) (H':Hp),itv=.ref it/\Inv X pins σ H' s2/\Turn X.prog X.w X.K tg J fp it tn/\tn 0 s2.heap/\(∀ b∈fp,zS X pins H' b)/\R J H'
def PI (X:Cx) (tg iter:fm) (wi:TI):Prop :=
 ∀ (pins:List (ag×Obj)) (s:aj) (σ:St) (H:Hp) (R:It->Hp->Prop),Inv X pins σ H s->wi σ H R ->
  br (model X.prog X.w) X.A (eval iter X.env) (λ v s1=>br (model X.prog X.w) X.A (pyIter v) (PIE X pins σ tg R) X.xe s1) X.xe s
theorem kIG {M : qt} {A : dj} {E : af -> aj -> Prop} {s : aj} {tg : fm} {it : ag} {u : af} {o : Obj} {n : String} {vs : Array af} {Q : Unit -> aj -> Prop} (ho : s.heap.get? it = some o) (hc : o.cls = .type n) (hd : o.data = .fields vs)
    (hn : ["enumerate", "zip", "dict_itemiterator", "dict_reverseitemiterator", "odict_iterator", "itertools.zip_longest", "itertools.pairwise"].contains n = false) (hQ : Q () s) : br M A (letOwnedTupleGo tg (.ref it) u) Q E s := by
  unfold letOwnedTupleGo
  cases tg <;> first
    | exact aq hQ
    | (cases u <;> first
        | exact aq hQ
        | (refine aa (wpAny_load ho ?_)
           rw [hc, hd];show br M A (if (["enumerate", "zip", "dict_itemiterator", "dict_reverseitemiterator", "odict_iterator", "itertools.zip_longest", "itertools.pairwise"].contains n && vs[0]? == some (rawInt _)) = true then _ else _) Q E s;rw [if_neg (by intro h; rw [hn, kh] at h; cases h)];exact aq hQ))
def Itl (K:ai) (a:ag):It :=
 ⟨λ i H=>∃ xs x,SqL K H a xs/\xs[i]?=some x,λ i H x H'=>H'=H/\∀ xs,SqL K H a xs->xs[i]?=some x,λ i H=>∃ xs,SqL K H a xs/\xs.length<=i⟩
def Itt (K:ai) (a:ag):It :=
 ⟨λ i H=>∃ xs x,SqT K H a xs/\xs[i]?=some x,λ i H x H'=>H'=H/\∀ xs,SqT K H a xs->xs[i]?=some x,λ i H=>∃ xs,SqT K H a xs/\xs.length<=i⟩
def Itr (lo:Int) (n:Nat):It:=⟨λ i _=>i<n,λ i H x H'=>H'=H/\x=.int (lo+i),λ i _=>n<=i⟩
theorem kDL {P:cw} {w:eK} {K:ai} {tg:fm} (a it:ag):Turn P w K tg (Itl K a) [it] it (λ i h=>h.IsListIter it a i) where
 mem:=by simp
 obj:=λ i h st b hb=>by
  have e:b=it:=by simpa using hb
  subst e;obtain ⟨o,e,c,d⟩:=st;exact ⟨o,e,λ v z=>by rw [d] at z;cases z⟩
 keep:=λ i h h' st k=>st.at λ o e=>k it (by simp) o e
 item:=by
  intro X hP hw hK hc i pins s σ H E I hf st hg;subst hP hw hK;obtain ⟨xs,x,hq,hx⟩:=hg;obtain ⟨its,rv,p,hz⟩:=I.list hq;obtain ⟨u,hu,ru⟩:=rv.get hx;obtain ⟨f0,f1,f2,f3,f4,f5⟩:=hf it (by simp);refine Bd st p.isList (x:=u) (by simpa using hu) λ h' st' sb=>?_;have I1:Inv X pins σ H { s with heap:=h' }:=I.turned (t':=s.toks) (λ b o hb e=>(sb.2 b hb).trans e) f0 f1 f3 f4 f5
  obtain ⟨o,e,c,d⟩:=id st';exact ⟨u,rfl,kIG (s:={ s with heap:=h' }) e c d (by decide) ⟨x,H,I1,ru,⟨rfl,λ ys hy=>by rw [I.list_inj hy hq];exact hx⟩,st',λ b hb=>(hf b hb).1⟩⟩
 done:=by
  intro X hP hw hK hc i pins s σ H E I hf st hg;subst hP hw hK;obtain ⟨xs,hq,hx⟩:=hg;obtain ⟨its,rv,p,hz⟩:=I.list hq;obtain ⟨f0,f1,f2,f3,f4,f5⟩:=hf it (by simp);have hl:=rv.length;exact Bx (I.ok.hd hc) st p.isList (by simp;omega) λ h' eb=>⟨rfl,I.turned (t':=s.toks) (λ b o hb e=>eb b o hb e) f0 f1 f3 f4 f5⟩
 self:=λ _ _ _ _ _ st h=>wpAny_pyIter_listiter st h
theorem tP {P:cw} {w:eK} {K:ai} {tg:fm} (a it:ag):Turn P w K tg (Itt K a) [it] it (λ i h=>h.IsTupleIter it a i) where
 mem:=by simp
 obj:=λ i h st b hb=>by
  have e:b=it:=by simpa using hb
  subst e;obtain ⟨o,e,c,d⟩:=st;exact ⟨o,e,λ v z=>by rw [d] at z;cases z⟩
 keep:=λ i h h' st k=>st.at λ o e=>k it (by simp) o e
 item:=by
  intro X hP hw hK hc i pins s σ H E I hf st hg;subst hP hw hK;obtain ⟨xs,x,hq,hx⟩:=hg;obtain ⟨its,rv,p,hz⟩:=I.tuple hq;obtain ⟨u,hu,ru⟩:=rv.get hx;obtain ⟨f0,f1,f2,f3,f4,f5⟩:=hf it (by simp);refine wpAny_pyNext_tuple_item st (show s.heap.IsTuple a its.toArray from p) (x:=u) (by simpa using hu) λ h' st' sb=>?_;have I1:Inv X pins σ H { s with heap:=h' }:=I.turned (t':=s.toks) (λ b o hb e=>(sb.2 b hb).trans e) f0 f1 f3 f4 f5
  obtain ⟨o,e,c,d⟩:=id st';exact ⟨u,rfl,kIG (s:={ s with heap:=h' }) e c d (by decide) ⟨x,H,I1,ru,⟨rfl,λ ys hy=>by rw [I.tuple_inj hy hq];exact hx⟩,st',λ b hb=>(hf b hb).1⟩⟩
 done:=by
  intro X hP hw hK hc i pins s σ H E I hf st hg;subst hP hw hK;obtain ⟨xs,hq,hx⟩:=hg;obtain ⟨its,rv,p,hz⟩:=I.tuple hq;obtain ⟨f0,f1,f2,f3,f4,f5⟩:=hf it (by simp);have hl:=rv.length;exact wpAny_pyNext_tuple_end (I.ok.hd hc) st (show s.heap.IsTuple a its.toArray from p) (by simp;omega) λ h' eb=>⟨rfl,I.turned (t':=s.toks) (λ b o hb e=>eb b o hb e) f0 f1 f3 f4 f5⟩
 self:=λ _ _ _ _ _ st h=>wpAny_pyIter_tupleiter st h
theorem tQ {P:cw} {w:eK} {K:ai} {tg:fm} (it:ag) (lo:Int) (n:Nat):Turn P w K tg (Itr lo n) [it] it (λ i h=>IsRangeIter h it (lo+(i:Nat)*1) ((n:Int)-(i:Nat)) 1) where
 mem:=by simp
 obj:=λ i h st b hb=>by
  have e:b=it:=by simpa using hb
  subst e
  exact ⟨_,st,λ v z=>by
   have z':Data.fields _=Data.cell v:=z
   cases z'⟩
 keep:=λ i h h' st k=>k it (by simp) _ st
 item:=by
  intro X hP hw hK hc i pins s σ H E I hf st hg;subst hP hw hK;obtain ⟨f0,f1,f2,f3,f4,f5⟩:=hf it (by simp);have W:=Walks.range (prog:=X.prog) (w:=X.w) (I.ok.hd hc) it lo 1 n;refine W.item i s _ _ hg st λ v h' tk hv st' kk=>?_;obtain ⟨t,rfl⟩:=hv;have I1:Inv X pins σ H { s with heap:=h',toks:=tk }:=I.turned (λ b o hb e=>kk b o (by simpa using hb) e) f0 f1 f3 f4 f5
  refine ⟨_,rfl,kIG (s:={ s with heap:=h',toks:=tk }) (n:="range_iterator") st' rfl rfl (by decide) ⟨.int (lo+i),H,I1,⟨t,?_⟩,⟨rfl,rfl⟩,st',λ b hb=>(hf b hb).1⟩⟩
  rw [EI]
 done:=by
  intro X hP hw hK hc i pins s σ H E I hf st hg;subst hP hw hK;obtain ⟨f0,f1,f2,f3,f4,f5⟩:=hf it (by simp);exact wpAny_pyNext_range_end (I.ok.hd hc) st (by have:n<=i:=hg;omega) λ h' eb=>⟨rfl,I.turned (t':=s.toks) (λ b o hb e=>eb b o hb e) f0 f1 f3 f4 f5⟩
 self:=λ _ _ _ _ _ st h=>wpAny_pyIter_rangeiter st h
section
variable {X:Cx} {tg:fm}
inductive kIA (K:ai) (R:It->Hp->Prop) (x:V) (H1:Hp):Prop
 | mk:∀ a,(x=.ref a)->((∃ xs,SqL K H1 a xs))->(R (Itl K a) H1)->kIA K R x H1
def kQQ (K:ai) (tl:TE):TI:=λ σ H R=>tl σ H λ x H1=>kIA K R x H1
inductive kMB (K:ai) (R:It->Hp->Prop) (x:V) (H1:Hp):Prop
 | mk:∀ a,(x=.ref a)->((∃ xs,SqT K H1 a xs))->(R (Itt K a) H1)->kMB K R x H1
def kQN (K:ai) (tl:TE):TI:=λ σ H R=>tl σ H λ x H1=>kMB K R x H1
theorem yC {l:fm} {tl:TE} (hl:PE X l tl):PI X tg l (kQQ X.K tl):=by
 intro pins s σ H R I h;refine thn (hl pins s σ H _ I h) λ v s1 ⟨x,H1,I1,r1,q1⟩=>?_;obtain ⟨a,e,⟨xs,hq⟩,q⟩:=q1;subst e;cases r1
 obtain ⟨its,rv,p,hz⟩:=I1.list hq;refine xh p.isList ?_;refine ⟨s1.heap.objs.size,[s1.heap.objs.size],_,_,H1,rfl,I1.kept (t':=s1.toks) λ b o e=>ak _ e,kDL a _,⟨_,cv _ rfl,rfl,rfl⟩,λ b hb=>?_,q⟩;have e:b=s1.heap.objs.size:=by simpa using hb
 subst e;exact I1.fpOk (ba _) (I1.hok.fresh (ba _))
theorem yN {l:fm} {tl:TE} (hl:PE X l tl):PI X tg l (kQN X.K tl):=by
 intro pins s σ H R I h;refine thn (hl pins s σ H _ I h) λ v s1 ⟨x,H1,I1,r1,q1⟩=>?_;obtain ⟨a,e,⟨xs,hq⟩,q⟩:=q1;subst e;cases r1
 obtain ⟨its,rv,p,hz⟩:=I1.tuple hq;refine sk (show s1.heap.IsTuple a its.toArray from p) ?_;refine ⟨s1.heap.objs.size,[s1.heap.objs.size],_,_,H1,rfl,I1.kept (t':=s1.toks) λ b o e=>ak _ e,tP a _,⟨_,cv _ rfl,rfl,rfl⟩,λ b hb=>?_,q⟩;have e:b=s1.heap.objs.size:=by simpa using hb
 subst e;exact I1.fpOk (ba _) (I1.hok.fresh (ba _))
theorem sD {pins:List (ag×Obj)} {σ:St} {H:Hp} {s:aj} {R:It->Hp->Prop} {E:af->aj->Prop} {lo hi:Int} {t u v:Tok} {tk:Nat} (I:Inv X pins σ H s) (h1 : -(2 ^ 62)<=lo) (h2:lo<2 ^ 62) (h3 : -(2 ^ 62)<=hi) (h4:hi<2 ^ 62)
  (q:R (Itr lo (hi-lo).toNat) H):br (model X.prog X.w) X.A (pyIter (.ref s.heap.objs.size)) (PIE X pins σ tg R) E { s with heap:=s.heap.push { cls:=.type "range",data:=.fields #[.int lo t,.int hi u,.int 1 v] },toks:=tk }:=by
 refine wpAny_pyIter_range (IsRange.new ..) (small_one h1 h2 h3 h4) ?_;have I1:Inv X pins σ H { s with heap:=s.heap.push { cls:=.type "range",data:=.fields #[.int lo t,.int hi u,.int 1 v] },toks:=tk }:=I.kept λ b o e=>ak _ e
 refine ⟨(s.heap.push { cls:=.type "range",data:=.fields #[.int lo t,.int hi u,.int 1 v] }).objs.size,[(s.heap.push { cls:=.type "range",data:=.fields #[.int lo t,.int hi u,.int 1 v] }).objs.size],_,_,H,rfl,
  I1.kept (t':=tk) λ b o e=>ak _ e,tQ _ lo (hi-lo).toNat,?_,λ b hb=>?_,q⟩
 ·have e1:lo+((0:Nat):Int)*1=lo:=by simp
  have e2:(((hi-lo).toNat:Nat):Int)-((0:Nat):Int)=Fb lo hi 1:=by rw [rangeSize_one];split<;>omega
  show IsRangeIter _ _ (lo+((0:Nat):Int)*1) ((((hi-lo).toNat:Nat):Int)-((0:Nat):Int)) 1;rw [e1,e2];exact cv _ rfl
 ·have e:b=(s.heap.push { cls:=.type "range",data:=.fields #[.int lo t,.int hi u,.int 1 v] }).objs.size:=by simpa using hb
  subst e;exact I1.fpOk (ba _) (I1.hok.fresh (ba _))
inductive kHZ (R:It->Hp->Prop) (vs:List V) (H1:Hp):Prop
 | mk:∀ (j:Int),(vs=[.int j])->(-(2 ^ 62)<=j)->(j<2 ^ 62)->(R (Itr 0 j.toNat) H1)->kHZ R vs H1
def kQP (ta:TA):TI:=λ σ H R=>ta σ H λ vs H1=>kHZ R vs H1
inductive kHY (R:It->Hp->Prop) (vs:List V) (H1:Hp):Prop
 | mk:∀ (i j:Int),(vs=[.int i,.int j])->((-(2 ^ 62)<=i/\i<2 ^ 62/\-(2 ^ 62)<=j/\j<2 ^ 62))->(R (Itr i (j-i).toNat) H1)->kHY R vs H1
def kQO (ta:TA):TI:=λ σ H R=>ta σ H λ vs H1=>kHY R vs H1
theorem yV {a:fm} {ta:TA} {p pos:Pos} (hg:Gl X "range") (hm:X.mg "range" = none) (ha:PA X [a] ta) (hs:starEach [a] X.env=[(false,eval a X.env)]:=by rfl):PI X tg (.Call (.Name "range" p) [a] [] pos) (kQP ta):=by
 intro pins s σ H R I h;refine Call_ (vV I hg hm boot_range (ma (thn (ha pos pins s σ H _ I h) λ us s1 ⟨vs,H1,I1,r1,q1⟩=>?_) hs rfl));obtain ⟨j,e,q1,q2,q⟩:=q1;subst e
 cases r1 with
 | cons r rr =>
  cases rr
  obtain ⟨t,rfl⟩:=r;exact call_range_1 (sD I1 (by omega) (by omega) q1 q2 (by simpa using q))
theorem mN {a b:fm} {ta:TA} {p pos:Pos} (hg:Gl X "range") (hm:X.mg "range" = none) (ha:PA X [a,b] ta) (hs:starEach [a,b] X.env=[(false,eval a X.env),(false,eval b X.env)]:=by rfl) (hs2:starEach [b] X.env=[(false,eval b X.env)]:=by rfl) :
  PI X tg (.Call (.Name "range" p) [a,b] [] pos) (kQO ta):=by
 intro pins s σ H R I h;refine Call_ (vV I hg hm boot_range (ma (thn (ha pos pins s σ H _ I h) λ us s1 ⟨vs,H1,I1,r1,q1⟩=>?_) (by rw [hs,hs2]) (by rw [hs2];rfl)));obtain ⟨i,j,e,⟨q1,q2,q3,q4⟩,q⟩:=q1;subst e
 cases r1 with
 | cons r rr =>
  cases rr with
  | cons r' rr =>
   cases rr
   obtain ⟨t,rfl⟩:=r;obtain ⟨t',rfl⟩:=r';exact call_range_2 (sD I1 q1 q2 q3 q4 q)
def kPN (wi:TI) (g:TG) (tb:TS):TS:=λ D σ H=>wi σ H λ J H1=>∃ W:Nat->Nat->St->Hp->Prop,(∃ m,W 0 m σ H1)/\∀ i m σ H,W i m σ H ->
 (J.stop i H/\D.nx σ H)\/(J.go i H/\∃ N:St->Hp->Prop,(∀ σ' H',N σ' H'->∃ m',m'<m/\W (i+1) m' σ' H')/\∀ x H',J.yld i H x H'->g x σ H' λ σ2 H2=>tb { D with nx:=N,ct:=N,bk:=D.nx } σ2 H2)
def oP (fp:List ag) (h:eH):List (ag×Obj):=fp.filterMap λ b=>(h.get? b).map λ o=>(b,o)
theorem zF {fp:List ag} {h:eH} {b:ag} {o:Obj} (hb:b∈fp) (e:h.get? b=some o):(b,o)∈oP fp h:=Cu.mpr ⟨b,hb,by rw [e];rfl⟩
theorem kEC {fp:List ag} {h:eH} {p:ag×Obj} (hp:p∈oP fp h):p.1∈fp/\h.get? p.1=some p.2:=by
 obtain ⟨b,hb,e⟩:=Cu.mp hp
 cases q:h.get? b with
 | none=>rw [q] at e;cases e
 | some o =>
  rw [q] at e;have e':(b,o)=p:=eO e;subst e';exact ⟨hb,q⟩
theorem Inv.pinned {pins:List (ag×Obj)} {σ:St} {H:Hp} {s:aj} {fp:List ag} (I:Inv X pins σ H s) (hf:∀ b∈fp,zS X pins H b) (ho:∀ b∈fp,∃ o,s.heap.get? b=some o/\∀ v,o.data≠.cell v):Inv X (pins++oP fp s.heap) σ H s :=
 I.pins_of λ p hp=>(gf.mp hp).elim (λ z=>I.pin p (eg _ z)) λ z=>by
  obtain ⟨hb,e⟩:=kEC z;obtain ⟨f0,f1,f2,_⟩:=hf p.1 hb;obtain ⟨o,e',d⟩:=ho p.1 hb;rw [e] at e';cases e';exact ⟨e,f0,f1,f2,d⟩
theorem Inv.unpinned {pins pl:List (ag×Obj)} {σ:St} {H:Hp} {s:aj} (I:Inv X (pins++pl) σ H s):Inv X pins σ H s:=I.pins_of λ p hp=>I.pin p (eg _ (lh _ hp))
theorem kNI {iter:fm} {body:List fq} {wi:TI} {g:TG} {tb:TS} {pos:Pos} (hp:FZ (model X.prog X.w) X.A X.env X.xe) (hc:X.calm=true) (hi:PI X tg iter wi) (hg:PG X tg g) (hb:PSs X body tb)
  (hs:∀ x,foldedSetIterable iter X.env x=pure x:=by intro _;rfl):PS X (.For tg iter body [] pos) (kPN wi g tb):=by
 intro pins s σ H D I h;refine wpAny_For (thn (hi pins s σ H _ I h) λ v s1 h1=>thn h1 λ itv s2 h2=>?_) hs;obtain ⟨it,fp,tn,J,H2,e,I2,T,st2,f2,W,⟨m0,w0⟩,turn⟩:=h2
 subst e
 have stat:∀ {H':Hp},(∀ b∈fp,H' b=none)->∀ b∈fp,zS X pins H' b:=λ hn b hb=>⟨hn b hb,(f2 b hb).2⟩;refine codeAny_forLoop_any (λ n s'=>∃ i σ' H',Inv X pins σ' H' s'/\tn i s'.heap/\(∀ b∈fp,H' b=none)/\W i n σ' H') ?_ m0 ⟨0,σ,H2,I2,st2,λ b hb=>(f2 b hb).1,w0⟩;rintro n s3 ⟨i,σ3,H3,I3,st3,fr3,w3⟩;rcases turn i n σ3 H3 w3 with ⟨stop,qn⟩ | ⟨go,N,hN,step⟩
 ·refine ou hp (thn (T.done X rfl rfl rfl hc i pins s3 σ3 H3 X.xe I3 (stat fr3) st3 stop) λ r s4 ⟨hr,I4⟩=>?_)
  subst hr;exact wa ⟨σ3,H3,I4,qn⟩
 ·refine ou hp (thn (T.item X rfl rfl rfl hc i pins s3 σ3 H3 X.xe I3 (stat fr3) st3 go) λ r s4 ⟨u,hr,h4⟩=>?_)
  subst hr;refine ou hp (thn h4 λ _ s5 ⟨x,H5,I5,r5,y5,st5,fr5⟩=>?_);have I5':=I5.pinned (stat fr5) (T.obj _ _ st5);refine ou hp (thn (hg _ s5 σ3 H5 x u _ I5' r5 (step x H5 y5)) λ _ s6 ⟨σ6,H6,I6,q6⟩=>?_);refine ou hp (thn (hb _ s6 σ6 H6 _ I6 q6) λ f s7 q7=>?_)
  have again:∀ {σ7:St} {H7:Hp},Inv X (pins++oP fp s5.heap) σ7 H7 s7->N σ7 H7->∃ m,m<n/\∃ i σ' H',Inv X pins σ' H' s7/\tn i s7.heap/\(∀ b∈fp,H' b=none)/\W i m σ' H':=λ {σ7 H7} I7 n7=>by
   obtain ⟨m',hm,w7⟩:=hN σ7 H7 n7;refine ⟨m',hm,i+1,σ7,H7,I7.unpinned,T.keep _ _ _ st5 λ b hb o e=>(I7.pin (b,o) (eg _ (eg _ (zF hb e)))).1,λ b hb=>?_,w7⟩;obtain ⟨o,e,d⟩:=T.obj _ _ st5 b hb;exact (I7.pin (b,o) (eg _ (eg _ (zF hb e)))).2.1
  cases f with
  | next=>obtain ⟨σ7,H7,I7,n7⟩:=q7;exact again I7 n7
  | cont=>obtain ⟨σ7,H7,I7,n7⟩:=q7;exact again I7 n7
  | brk=>obtain ⟨σ7,H7,I7,q7⟩:=q7;exact ⟨σ7,H7,I7.unpinned,q7⟩
  | ret v=>obtain ⟨x7,σ7,H7,I7,r7,q7⟩:=q7;exact ⟨x7,σ7,H7,I7.unpinned,r7,q7⟩
end
theorem gL {K:ai} {a:ag} {xs:List V} {g:TG} {tb:TS} {D:Ends} {σ:St} {H:Hp} (Pv:Nat->St->Hp->Prop) (h0:Pv 0 σ H) (hl:∀ i σ H,i<=xs.length->Pv i σ H->SqL K H a xs)
  (hs:∀ i x σ H,xs[i]?=some x->Pv i σ H->g x σ H λ σ2 H2=>tb { D with nx:=Pv (i+1),ct:=Pv (i+1),bk:=D.nx } σ2 H2) (hd:∀ σ H,Pv xs.length σ H->D.nx σ H) :
  ∃ W:Nat->Nat->St->Hp->Prop,(∃ m,W 0 m σ H)/\∀ i m σ H,W i m σ H ->
   ((Itl K a).stop i H/\D.nx σ H)\/((Itl K a).go i H/\∃ N:St->Hp->Prop,(∀ σ' H',N σ' H'->∃ m',m'<m/\W (i+1) m' σ' H')/\∀ x H',(Itl K a).yld i H x H'->g x σ H' λ σ2 H2=>tb { D with nx:=N,ct:=N,bk:=D.nx } σ2 H2):=by
 refine ⟨λ i m σ H=>m=xs.length-i/\i<=xs.length/\Pv i σ H,⟨xs.length,by simp,iA _,h0⟩,?_⟩;rintro i m σ H ⟨rfl,hi,p⟩;have q:=hl i σ H hi p;by_cases hlt:i<xs.length
 ·refine .inr ⟨⟨xs,xs[i],q,by simp [hlt]⟩,Pv (i+1),λ σ' H' p'=>⟨xs.length-(i+1),by omega,rfl,hlt,p'⟩,λ x H' y=>?_⟩
  obtain ⟨e,y⟩:=y;subst e;exact hs i x σ _ (y xs q) p
 ·have e:i=xs.length:=by omega
  subst e;exact .inl ⟨⟨xs,q,ba _⟩,hd σ H p⟩
theorem xP {lo:Int} {n:Nat} {g:TG} {tb:TS} {D:Ends} {σ:St} {H:Hp} (Pv:Nat->St->Hp->Prop) (h0:Pv 0 σ H)
  (hs:∀ i σ H,i<n->Pv i σ H->g (.int (lo+i)) σ H λ σ2 H2=>tb { D with nx:=Pv (i+1),ct:=Pv (i+1),bk:=D.nx } σ2 H2) (hd:∀ σ H,Pv n σ H->D.nx σ H) :
  ∃ W:Nat->Nat->St->Hp->Prop,(∃ m,W 0 m σ H)/\∀ i m σ H,W i m σ H ->
   ((Itr lo n).stop i H/\D.nx σ H)\/((Itr lo n).go i H/\∃ N:St->Hp->Prop,(∀ σ' H',N σ' H'->∃ m',m'<m/\W (i+1) m' σ' H')/\∀ x H',(Itr lo n).yld i H x H'->g x σ H' λ σ2 H2=>tb { D with nx:=N,ct:=N,bk:=D.nx } σ2 H2):=by
 refine ⟨λ i m σ H=>m=n-i/\i<=n/\Pv i σ H,⟨n,by simp,iA _,h0⟩,?_⟩;rintro i m σ H ⟨rfl,hi,p⟩;by_cases hlt:i<n
 ·refine .inr ⟨hlt,Pv (i+1),λ σ' H' p'=>⟨n-(i+1),by omega,rfl,hlt,p'⟩,λ x H' y=>?_⟩
  obtain ⟨e,y⟩:=y;subst e y;exact hs i σ _ hlt p
 ·have e:i=n:=by omega
  subst e;exact .inl ⟨ba _,hd σ H p⟩
theorem rC {c:TT} {tb:TS} {D:Ends} {σ:St} {H:Hp} (Pv:St->Hp->Prop) (μ:St->Hp->Nat) (h0:Pv σ H)
  (hs:∀ σ H,Pv σ H->c σ H λ b H1=>if b=true then tb { D with nx:=λ σ' H'=>Pv σ' H'/\μ σ' H'<μ σ H,ct:=λ σ' H'=>Pv σ' H'/\μ σ' H'<μ σ H,bk:=D.nx } σ H1 else D.nx σ H1)
  (mono:∀ σ H Q Q',(∀ b H1,Q b H1->Q' b H1)->c σ H Q->c σ H Q'):kFO c tb D σ H:=by
 refine ⟨λ m σ H=>m=μ σ H/\Pv σ H,⟨_,rfl,h0⟩,?_⟩;rintro m σ H ⟨rfl,p⟩;refine mono σ H _ _ (λ b H1 q=>?_) (hs σ H p)
 cases b with
 | true=>exact ⟨_,λ σ' H' ⟨p',l⟩=>⟨_,l,rfl,p'⟩,q⟩
 | false=>exact q
abbrev R2:=V->V->Hp->VK->Prop
def OpR (X:Cx) (f:af->af->Sem af) (r:R2):Prop :=
 ∀ (pins:List (ag×Obj)) (s:aj) (σ:St) (H:Hp) (x y:V) (v u:af) (Q:VK),Inv X pins σ H s->RelV x v->RelV y u->r x y H Q ->
  br (model X.prog X.w) X.A (f v u) (EP X pins σ Q) X.xe s
def UnR (X:Cx) (f:af->Sem af) (r:V->Hp->VK->Prop):Prop :=
 ∀ (pins:List (ag×Obj)) (s:aj) (σ:St) (H:Hp) (x:V) (v:af) (Q:VK),Inv X pins σ H s->RelV x v->r x H Q ->
  br (model X.prog X.w) X.A (f v) (EP X pins σ Q) X.xe s
def xB (X:Cx) (f:af) (r:List V->Hp->VK->Prop):Prop :=
 ∀ (pins:List (ag×Obj)) (s:aj) (σ:St) (H:Hp) (xs:List V) (us:List af) (Q:VK),Inv X pins σ H s->Vals xs us->r xs H Q ->
  br (model X.prog X.w) X.A (call f us) (EP X pins σ Q) X.xe s
def kRU (X:Cx) (r:V->Hp->(Bool->Hp->Prop)->Prop):Prop :=
 ∀ (pins:List (ag×Obj)) (s:aj) (σ:St) (H:Hp) (x:V) (v:af) (Q:Bool->Hp->Prop),Inv X pins σ H s->RelV x v->r x H Q ->
  br (model X.prog X.w) X.A (truthy v) (TP X pins σ Q) X.xe s
def tOp (r:R2) (ta tb:TE):TE:=λ σ H Q=>ta σ H λ x H1=>tb σ H1 λ y H2=>r x y H2 Q
def tUn (r:V->Hp->VK->Prop) (ta:TE):TE:=λ σ H Q=>ta σ H λ x H1=>r x H1 Q
inductive rI (C:Int->Int->Prop) (g:Int->Int->V) (x:V) (y:V) (H:Hp) (Q:VK):Prop
 | mk:∀ i j,(x=.int i)->(y=.int j)->(C i j)->(Q (g i j) H)->rI C g x y H Q
inductive rI0 (g:Int->Int->V) (x:V) (y:V) (H:Hp) (Q:VK):Prop
 | mk:∀ i j,(x=.int i)->(y=.int j)->(Q (g i j) H)->rI0 g x y H Q
inductive rU (g:Int->V) (x:V) (H:Hp) (Q:VK):Prop
 | mk:∀ i,(x=.int i)->(Q (g i) H)->rU g x H Q
section
variable {X:Cx} {a b c:fm} {ta tb tc:TE} {pos:Pos}
theorem kOP (ha:PE X a ta) (hb:PE X b tb) {pins:List (ag×Obj)} {s:aj} {σ:St} {H:Hp} {R:V->V->Hp->Prop} (I:Inv X pins σ H s)
  (h:ta σ H λ x H1=>tb σ H1 λ y H2=>R x y H2) {Q:af->aj->Prop} {f:af->af->Sem af}
  (hf:∀ v u s2 x y H2,Inv X pins σ H2 s2->RelV x v->RelV y u->R x y H2->br (model X.prog X.w) X.A (f v u) Q X.xe s2) :
  br (model X.prog X.w) X.A (eval a X.env) (λ v s₁=>br (model X.prog X.w) X.A (eval b X.env) (λ u s₂=>br (model X.prog X.w) X.A (f v u) Q X.xe s₂) X.xe s₁) X.xe s:=by
 refine thn (ha pins s σ H _ I h) λ v s1 ⟨x,H1,I1,r1,q1⟩=>?_;refine thn (hb pins s1 σ H1 _ I1 q1) λ u s2 ⟨y,H2,I2,r2,q2⟩=>?_;exact hf v u s2 x y H2 I2 r1 r2 q2
theorem kO {op:Operator} {r:R2} (ho:OpR X (binaryOp op) r) (ha:PE X a ta) (hb:PE X b tb):PE X (.BinOp a op b pos) (tOp r ta tb):=by
 intro pins s σ H Q I h;exact wpAny_BinOp (kOP ha hb I h λ v u s2 x y H2 I2 rx ry q=>ho pins s2 σ H2 x y v u Q I2 rx ry q)
theorem sF {op:UnaryOp} {r:V->Hp->VK->Prop} (ho:UnR X (unaryOp op) r) (ha:PE X a ta):PE X (.UnaryOp op a pos) (tUn r ta):=by
 intro pins s σ H Q I h;exact UnaryOp_ (thn (ha pins s σ H _ I h) λ v s1 ⟨x,H1,I1,r1,q1⟩=>ho pins s1 σ H1 x v Q I1 r1 q1)
theorem opI {f:af->af->Sem af} {C:Int->Int->Prop} {g:Int->Int->Int}
  (rule:∀ (i j:Int) (t u:Tok) (s:aj) (Q:af->aj->Prop) (E:af->aj->Prop),C i j->Q (.int (g i j) s.toks) { s with toks:=s.toks+1 }->br (model X.prog X.w) X.A (f (.int i t) (.int j u)) Q E s) :
  OpR X f (rI C λ i j=>.int (g i j)):=by
 intro pins s σ H x y v u Q I rx ry h;obtain ⟨i,j,rfl,rfl,hc,q⟩:=h;obtain ⟨t,rfl⟩:=rx;obtain ⟨t',rfl⟩:=ry;exact rule i j t t' s _ _ hc ⟨.int (g i j),H,I.tok _,⟨_,rfl⟩,q⟩
theorem kQG {f:af->af->Sem af} {g:Int->Int->Int}
  (rule:∀ (i j:Int) (t u:Tok) (s:aj) (Q:af->aj->Prop) (E:af->aj->Prop),Q (.int (g i j) s.toks) { s with toks:=s.toks+1 }->br (model X.prog X.w) X.A (f (.int i t) (.int j u)) Q E s) :
  OpR X f (rI0 λ i j=>.int (g i j)):=by
 intro pins s σ H x y v u Q I rx ry h;obtain ⟨i,j,rfl,rfl,q⟩:=h;obtain ⟨t,rfl⟩:=rx;obtain ⟨t',rfl⟩:=ry;exact rule i j t t' s _ _ ⟨.int (g i j),H,I.tok _,⟨_,rfl⟩,q⟩
theorem kNN {f:af->af->Sem af} {g:Int->Int->Bool}
  (rule:∀ (i j:Int) (t u:Tok) (s:aj) (Q:af->aj->Prop) (E:af->aj->Prop),Q (.bool (g i j)) s->br (model X.prog X.w) X.A (f (.int i t) (.int j u)) Q E s) :
  OpR X f (rI0 λ i j=>.bl (g i j)):=by
 intro pins s σ H x y v u Q I rx ry h;obtain ⟨i,j,rfl,rfl,q⟩:=h;obtain ⟨t,rfl⟩:=rx;obtain ⟨t',rfl⟩:=ry;exact rule i j t t' s _ _ ⟨.bl (g i j),H,I,rfl,q⟩
def kRX (i j:Int):Prop:=0<j/\j<1073741824
def kRW (i j:Int):Prop:=0<=j/\j<=1000000/\i.natAbs<2 ^ 64
def CMul (i j:Int):Prop:=(-(2 ^ 64)<i/\i<2 ^ 64)\/(-(2 ^ 64)<j/\j<2 ^ 64)
theorem CMul.ok {i j:Int} (h:CMul i j):IntMulOk i j:=by
 rcases h with ⟨h1,h2⟩ | ⟨h1,h2⟩
 ·exact .of_left (intBits_le_64 h1 h2)
 ·exact .of_right (intBits_le_64 h1 h2)
theorem jG:OpR X (binaryOp .Add) (rI0 λ i j=>.int (i+j)):=kQG λ _ _ _ _ _ _ _ q=>add_int q
theorem xD:OpR X (binaryOp .Sub) (rI0 λ i j=>.int (i-j)):=kQG λ _ _ _ _ _ _ _ q=>sub_int q
theorem vP:OpR X (binaryOp .Mult) (rI CMul λ i j=>.int (i*j)):=opI λ _ _ _ _ _ _ _ hc q=>mul_int q hc.ok
theorem kCI:OpR X (binaryOp .FloorDiv) (rI kRX λ i j=>.int (i / j)):=opI λ i j _ _ _ _ _ hc q=>by
 have h1:(0:Int)<j:=hc.1;have h2:j<1073741824:=hc.2;exact floordiv_int (by omega) (by rw [AX i (by omega)];exact q) (.inl (PyProof.noPylong_small (by omega)))
theorem vQ:OpR X (binaryOp .Mod) (rI (λ _ j=>0<j) λ i j=>.int (i % j)):=opI λ i j _ _ _ _ _ hc q=>by
 have h1:(0:Int)<j:=hc;exact mod_int' (by omega) (by rw [AY i (by omega)];exact q)
theorem fG:OpR X (binaryOp .Pow) (rI kRW λ i j=>.int (i ^ j.toNat)):=opI λ _ _ _ _ _ _ _ hc q=>pow_int_small hc.1 hc.2.1 hc.2.2 q
theorem unI {f:af->Sem af} {g:Int->Int}
  (rule:∀ (i:Int) (t:Tok) (s:aj) (Q:af->aj->Prop) (E:af->aj->Prop),Q (.int (g i) s.toks) { s with toks:=s.toks+1 }->br (model X.prog X.w) X.A (f (.int i t)) Q E s) :
  UnR X f (rU λ i=>.int (g i)):=by
 intro pins s σ H x v Q I rx h;obtain ⟨i,rfl,q⟩:=h;obtain ⟨t,rfl⟩:=rx;exact rule i t s _ _ ⟨.int (g i),H,I.tok _,⟨_,rfl⟩,q⟩
theorem dA:UnR X (unaryOp .USub) (rU λ i=>.int (-i)):=unI λ _ _ _ _ _ q=>neg_int q
end
def kPT:V->V->Bool
 | .non,.non=>true | .non,.int _=>true | .int _,.non=>true | .non,.bl _=>true | .bl _,.non=>true | .non,.str _=>true | .str _,.non=>true
 | .int _,.int _=>true | .bl _,.bl _=>true | .str _,.str _=>true | .byt _,.byt _=>true
 | .int _,.str _=>true | .str _,.int _=>true | .bl _,.str _=>true | .str _,.bl _=>true
 | _,_=>false
inductive rEq (x:V) (y:V) (H:Hp) (Q:VK):Prop
 | mk:(kPT x y=true)->(Q (.bl (decide (x=y))) H)->rEq x y H Q
inductive rNe (x:V) (y:V) (H:Hp) (Q:VK):Prop
 | mk:(kPT x y=true)->(Q (.bl (!decide (x=y))) H)->rNe x y H Q
theorem kCX {i j:Int}:decide (V.int i=V.int j)=(i == j):=by
 rw [iH];simp
theorem kIR {i j:Bool}:decide (V.bl i=V.bl j)=(i == j):=by
 rw [iH];simp
theorem kCW {i j:Str}:decide (V.str i=V.str j)=(i == j):=by
 rw [iH];simp
theorem kCY {i j:Array UInt8}:decide (V.byt i=V.byt j)=(i.toList == j.toList):=by
 rw [iH];cases i
 cases j
 simp
section
variable {X:Cx} {a b c:fm} {ta tb tc:TE} {pos:Pos}
theorem qG {pins:List (ag×Obj)} {σ:St} {H:Hp} {s:aj} {Q:VK} {k k':Bool} (I:Inv X pins σ H s) (q:Q (.bl k) H) (e:k=k'):EP X pins σ Q (.bool k') s:=by
 subst e;exact ⟨.bl k,H,I,rfl,q⟩
theorem vG:OpR X (compareOp .Eq) rEq:=by
 intro pins s σ H x y v u Q I rx ry h;obtain ⟨hs,q⟩:=h
 cases x with
 | non =>
  cases rx
  cases y with
  | non=>cases ry;exact Et (qG I q (by simp))
  | bl j=>cases ry;exact Eu (qG I q (by simp))
  | int j=>obtain ⟨t',rfl⟩:=ry;exact FH (qG I q (by simp))
  | str j=>obtain ⟨t',rfl⟩:=ry;exact FI (qG I q (by simp))
  | _=>exact absurd (show false=true from hs) cq
 | bl i =>
  cases rx
  cases y with
  | non=>cases ry;exact Ew (qG I q (by simp))
  | bl j=>cases ry;exact eq_bool (qG I q kIR)
  | str j=>obtain ⟨t',rfl⟩:=ry;exact Ey (qG I q (by simp))
  | _=>exact absurd (show false=true from hs) cq
 | int i =>
  obtain ⟨t,rfl⟩:=rx
  cases y with
  | non=>cases ry;exact FJ (qG I q (by simp))
  | int j=>obtain ⟨t',rfl⟩:=ry;exact eq_int (qG I q kCX)
  | str j=>obtain ⟨t',rfl⟩:=ry;exact FK (qG I q (by simp))
  | _=>exact absurd (show false=true from hs) cq
 | str i =>
  obtain ⟨t,rfl⟩:=rx
  cases y with
  | non=>cases ry;exact FL (qG I q (by simp))
  | bl j=>cases ry;exact Ez (qG I q (by simp))
  | int j=>obtain ⟨t',rfl⟩:=ry;exact FM (qG I q (by simp))
  | str j=>obtain ⟨t',rfl⟩:=ry;exact eq_str (qG I q kCW)
  | _=>exact absurd (show false=true from hs) cq
 | byt i =>
  obtain ⟨t,rfl⟩:=rx
  cases y with
  | byt j=>obtain ⟨t',rfl⟩:=ry;exact PySem.W.eq_bytes (qG I q kCY)
  | _=>exact absurd (show false=true from hs) cq
 | _=>cases y<;>exact absurd (show false=true from hs) cq
theorem sI:OpR X (compareOp .NotEq) rNe:=by
 intro pins s σ H x y v u Q I rx ry h;obtain ⟨hs,q⟩:=h
 cases x with
 | non =>
  cases rx
  cases y with
  | non=>cases ry;exact FA (qG I q (by simp))
  | bl j=>cases ry;exact FB (qG I q (by simp))
  | int j=>obtain ⟨t',rfl⟩:=ry;exact FN (qG I q (by simp))
  | str j=>obtain ⟨t',rfl⟩:=ry;exact FP (qG I q (by simp))
  | _=>exact absurd (show false=true from hs) cq
 | bl i =>
  cases rx
  cases y with
  | non=>cases ry;exact FC (qG I q (by simp))
  | bl j=>cases ry;exact ne_bool (qG I q (congrArg not kIR))
  | str j=>obtain ⟨t',rfl⟩:=ry;exact FD (qG I q (by simp))
  | _=>exact absurd (show false=true from hs) cq
 | int i =>
  obtain ⟨t,rfl⟩:=rx
  cases y with
  | non=>cases ry;exact FQ (qG I q (by simp))
  | int j=>obtain ⟨t',rfl⟩:=ry;exact ne_int (qG I q (congrArg not kCX))
  | str j=>obtain ⟨t',rfl⟩:=ry;exact FR (qG I q (by simp))
  | _=>exact absurd (show false=true from hs) cq
 | str i =>
  obtain ⟨t,rfl⟩:=rx
  cases y with
  | non=>cases ry;exact FS (qG I q (by simp))
  | bl j=>cases ry;exact FE (qG I q (by simp))
  | int j=>obtain ⟨t',rfl⟩:=ry;exact FT (qG I q (by simp))
  | str j=>obtain ⟨t',rfl⟩:=ry;exact ne_str (qG I q (congrArg not kCW))
  | _=>exact absurd (show false=true from hs) cq
 | byt i =>
  obtain ⟨t,rfl⟩:=rx
  cases y with
  | byt j=>obtain ⟨t',rfl⟩:=ry;exact PySem.W.ne_bytes (qG I q (congrArg not kCY))
  | _=>exact absurd (show false=true from hs) cq
 | _=>cases y<;>exact absurd (show false=true from hs) cq
theorem wG:OpR X (compareOp .Lt) (rI0 λ i j=>.bl (decide (i<j))):=kNN λ _ _ _ _ _ _ _ q=>lt_int q
theorem uP:OpR X (compareOp .Gt) (rI0 λ i j=>.bl (decide (j<i))):=kNN λ _ _ _ _ _ _ _ q=>gt_int q
theorem kQF:OpR X (compareOp .GtE) (rI0 λ i j=>.bl (decide (j<=i))):=kNN λ _ _ _ _ _ _ _ q=>ge_int q
inductive kCH (x:V) (y:V) (H:Hp) (Q:VK):Prop
 | mk:(y=.non)->(Q (.bl (decide (x=.non))) H)->kCH x y H Q
theorem kNL:OpR X (compareOp .Is) kCH:=by
 intro pins s σ H x y v u Q I rx ry h;obtain ⟨rfl,q⟩:=h;cases ry
 refine is_none_gen (qG I q ?_)
 cases x<;>first
  | (cases rx;rfl)
  | (obtain ⟨t,rfl⟩:=rx;rfl)
inductive sH (x:V) (y:V) (H:Hp) (Q:VK):Prop
 | mk:(y=.non)->(Q (.bl (!decide (x=.non))) H)->sH x y H Q
theorem cT:OpR X (compareOp .IsNot) sH:=by
 intro pins s σ H x y v u Q I rx ry h;obtain ⟨rfl,q⟩:=h;cases ry
 refine isnot_none_gen (qG I q ?_)
 cases x<;>first
  | (cases rx;rfl)
  | (obtain ⟨t,rfl⟩:=rx;rfl)
theorem kX (b:fm) {op:CmpOp} (h:op≠.In:=by decide) (h2:op≠.NotIn:=by decide):behindInMarks op b=false:=by
 have e1:(op == CmpOp.In)=false:=by cases op<;>first | rfl | exact absurd rfl h
 have e2:(op == CmpOp.NotIn)=false:=by cases op<;>first | rfl | exact absurd rfl h2
 cases b<;>simp [behindInMarks,e1,e2]
theorem jR {op:CmpOp} {r:R2} (ho:OpR X (compareOp op) r) (ha:PE X a ta) (hb:PE X b tb) (hm:behindInMarks op b=false):PE X (.Compare a [op] [b] pos) (tOp r ta tb):=by
 intro pins s σ H Q I h;exact wpAny_Compare1 (kOP ha hb I h λ v u s2 x y H2 I2 rx ry q=>ho pins s2 σ H2 x y v u Q I2 rx ry q) hm
inductive kFP (Q:Bool->Hp->Prop) (x:V) (H':Hp):Prop
 | mk:∀ k,(x=.bl k)->(Q k H')->kFP Q x H'
def kPH (t:TE):TT:=λ σ H Q=>t σ H λ x H'=>kFP Q x H'
theorem kU {op:CmpOp} {r:R2} (ho:OpR X (compareOp op) r) (ha:PE X a ta) (hb:PE X b tb) (hm:behindInMarks op b=false):PT X (.Compare a [op] [b] pos) (kPH (tOp r ta tb)):=by
 intro pins s σ H Q I h
 refine wpAny_isTrue_Compare1 (thn (ha pins s σ H _ I h) λ v s1 ⟨x,H1,I1,r1,q1⟩=>thn (hb pins s1 σ H1 _ I1 q1) λ u s2 ⟨y,H2,I2,r2,q2⟩ =>
  thn (ho pins s2 σ H2 x y v u _ I2 r1 r2 q2) λ c s3 ⟨z,H3,I3,r3,k,e,q3⟩=>?_) hm
 subst e;cases r3
 exact kj ⟨H3,I3,q3⟩
def kRD (K:ai) (x:V) (H:Hp) (k:Bool):Prop :=
 match x with
 | .non=>k=false
 | .bl b=>k=b
 | .int i=>k=(i != 0)
 | .str y=>y.length<=sizeLine/\k=((y.length:Int) != 0)
 | .byt y=>y.size<=sizeLine/\k=((y.size:Int) != 0)
 | .ref p=>(∃ xs,SqL K H p xs/\k = !xs.isEmpty)\/(∃ xs,SqT K H p xs/\k = !xs.isEmpty)\/∃ kvs,H p=some (.dK kvs)/\k = !kvs.isEmpty
 | _=>False
theorem kAS {κ:Type} {kvs:List (κ×V)} {vs:List (κ×af)} (r:KV kvs vs):(!vs.isEmpty) = !kvs.isEmpty:=by
 cases r<;>rfl
theorem gI {xs:List V} {its:List af} (r:Vals xs its):(!its.toArray.isEmpty) = !xs.isEmpty:=by
 cases r<;>simp
theorem bB:(sizeLine:Nat)<2 ^ 63:=by rw [mj];decide
theorem kMT:kRU X (λ x H Q=>∃ k,kRD X.K x H k/\Q k H):=by
 intro pins s σ H x v Q I rx h;obtain ⟨k,e,q⟩:=h;have hl:=bB;have hs:sizeLine=16777216:=mj
 cases x with
 | non =>
  cases rx
  have e':k=false:=e;subst e';exact truthy_none ⟨H,I,q⟩
 | bl b =>
  cases rx
  have e':k=b:=e;subst e';exact kj ⟨H,I,q⟩
 | int i =>
  obtain ⟨t,rfl⟩:=rx;have e':k=(i != 0):=e;subst e';exact PySem.P.truthy_int ⟨H,I,q⟩
 | str y =>
  obtain ⟨t,rfl⟩:=rx;obtain ⟨hy,e'⟩ : y.length<=sizeLine/\k=((y.length:Int) != 0):=e;subst e';exact PySem.P.truthy_str (by omega) ⟨H,I.tok _,q⟩
 | byt y =>
  obtain ⟨t,rfl⟩:=rx;obtain ⟨hy,e'⟩ : y.size<=sizeLine/\k=((y.size:Int) != 0):=e;subst e';exact PySem.W.truthy_bytes (by omega) ⟨H,I.tok _,q⟩
 | ref p =>
  cases rx
  have e':(∃ xs,SqL X.K H p xs/\k = !xs.isEmpty)\/(∃ xs,SqT X.K H p xs/\k = !xs.isEmpty)\/∃ kvs,H p=some (.dK kvs)/\k = !kvs.isEmpty:=e;rcases e' with ⟨xs,hx,e'⟩ | ⟨xs,hx,e'⟩ | ⟨kvs,hx,e'⟩
  ·subst e'
   obtain ⟨its,r,pl,hz⟩:=I.list hx;have hlen:=r.length;exact wpAny_truthy_list pl.isList (by simp only [dq];omega) ⟨H,I.tok _,by rw [gI r];exact q⟩
  ·subst e'
   obtain ⟨its,r,pl,hz⟩:=I.tuple hx;have hlen:=r.length;exact truthy_tuple pl (by simp only [dq];omega) ⟨H,I.tok _,by rw [gI r];exact q⟩
  ·subst e'
   obtain ⟨hz,hS,vs,r,m⟩ : kvs.length<=sizeLine/\(p == sysModules)=false/\∃ vs,KV kvs vs/\s.heap.DictOf (qL X.prog X.w) p vs:=I.hok p _ hx;have hlen:kvs.length=vs.length:=Cj r;exact wpAny_truthy_dict hS m (by omega) ⟨H,I.tok _,by rw [kAS r];exact q⟩
 | _=>exact (show False from e).elim
theorem kGY (ha:PE X a ta) (he:∀ zK,isTrue a X.env zK=(do let v <-zK;standAt a.pos;holding [v] (truthy v))) :
  PT X a (λ σ H Q=>ta σ H λ x H'=>∃ k,kRD X.K x H' k/\Q k H'):=by
 intro pins s σ H Q I h;exact isTrue_plain (thn (ha pins s σ H _ I h) λ v s1 ⟨x,H1,I1,r1,q1⟩=>kMT pins s1 σ H1 x v Q I1 r1 q1) (he _)
theorem zL {x:V} {us:List af} (r:Vals [x] us):∃ u,us=[u]/\RelV x u:=by
 cases r with
 | cons r1 r2=>cases r2;exact ⟨_,rfl,r1⟩
theorem rE {x y:V} {us:List af} (r:Vals [x,y] us):∃ u w',us=[u,w']/\RelV x u/\RelV y w':=by
 cases r with
 | cons r1 r2 =>
  cases r2 with
  | cons r3 r4=>cases r4;exact ⟨_,_,rfl,r1,r3⟩
inductive nL (xs:List V) (H:Hp) (Q:VK):Prop
 | mk:∀ i,(xs=[.int i])->(Q (.int (if i<0 then -i else i)) H)->nL xs H Q
theorem wO:xB X (.builtin "abs") nL:=by
 intro pins s σ H xs us Q I r h;obtain ⟨i,rfl,q⟩:=h;obtain ⟨u,rfl,t,rfl⟩:=zL r;exact call_abs_int λ u tk=>⟨.int (if i<0 then -i else i),H,I.tok _,⟨_,rfl⟩,q⟩
inductive gZ (xs:List V) (H:Hp) (Q:VK):Prop
 | mk:∀ i j,(xs=[.int i,.int j])->(Q (.int (if j>i then j else i)) H)->gZ xs H Q
theorem nJ (hc:X.calm=true):xB X (.builtin "max") gZ:=by
 intro pins s σ H xs us Q I r h;obtain ⟨i,j,rfl,q⟩:=h;obtain ⟨u,w',rfl,⟨t,rfl⟩,⟨t',rfl⟩⟩:=rE r;refine max_two_ints (I.ok.hd hc) λ h' tk k=>⟨_,H,I.kept k,?_,q⟩;by_cases hj:j>i
 ·rw [if_pos hj,if_pos hj];exact ⟨_,rfl⟩
 ·rw [if_neg hj,if_neg hj];exact ⟨_,rfl⟩
inductive gY (xs:List V) (H:Hp) (Q:VK):Prop
 | mk:∀ i j,(xs=[.int i,.int j])->(Q (.int (if j<i then j else i)) H)->gY xs H Q
theorem kFA (hc:X.calm=true):xB X (.builtin "min") gY:=by
 intro pins s σ H xs us Q I r h;obtain ⟨i,j,rfl,q⟩:=h;obtain ⟨u,w',rfl,⟨t,rfl⟩,⟨t',rfl⟩⟩:=rE r;refine min_two_ints (I.ok.hd hc) λ h' tk k=>⟨_,H,I.kept k,?_,q⟩;by_cases hj:j<i
 ·rw [if_pos hj,if_pos hj];exact ⟨_,rfl⟩
 ·rw [if_neg hj,if_neg hj];exact ⟨_,rfl⟩
theorem wX:xB X (.type "int") (λ xs H Q=>(∃ i,xs=[.int i]/\Q (.int i) H)\/∃ k,xs=[.bl k]/\Q (.int (if k then 1 else 0)) H):=by
 intro pins s σ H xs us Q I r h;rcases h with ⟨i,rfl,q⟩ | ⟨k,rfl,q⟩
 ·obtain ⟨u,rfl,t,rfl⟩:=zL r
  exact call_int_int ⟨.int i,H,I,⟨_,rfl⟩,q⟩
 ·obtain ⟨u,rfl,r1⟩:=zL r
  cases r1
  exact call_int_bool ⟨.int (if k then 1 else 0),H,I.tok _,⟨_,rfl⟩,q⟩
end
structure ObjM (h:eH) (x dx C:ag) (mA:Str->Option af):Prop where
 obj:h.get? x=some (Bq C dx)
 ns:h.Ns1 dx mA
 ne:dx≠x
theorem mT {h:eH} {dx:ag} {mA:Str->Option af} (n:h.Ns1 dx mA):∃ od,h.get? dx=some od/\∀ name,CG name od=some (mA name):=by
 obtain ⟨o,es,ep,ho,hd,hk,_,hm⟩:=n;refine ⟨o,ho,λ name=>?_⟩;have e:=hm name;unfold nsFind findBy at e;rw [<-Array.find?_toList] at e;unfold CG;rw [hd];dsimp only
 split
 ·rename_i y q
  rw [q] at e;exact congrArg some e
 ·rename_i q
  rw [q] at e
  have a:es.toList.any (·.refKey)=false:=by
   rw [List.any_eq_false];intro y hy;obtain ⟨z,t,hkey⟩:=hk y (yz.mp hy);simp [DictEntry.refKey,hkey]
  have a':¬ es.toList.any (·.refKey)=true:=by rw [a];exact cq
  rw [if_neg a'];exact congrArg some e
theorem ObjM.look {h:eH} {x dx C:ag} {mA:Str->Option af} (I:ObjM h x dx C mA):∃ od,Eb h x (Bq C dx) C (some od)/\∀ name,CG name od=some (mA name) :=
 let ⟨od,ho,hl⟩:=mT I.ns
 ⟨od,⟨I.obj,rfl,rfl,ho⟩,hl⟩
section
variable {prog:cw} {w:eK} {A:dj} {E:af->aj->Prop} {s:aj} {K:ai} {x dx C f:ag} {mA:Str->Option af} {name:Str} {v:af}
end
theorem RelO.some_of {v:V} {o:Option af} (r:RelO (some v) o):∃ u,o=some u/\RelV v u:=by
 cases o with
 | none=>exact (show False from r).elim
 | some u=>exact ⟨u,rfl,r⟩
theorem kEP {v:V} {u:af} (r:RelV v u):PySem.W.handedIn u=true:=by
 cases v with
 | non=>cases (show u=iK from r);rfl
 | bl b=>cases (show u=mz b from r);rfl
 | int i=>obtain ⟨t,e⟩:=(show ∃ t,u=mq i t from r);cases e;rfl
 | str x=>obtain ⟨t,e⟩:=(show ∃ t,u=CW x t from r);cases e;rfl
 | byt b=>obtain ⟨t,e⟩:=(show ∃ t,u=Ft b t from r);cases e;rfl
 | flt b=>obtain ⟨t,e⟩:=(show ∃ t,u=EH b t from r);cases e;rfl
 | ref a=>cases (show u=eD a from r);rfl
 | ty n=>cases (show u=yh n from r);rfl
section
variable {P:cw} {w:eK} {H H':Hp} {h h':eH} {a C dx:ag} {fs fs':List (Str×V)}
theorem kKP (hok:HOk P w H h) (e:H a=some (.ins C dx fs)):∃ mA,ObjM h a dx C mA/\(∀ f,RelO (fs.lookup f) (mA f))/\Ff mA (fs.map (·.1))/\fs.length<=1000/\H dx=some (.own a):=by
 obtain ⟨d,z,ne,ob,mA,n,r,q⟩:=(show ObjOk P w H h a (.ins C dx fs) from hok a _ e);exact ⟨mA,⟨ob,n,ne⟩,r,q,z,d⟩
end
structure Cls (K:ai) (C:ag):Prop where
 pg:Dm K C Str.empty=true
 hd:Aw K C=true
 po:PySem.W.plainOver K C=true
 sa:eV K (.ref C) "__setattr__" = some (some (.builtin "object.__setattr__"))
theorem Cls.get {K:ai} {C:ag} (c:Cls K C) (f:Str):Dm K C f=true:=c.pg
section
variable {X:Cx} {pins:List (ag×Obj)} {σ:St} {H:Hp} {s:aj} {a C dx:ag} {fs:List (Str×V)} {f:Str} {v:V} {A:dj} {E:af->aj->Prop}
theorem kKZ {prog:cw} {w:eK} {env:Env} {e:fm} {f:Str} {pos:Pos} {s:aj} {Q:af->aj->Prop} (hb:attributeBase e f env (eval e env)=eval e env)
  (h:br (model prog w) A (eval e env) (λ o s₁=>br (model prog w) A (getAttr o f true) Q E s₁) E s):br (model prog w) A (eval (.Attribute e f pos) env) Q E s :=
 Attribute_any_ h (by rw [arm_eval_Attribute,hb])
end
section
variable {X:Cx} {pins:List (ag×Obj)} {σ:St} {H:Hp} {s:aj} {A:dj} {E:af->aj->Prop} {Q:af->aj->Prop} {c:af} {b:Bool}
inductive bC (K:ai) (H:Hp):V->af->Prop where
 | non:bC K H .non (.type "NoneType")
 | bl (x:Bool):bC K H (.bl x) (.type "bool")
 | int (i:Int):bC K H (.int i) (.type "int")
 | str (x:Str):bC K H (.str x) (.type "str")
 | flt (x:UInt64):bC K H (.flt x) (.type "float")
 | lst {a:ag} {xs:List V} (e:H a=some (.lst xs)):bC K H (.ref a) (.type "list")
 | frz {a:ag} {o:Obj} {xs:List V} (e:H a=some (.frz o (.lst xs))):bC K H (.ref a) (.type "list")
 | tup {a:ag} {xs:List V} (e:H a=some (.tup xs)):bC K H (.ref a) (.type "tuple")
 | dK {a:ag} {kvs:List (Key×V)} (e:H a=some (.dK kvs)):bC K H (.ref a) (.type "dict")
 | dT {a:ag} {kvs:List (List Key×V)} (e:H a=some (.dT kvs)):bC K H (.ref a) (.type "dict")
 | ins {a C dx:ag} {fs:List (Str×V)} (e:H a=some (.ins C dx fs)) (cl:Cls K C) (ha:eV K (.ref C) "__class__" = some (some (.builtin "object.__class__")))
   (hn:kl K (.builtin "object.__class__") "__get__" = some (some (.builtin "getset_descriptor.__get__"))) (htk:Br K (.builtin "object.__class__")=some true)
   (hm:ip K C (.type "object")=some true):bC K H (.ref a) (.ref C)
theorem kEN {x:V} {u t:af} (I:Inv X pins σ H s) (rx:RelV x u) (ty:bC X.K H x t) (e:ir X.K t c=some b) (h:∀ tk,Q (.bool b) { s with toks:=tk }) :
  br (model X.prog X.w) A (call (.builtin "isinstance") [u,c]) Q E s:=by
 cases ty with
 | non=>cases (show u=iK from rx);exact iI PySem.W.kitx_none I.kIn qh e (λ z=>nomatch z) h
 | bl y=>cases (show u=mz y from rx);exact iI PySem.W.kitx_bool I.kIn qh e (λ z=>nomatch z) h
 | int i=>obtain ⟨t,q⟩:=(show ∃ t,u=mq i t from rx);cases q;exact iI PySem.W.kitx_int I.kIn qh e (λ z=>nomatch z) h
 | str y=>obtain ⟨t,q⟩:=(show ∃ t,u=CW y t from rx);cases q;exact iI PySem.W.kitx_str I.kIn qh e (λ z=>nomatch z) h
 | flt y=>obtain ⟨t,q⟩:=(show ∃ t,u=EH y t from rx);cases q;exact iI PySem.W.kitx_float I.kIn qh e (λ z=>nomatch z) h
 | @lst a xs ea =>
  cases (show u=eD a from rx)
  obtain ⟨_,_,n,_,h1⟩:=(show ObjOk X.prog X.w H s.heap a (.lst xs) from I.hok a _ ea);exact iI DI I.kIn ⟨_,h1,rfl⟩ e (λ z=>nomatch z) h
 | @frz a ob xs ea =>
  cases (show u=eD a from rx)
  obtain ⟨_,_,_,n,_,h1⟩:=(show ObjOk X.prog X.w H s.heap a (.frz ob (.lst xs)) from I.hok a _ ea);exact iI DI I.kIn ⟨_,h1,rfl⟩ e (λ z=>nomatch z) h
 | @tup a xs ea =>
  cases (show u=eD a from rx)
  obtain ⟨_,_,_,p⟩:=(show ObjOk X.prog X.w H s.heap a (.tup xs) from I.hok a _ ea);obtain ⟨o,h1,h2,_⟩:=p;exact iI PySem.W.kitx_tuple I.kIn ⟨o,h1,h2⟩ e (λ z=>nomatch z) h
 | @dK a kvs ea =>
  cases (show u=eD a from rx)
  obtain ⟨_,_,vs,_,p⟩:=(show ObjOk X.prog X.w H s.heap a (.dK kvs) from I.hok a _ ea);obtain ⟨o,es,ep,h1,h2,_⟩:=p;exact iI DJ I.kIn ⟨o,h1,h2.1⟩ e (λ z=>nomatch z) h
 | @dT a kvs ea =>
  cases (show u=eD a from rx)
  obtain ⟨_,_,xs,_,o,es,ep,h1,h2,_⟩:=(show ObjOk X.prog X.w H s.heap a (.dT kvs) from I.hok a _ ea);exact iI DJ I.kIn ⟨o,h1,h2.1⟩ e (λ z=>nomatch z) h
 | @ins a C dx fs ea cl ha hn htk hm =>
  cases (show u=eD a from rx)
  obtain ⟨mA,O,_⟩:=kKP I.hok ea;obtain ⟨od,J,_⟩:=O.look;exact iI (PySem.W.kitx_own (cl.get _) cl.hd ha hn htk hm) I.kIn J e (λ z=>nomatch z) h
end
structure Room (k:Nat) (A:dj):Prop where
 hd:A.handled=none
 dp:A.depth+3*k+5<recursionLimit
 un:A.units+16*k+200<cLine
 gd:A.guards=some []
theorem Room.mono {j k:Nat} {A:dj} (r:Room k A) (h:j<=k):Room j A:=⟨r.hd,by have:=r.dp;omega,by have:=r.un;omega,r.gd⟩
theorem Room.deeper {k:Nat} {A:dj} (r:Room (k+1) A) (env:Env):Room k (A.deeper env) :=
 ⟨r.hd,by have:=r.dp;show A.depth+1+3*k+5<_;omega,by have:=r.un;show A.units+3+16*k+200<_;omega,r.gd⟩
theorem kAQ {A:dj} {C:ag} {us:List af} {kw:List (Str×af)}:(A.under (.builtin "type.__call__" ⟨.ref C::us,kw⟩)).depth=A.depth+1:=by
 first | rfl | simp [Be,Code.weight,Code.isCreation,Fh,Code.isCaller,Fu,DK,guardIds]
theorem kAP {A:dj} {C:ag} {us:List af} {kw:List (Str×af)}:(A.under (.builtin "type.__call__" ⟨.ref C::us,kw⟩)).units=A.units+1:=by
 first | rfl | simp [Be,Code.cUnits,Fu,DK]
theorem sS {A:dj} {C:ag} {us:List af} {kw:List (Str×af)}:(A.under (.builtin "type.__call__" ⟨.ref C::us,kw⟩)).guards=A.guards:=by
 first | rfl | simp [Be,Code.guards,Fh,guardIds,pushGuards]
theorem Room.make {k:Nat} {A:dj} (r:Room (k+1) A) (C:ag) (us:List af) (kw:List (Str×af)):Room k (A.under (.builtin "type.__call__" ⟨.ref C::us,kw⟩)) :=
 ⟨r.hd,by have:=r.dp;rw [kAQ];omega,by have:=r.un;rw [kAP];omega,(by rw [sS];exact r.gd)⟩
theorem Room.depth {k:Nat} {A:dj} (r:Room k A):A.depth<recursionLimit:=by have:=r.dp;omega
theorem Room.units {k:Nat} {A:dj} (r:Room k A):A.units+64<cLine:=by have:=r.un;omega
def kDQ:TA:=λ _ H Q=>Q [] H
def vC (ta:TE) (tr:TA):TA:=λ σ H Q=>ta σ H λ x H1=>tr σ H1 λ xs H2=>Q (x::xs) H2
section
variable {X:Cx} {e:fm} {es:List fm} {te:TE} {t:TA} {pos:Pos}
theorem kZ:PA X [] kDQ:=λ _ _ _ _ H Q I h=>Calls.spliced_nil ⟨[],H,I,.nil,h⟩
theorem kH (ha:PE X e te) (hr:PA X es t) (hs:starEach (e::es) X.env=(false,eval e X.env)::starEach es X.env:=by rfl):PA X (e::es) (vC te t):=by
 intro pos pins s σ H Q I h;rw [hs];show br _ _ (spliced ((false,eval e X.env)::backTo pos (starEach es X.env))) _ _ s;refine Calls.spliced_cons (thn (ha pins s σ H _ I h) λ u s1 ⟨x,H1,I1,r1,q1⟩=>?_);exact thn (hr pos pins s1 σ H1 _ I1 q1) λ us s2 ⟨xs,H2,I2,r2,q2⟩=>⟨x::xs,H2,I2,.cons r1 r2,q2⟩
inductive kLG (Q:VK) (xs:List V) (H1:Hp):Prop
 | mk:(xs.length<=sizeLine)->(∀ p,H1 p=none->Q (.ref p) (upd H1 p (.tup xs)))->kLG Q xs H1
def kPG (t:TA):TE:=λ σ H Q=>t σ H λ xs H1=>kLG Q xs H1
inductive kLI (Q:VK) (xs:List V) (H1:Hp):Prop
 | mk:(xs.length<=sizeLine)->(∀ p,H1 p=none->Q (.ref p) (upd H1 p (.lst xs)))->kLI Q xs H1
def kRI (t:TA):TE:=λ σ H Q=>t σ H λ xs H1=>kLI Q xs H1
theorem kY {x1} (h:PA X es t):PE X (.Tuple es x1 pos) (kPG t):=by
 intro pins s σ H Q I hq;refine wpAny_Tuple_spliced (thn (h pos pins s σ H _ I hq) λ us s1 ⟨xs,H1,I1,r,z,q⟩=>⟨by rw [<-r.length];exact z,?_⟩);have hf:H1 s1.heap.objs.size=none:=I1.hok.fresh (ba _);refine ⟨.ref s1.heap.objs.size,upd H1 s1.heap.objs.size (.tup xs),I1.laid (t':=s1.toks) (λ b u e=>ak _ e) (ba _) ?_,rfl,q _ hf⟩;exact ⟨z,us,r,⟨_,cv _ rfl,rfl,_,rfl,rfl⟩⟩
theorem jF (h:PA X es t):PE X (.List es pos) (kRI t):=by
 intro pins s σ H Q I hq;refine wpAny_List_spliced (thn (h pos pins s σ H _ I hq) λ us s1 ⟨xs,H1,I1,r,z,q⟩=>⟨by rw [<-r.length];exact z,?_⟩);have hf:H1 s1.heap.objs.size=none:=I1.hok.fresh (ba _);refine ⟨.ref s1.heap.objs.size,upd H1 s1.heap.objs.size (.lst xs),I1.laid (t':=s1.toks) (λ b u e=>ak _ e) (ba _) ?_,rfl,q _ hf⟩;exact ⟨z,us,0,r,cv _ rfl⟩
end
abbrev Sp:=List V->Hp->VK->XK->Prop
abbrev CXT:=List Env->Hp->aj->XK->af->aj->Prop
structure Env0 (P:cw) (w:eK) (K:ai) (mg:Str->Option af) (base:eH) (A:dj) (outer:List Env) (s:aj) (H:Hp):Prop where
 frames:A.frames=some outer
 mod:Mod K mg base
 bs:∀ b o,base.get? b=some o->s.heap.get? b=some o/\H b=none
 bsz:base.objs.size<=s.heap.objs.size
 funs:s.heap.FunFrames base outer
 frf:∀ b∈frs outer,H b=none
 hok:HOk P w H s.heap
 bare:AH s.gens
def CE (outer:List Env) (P:cw) (w:eK) (H:Hp) (s:aj) (Q:VK) (u:af) (s':aj):Prop :=
 ∃ v H',s'.os=s.os/\AH s'.gens/\Un (frs outer) [] H H' s.heap s'.heap/\HOk P w H' s'.heap/\RelV v u/\Q v H'
def CR (CX:CXT) (outer:List Env) (P:cw) (w:eK) (H:Hp) (s:aj) (Q:VK) (E:XK) (r:Do) (s':aj):Prop :=
 match r with
 | .ok (.ret u)=>CE outer P w H s Q u s'
 | .ok _=>False
 | .error e=>CX outer H s E e s'
structure FnOk (P:cw) (w:eK) (K:ai) (mg:Str->Option af) (base:eH) (CX:CXT) (k:Nat) (f:ag) (fd:fj) (ps:List Str) (sp:Sp):Prop where
 len:∀ vs H Q E,sp vs H Q E->vs.length=ps.length
 run:∀ (A:dj) (outer:List Env) (s:aj) (H:Hp) (args:Args) (us:List af) (vs:List V) (Q:VK) (E:XK),Room k A->Env0 P w K mg base A outer s H->CY s fd args (ps.zip us)->Vals vs us->sp vs H Q E ->
  codeAny (model P w) A (.call (.ref f) args) (CR CX outer P w H s Q E) s
theorem Env0.make {P:cw} {w:eK} {K:ai} {mg:Str->Option af} {base:eH} {A:dj} {outer:List Env} {s:aj} {H:Hp} (e:Env0 P w K mg base A outer s H) (C:ag) (us:List af) (kw:List (Str×af)) :
  Env0 P w K mg base (A.under (.builtin "type.__call__" ⟨.ref C::us,kw⟩)) outer s H:=⟨by first | exact e.frames | (simpa [Be,Code.envs,DK,pushEnvs] using e.frames),e.mod,e.bs,e.bsz,e.funs,e.frf,e.hok,e.bare⟩
section
variable {X:Cx} {pins:List (ag×Obj)} {σ:St} {H:Hp} {s s':aj}
theorem Inv.env0 (I:Inv X pins σ H s):Env0 X.prog X.w X.K X.mg X.base X.A X.stack s H :=
 ⟨I.ok.frames,I.ok.mod,I.bs,gk I.ok.bsz I.sz,I.stack,I.stkFree,I.hok,I.bare⟩
theorem Inv.after {Q:VK} {u:af} (I:Inv X pins σ H s) (h:CE X.stack X.prog X.w H s Q u s'):EP X pins σ Q u s':=by
 obtain ⟨v,H',os,bare,un,hok,r,q⟩:=h;obtain ⟨hh,g,d,t,os'⟩:=s';obtain rfl:os'=s.os:=os;exact ⟨v,H',I.call (h':=hh) (g':=g) (d':=d) (t':=t) (ch:=[]) un hok bare (λ b z=>absurd z (by simp)),r,q⟩
end
def dD (sp:Sp) (dvs:List V) (E:XK) (t:TA):TE:=λ σ H Q=>t σ H λ vs H1=>sp (vs++dvs) H1 Q E
def Binds (K:ai) (fd:fj) (ps:List Str) (ds:List af):Prop :=
 ∀ (s:aj) (us:List af),K.In s.heap->(us++ds).length=ps.length->CY s fd ⟨us,[]⟩ (ps.zip (us++ds))
theorem Binds.all {K:ai} {fd:fj} {ps:List Str} (h:∀ us:List af,us.length=ps.length->bindArgs fd ⟨us,[]⟩=pure (ps.zip us)):Binds K fd ps []:=λ s us _ hl=>by
 rw [jq] at hl ⊢;exact .of_eq (h us hl)
def bD (CX:CXT) (X:Cx) (E:XK):Prop:=∀ (pins:List (ag×Obj)) (σ:St) (H:Hp) (s:aj) (e:af) (s':aj),Inv X pins σ H s->CX X.stack H s E e s'->X.xe e s'
section
variable {X:Cx} {CX:CXT} {k:Nat} {f C:ag} {fd:fj} {ps:List Str} {sp:Sp} {dvs:List V} {ds:List af} {E:XK} {x m:Str} {p pos apos:Pos} {e o:fm} {es:List fm} {ta:TE} {t:TA}
theorem kGQ {pins:List (ag×Obj)} {σ:St} {H:Hp} {s:aj} {Q:VK} {us:List af} {vs:List V} (F:FnOk X.prog X.w X.K X.mg X.base CX k f fd ps sp) (hr:Room k X.A) (hb:Binds X.K fd ps ds) (hd:Vals dvs ds) (hx:bD CX X E)
  (I:Inv X pins σ H s) (r:Vals vs us) (h:sp (vs++dvs) H Q E):br (model X.prog X.w) X.A (call (.ref f) us) (EP X pins σ Q) X.xe s:=by
 have r2:Vals (vs++dvs) (us++ds):=r.append hd;have hl:(us++ds).length=ps.length:=by rw [<-r2.length];exact F.len _ _ _ _ h
 refine yj (AJ (F.run X.A X.stack s H ⟨us,[]⟩ (us++ds) (vs++dvs) Q E hr I.env0 (hb s us I.kIn hl) r2 h) λ r s' hq=>?_)
 cases r with
 | error e=>exact hx pins σ H s e s' I hq
 | ok fl =>
  cases fl with
  | ret u=>exact I.after hq
  | next=>exact iL hq
  | brk=>exact iL hq
  | cont=>exact iL hq
theorem oQ (F:FnOk X.prog X.w X.K X.mg X.base CX k f fd ps sp) (hr:Room k X.A) (hg:Gl X x) (hm:X.mg x=some (.ref f)) (hk:iD X.K (.ref f)=true) (hb:Binds X.K fd ps ds) (hd:Vals dvs ds) (hx:bD CX X E)
  (ha:PA X (e::es) t) (hdb:(x == ("__debug__" : Str))=false:=by decide) (he:starEach (e::es) X.env=(false,eval e X.env)::starEach es X.env:=by rfl) (hpl:(backTo pos (starEach es X.env)).any (·.1)=false:=by rfl) :
  PE X (.Call (.Name x p) (e::es) [] pos) (dD sp dvs E t):=by
 intro pins s σ H Q I h;refine so (wV I hg hm ?_ hdb);refine wj (h₀:=X.base) I.ok.mod.kin hk (thn (ha pos pins s σ H _ I h) λ us s1 ⟨vs,H1,I1,r,q⟩=>⟨I1.kIn,?_⟩) he hpl;exact kGQ F hr hb hd hx I1 r q
end
structure FnScope (N P:List Str) (sc:qw):Prop where
 kind:sc.kind=.function
 co:sc.isCoroutine=false
 gen:sc.isGenerator=false
 nd:N.Nodup
 pre:N.take P.length=P
 par:∀ x∈P,sc.names.lookup x=some .local\/sc.names.lookup x=some .cell
 nofree:∀ y∈sc.names,y.2≠.free
theorem nO {kindOf:Str->Option ng} {x:Str}:∀ {binds:List (Str×af)} {m:Str->Option af},(∀ v,(x,v)∉binds)->bindL kindOf binds m x=m x
 | [],_,_=>rfl
 | (n,v)::r,m,h=>by
  unfold bindL;rw [nO λ w hw=>h w (eY _ hw)]
  split
  ·have:x≠n:=by rintro rfl;exact h v fe
   simp [this]
  ·rfl
theorem nQ {kindOf:Str->Option ng} {x:Str}:∀ {binds:List (Str×af)} {m:Str->Option af},(∀ v,(x,v)∉binds)->bindC kindOf binds m x=m x
 | [],_,_=>rfl
 | (n,v)::r,m,h=>by
  unfold bindC;rw [nQ λ w hw=>h w (eY _ hw)]
  split
  ·rfl
  ·have:x≠n:=by rintro rfl;exact h v fe
   simp [this]
theorem nP {kindOf:Str->Option ng} {x:Str} {v:af}:∀ {P:List Str} {vs:List af} {i:Nat} {m:Str->Option af},P.Nodup->P[i]?=some x->vs[i]?=some v->kindOf x=some .local ->
  bindL kindOf (P.zip vs) m x=some v
 | [],_,_,_,_,h,_,_=>by simp at h
 | _::_,[],_,_,_,_,h,_=>by simp at h
 | p::P,w::vs,0,m,nd,h1,h2,hk=>by
  simp at h1 h2;subst h1;subst h2;show bindL kindOf ((p,w)::P.zip vs) m p=_;unfold bindL;rw [nO λ v hv=>(uq.mp nd).1 (zm hv).1,if_pos hk];simp
 | p::P,w::vs,i+1,m,nd,h1,h2,hk=>by
  show bindL kindOf ((p,w)::P.zip vs) m x=_;unfold bindL;exact nP (i:=i) (uq.mp nd).2 (by simpa using h1) (by simpa using h2) hk
theorem nR {kindOf:Str->Option ng} {x:Str} {v:af}:∀ {P:List Str} {vs:List af} {i:Nat} {m:Str->Option af},P.Nodup->P[i]?=some x->vs[i]?=some v->kindOf x≠some .local ->
  bindC kindOf (P.zip vs) m x=some v
 | [],_,_,_,_,h,_,_=>by simp at h
 | _::_,[],_,_,_,_,h,_=>by simp at h
 | p::P,w::vs,0,m,nd,h1,h2,hk=>by
  simp at h1 h2;subst h1;subst h2;show bindC kindOf ((p,w)::P.zip vs) m p=_;unfold bindC;rw [nQ λ v hv=>(uq.mp nd).1 (zm hv).1,if_neg hk];simp
 | p::P,w::vs,i+1,m,nd,h1,h2,hk=>by
  show bindC kindOf ((p,w)::P.zip vs) m x=_;unfold bindC;exact nR (i:=i) (uq.mp nd).2 (by simpa using h1) (by simpa using h2) hk
def start (N:List Str) (vs:List V):St:=vs.map some++nh (N.length-vs.length) none
def qE (CX:CXT) (P:cw) (w:eK) (K:ai) (mg:Str->Option af) (base:eH) (N:List Str) (qual:Str) (scope:qw) (f:ag) (cd:af) (A:dj) (outer:List Env) (s:aj) (H:Hp) (E:XK):Cx where
 prog:=P
 w:=w
 K:=K
 mg:=mg
 base:=base
 A:=A.deeper (envOfC qual scope s.heap.objs.size f cd)
 N:=N
 s₀:=s
 H₀:=H
 env:=envOfC qual scope s.heap.objs.size f cd
 outer:=outer
 stack:=envOfC qual scope s.heap.objs.size f cd::outer
 ex:=[]
 calm:=true
 fn:=λ _=>true
 pn:=[]
 xe:=λ e s'=>br (model P w) (A.deeper (envOfC qual scope s.heap.objs.size f cd)) (leaving (envOfC qual scope s.heap.objs.size f cd) e) (λ _ s''=>CX outer H s E e s'') (λ e' s''=>CX outer H s E e' s'') s'
theorem tH {sc:qw} {n:Nat} {x:Str} (h:sc.names.lookup x=some .cell):∃ c,(cellsFrom n sc.names []).lookup x=some c:=by
 have q:=xj sc.names n [] (.inl h);exact Option.isSome_iff_exists.mp q
theorem mW {CX:CXT} {P:cw} {w:eK} {K:ai} {mg:Str->Option af} {base:eH} {N ps:List Str} {qual:Str} {scope:qw} {f:ag} {cd:af} {A:dj} {outer:List Env} {s s1:aj} {H:Hp} {E:XK} {us:List af} {vs:List V}
  (S:FnScope N ps scope) (hd:A.handled=none) (e0:Env0 P w K mg base A outer s H) (hl:vs.length=ps.length) (r:Vals vs us)
  (x:InCallC s s.heap.objs.size (bindL (envOfC qual scope s.heap.objs.size f cd).kindOf (ps.zip us) λ _=>none) (cellsFrom (s.heap.objs.size+1) scope.names []) (bindC (envOfC qual scope s.heap.objs.size f cd).kindOf (ps.zip us) λ _=>none) s1) :
  Inv (qE CX P w K mg base N qual scope f cd A outer s H E) [] (start N vs) H s1:=by
 have hpl:ps.length<=N.length:=by have:=congrArg ph S.pre;rw [gw] at this;omega
 obtain ⟨h1,tk,rfl,hk⟩:=x.done;have noA:∀ b:ag,b∉(qE CX P w K mg base N qual scope f cd A outer s H E).ex:=λ b z=>absurd (show b∈([]:List ag) from z) (by simp)
 refine ⟨⟨e0.mod,S.kind,rfl,rfl,ba _,λ y z c h1 h2=>?_,λ y hy=>?_,λ y c _ h=>?_,λ _=>hd,CH e0.frames,.inr ⟨rfl,rfl⟩,λ b z=>absurd z (noA b),e0.bs,e0.bsz,λ b _ _=>noA b,λ b z=>absurd z (noA b),e0.funs,e0.frf⟩,
  rfl,e0.bare,Un.kept hk,⟨_,x.toInCall.ns,λ i y v h1 h2 h3=>?_⟩,λ y c h=>⟨_,x.cell y c h⟩,e0.hok.fresh (ba _),λ y c h=>?_,λ p hp=>absurd (show p∈([]:List (ag×Obj)) from hp) (by simp),e0.hok.kept hk,?_⟩
 ·exact name_of_addr x.apart (iX h1) (iX h2)
 ·have hy:scope.names.lookup y=some .cell\/scope.names.lookup y=some .free:=hy
  rcases hy with hy | hy
  ·exact tH hy
  ·exact absurd rfl (S.nofree _ (iX hy))
 ·exact va (x.above y c (iX h))
 ·have hi:i<vs.length:=by
   unfold start at h2;by_cases hi:i<vs.length
   ·exact hi
   ·rw [bu (by simpa using hi)] at h2
    rw [List.getElem?_replicate] at h2
    split at h2<;>cases h2
  have ha:vs[i]?=some v:=by
   unfold start at h2;rw [dw (by simpa using hi),bq] at h2
   cases e:vs[i]? with
   | none=>rw [e] at h2;cases h2
   | some a=>rw [e] at h2;cases h2;rfl
  obtain ⟨u,hu,rv⟩:=r.get ha
  have hp:ps[i]?=some y:=by
   rw [<-S.pre,qi (by omega)];exact h1
  have ndP:ps.Nodup:=by rw [<-S.pre];exact S.nd.sublist (List.take_sublist _ _)
  refine ⟨u,rv,?_⟩;rcases S.par y (eJ hp) with k | k
  ·exact .inl ⟨k,nP ndP hp hu k⟩
  ·obtain ⟨c,e⟩:=tH (n:=s.heap.objs.size+1) k
   refine .inr ⟨.inl k,c,e,?_⟩;have q:=x.cell y c e;rw [nR ndP hp hu (by show scope.names.lookup y≠_;rw [k];decide)] at q;exact q
 ·exact e0.hok.fresh (va (x.above y c (iX h)))
 ·unfold start
  show _=N.length;rw [du,bg,yd];omega
theorem kMG {CX:CXT} {P:cw} {w:eK} {K:ai} {mg:Str->Option af} {base:eH} {k:Nat} {f:ag} {name qual:Str} {params:Fd} {body:List fq} {scope:qw} {dV kV doc pm cdv ct oc:af} {an od:Option ag}
  {osl:Array (Option af)} {N ps:List Str} {sp:Sp} (lk:K.lookup f=some ⟨oc,od,.func (iN name qual params body scope dV kV doc pm an cdv ct),osl⟩) (hcd:qz K cdv qual=true) (S:FnScope N ps scope)
  (len:∀ vs H Q E,sp vs H Q E->vs.length=ps.length)
  (hbody:∀ (A:dj) (outer:List Env) (s:aj) (H:Hp) (vs:List V) (Q:VK) (E:XK),Room k (A.deeper (envOfC qual scope s.heap.objs.size f cdv))->sp vs H Q E ->
   ∃ t,PSs (qE CX P w K mg base N qual scope f cdv A outer s H E) body t/\t { nx:=λ _ H'=>Q .non H',rt:=Q } (start N vs) H) :
  FnOk P w K mg base CX (k+1) f (iN name qual params body scope dV kV doc pm an cdv ct) ps sp:=by
 refine ⟨len,λ A outer s H args us vs Q E hr e0 hb r hsp=>?_⟩;have hl:=len _ _ _ _ hsp;have KX:K.In s.heap:=e0.mod.kin.keeps λ b o e=>(e0.bs b o e).1;have lim:s.heap.NoLimit:=e0.mod.nolimit.keeps λ b o e=>(e0.bs b o e).1
 have hkind:∀ y∈ps.zip us,scope.names.lookup y.1=some .local\/(scope.names.lookup y.1=some .cell/\((cellsFrom (s.heap.objs.size+1) scope.names []).lookup y.1).isSome=true):=λ ⟨n,v⟩ hy=>by
  rcases S.par n (zm hy).1 with q | q
  ·exact .inl q
  ·exact .inr ⟨q,xj _ _ _ (.inl q)⟩
 refine By hr.depth (KX _ _ lk) rfl S.co S.gen rfl (Cv KX hcd) (hb _ _ _ _ ?_);refine AZ S.kind hkind λ env he s1 x=>?_;subst he;refine ⟨lim.keeps x.toInCall.keep,codeAny_func ?_⟩;obtain ⟨t,ht,hq⟩:=hbody A outer s H vs Q E (hr.deeper _) hsp;have I:Inv (qE CX P w K mg base N qual scope f cdv A outer s H E) [] (start N vs) H s1:=mW S hr.hd e0 hl r x;refine jc (ht [] s1 (start N vs) H _ I hq) (λ fl s' hs=>?_) λ e s' hs=>hs
 have fin:∀ {σ':St} {H':Hp} {v:V} {u:af},Inv (qE CX P w K mg base N qual scope f cdv A outer s H E) [] σ' H' s'->RelV v u->Q v H'->CE outer P w H s Q u s' :=
  λ {σ' H' v u} J rv q=>⟨v,H',J.os,J.bare,J.base,J.hok,rv,q⟩
 cases fl with
 | ret u =>
  obtain ⟨v,σ',H',J,rv,q⟩:=hs;exact fin J rv q
 | next =>
  obtain ⟨σ',H',J,q⟩:=hs;exact fin (v:=V.non) (u:=iK) J rfl q
 | brk =>
  obtain ⟨_,_,_,q⟩:=hs;exact iL q
 | cont =>
  obtain ⟨_,_,_,q⟩:=hs;exact iL q
section
variable {X:Cx} {x:Str} {p pos:Pos} {e:fm} {es:List fm} {t:TA} {id T:String} {r:List V->Hp->VK->Prop}
def tCB (r:List V->Hp->VK->Prop) (t:TA):TE:=λ σ H Q=>t σ H λ vs H1=>r vs H1 Q
theorem kS (hc:xB X (.builtin id) r) (hg:Gl X x) (hm:X.mg x=none) (hv:bootBuiltins x=some (.builtin id)) (ha:PA X (e::es) t) (hn:x≠"__name__":=by decide) (hdb:(x == ("__debug__" : Str))=false:=by decide)
  (he:starEach (e::es) X.env=(false,eval e X.env)::starEach es X.env:=by rfl) (hpl:(backTo pos (starEach es X.env)).any (·.1)=false:=by rfl):PE X (.Call (.Name x p) (e::es) [] pos) (tCB r t):=by
 intro pins s σ H Q I h;refine so (vV I hg hm hv ?_ hn hdb);exact yk (thn (ha pos pins s σ H _ I h) λ us s1 ⟨vs,H1,I1,r1,q1⟩=>hc pins s1 σ H1 vs us Q I1 r1 q1) he hpl
theorem qW (hc:xB X (.type T) r) (hg:Gl X x) (hm:X.mg x=none) (hv:bootBuiltins x=some (.type T)) (ha:PA X (e::es) t) (hn:x≠"__name__":=by decide) (hdb:(x == ("__debug__" : Str))=false:=by decide)
  (he:starEach (e::es) X.env=(false,eval e X.env)::starEach es X.env:=by rfl) (hpl:(backTo pos (starEach es X.env)).any (·.1)=false:=by rfl):PE X (.Call (.Name x p) (e::es) [] pos) (tCB r t):=by
 intro pins s σ H Q I h;refine so (vV I hg hm hv ?_ hn hdb);exact ma (thn (ha pos pins s σ H _ I h) λ us s1 ⟨vs,H1,I1,r1,q1⟩=>hc pins s1 σ H1 vs us Q I1 r1 q1) he hpl
end
end L2
namespace HT
open PySem PyProof.Rows
def lexLt:List Int->List Int->Bool
 | [],[]=>false
 | [],_::_=>true
 | _::_,[]=>false
 | x::xs,y::ys=>if x=y then lexLt xs ys else decide (x<y)
theorem lexLt_cons (x y:Int) (xs ys:List Int):lexLt (x::xs) (y::ys)=if x=y then lexLt xs ys else decide (x<y):=rfl
theorem lexLt_nil_nil:lexLt [] []=false:=rfl
theorem fY (y:Int) (ys:List Int):lexLt [] (y::ys)=true:=rfl
theorem fZ (x:Int) (xs:List Int):lexLt (x::xs) []=false:=rfl
theorem kIN (A:dj) (s:aj) (a:Int) (t:Tok) (c:Int) (u:Tok):∃ e,Bf A s (.int a t) (.int c u) e/\(e=true↔a=c) :=
 ⟨(a == c),Cw a t c u,by simp⟩
theorem kGT (A:dj) (s:aj) (a:Int) (t:Tok) (c:Int) (u:Tok) (prog:cw) (w:eK) (E:af->aj->Prop) (Q:af->aj->Prop) (h:Q (.bool (decide (a<c))) s) :
  br (model prog w) A (richCompare .Lt (.int a t) (.int c u)) Q E s :=
 (CZ h:br (model prog w) A (compareOp .Lt (.int a t) (.int c u)) Q E s)
section
open PySem.SeqAt
open PySem.AutoSeq1 (wpAny_loadPart')
open PySem.MeetsSeq PySem.MeetsSeq2 PySem.MeetsSeq3
theorem lG (l b:ag) (items items2:Array af) (n n2:Nat) (dd dd2:Option ag) (sl sl2:Array (Option af)) (ns ms:List Int) (hi:uj items.toList ns) (hj:uj items2.toList ms) :
  Meets (wb.«tuple.__lt__» ⟨[.ref l,.ref b],[]⟩)
   (λ _ R s=>s.heap.get? l=some { cls:=.type "tuple",dict:=dd,data:=.seq items n,slots:=sl }/\s.heap.get? b=some { cls:=.type "tuple",dict:=dd2,data:=.seq items2 n2,slots:=sl2 } /\
    R (.ok (.ret (.bool (lexLt ns ms)))) s) :=
 .of_wp λ prog w A R s h=>by
  obtain ⟨hp,g,d,tk,os⟩:=s;obtain ⟨hl,hb,h⟩:=h;have f2:=AutoSeq1.sub_tuple_tuple;have z1:items.size=ns.length:=by rw [<-hi.length];simp
  have z2:items2.size=ms.length:=by rw [<-hj.length];simp
  wp_walk using ow hl,ow hb,rf _ (λ rest b s'=>b.1=none/\s'=⟨hp,g,d,tk,os⟩/\∃ (vs ws:List af) (ns' ms':List Int),rest=vs.zip ws /\
   uj vs ns'/\uj ws ms'/\ns'.length+items2.size=ms'.length+items.size/\R (.ok (.ret (.bool (lexLt ns' ms')))) ⟨hp,g,d,tk,os⟩) _
  case turn =>
   rintro ⟨y,x⟩ rest b s' ⟨hb',rfl,vs,ws,ns',ms',hz,hvi,hwi,hlen,hR⟩
   cases hvi with
   | nil=>rw [List.zip_nil_left] at hz;cases hz
   | cons a t hvi' =>
    cases hwi with
    | nil=>rw [List.zip_nil_right] at hz;cases hz
    | cons c u hwi' =>
     rw [wk] at hz;injection hz with hyx hrest
     injection hyx with hy hx
     subst hy hx;rw [lexLt_cons] at hR;simp only [gy] at hlen;obtain ⟨e,he,hiff⟩:=kIN A.in1 ⟨hp,g,d,tk,os⟩ a t c u;refine aa (he prog w _ _ ?_)
     cases e with
     | true =>
      rw [if_pos (hiff.mp rfl)] at hR
      wp_walk
      exact ⟨rfl,rfl,_,_,_,_,hrest,hvi',hwi',by omega,hR⟩
     | false =>
      rw [if_neg (λ q=>absurd (hiff.mpr q) cq)] at hR;have hri:=kGT A.in1 ⟨hp,g,d,tk,os⟩ a t c u prog w
      wp_walk using hri
      exact ⟨_,rfl,by simpa using hR⟩
  case fin =>
   rintro ⟨b1,b2⟩ s' ⟨hb',rfl,vs,ws,ns',ms',hz,hvi,hwi,hlen,hR⟩;simp only at hb';subst hb'
   have hv:lexLt ns' ms'=decide (items.size<items2.size):=by
    cases hvi with
    | nil =>
     cases hwi with
     | nil =>
      simp only [yl] at hlen;rw [lexLt_nil_nil];exact (decide_eq_false (by omega)).symm
     | cons c u hw =>
      simp only [yl,gy] at hlen;rw [fY];exact (decide_eq_true (by omega)).symm
    | cons a t hv =>
     cases hwi with
     | nil =>
      simp only [yl,gy] at hlen;rw [fZ];exact (decide_eq_false (by omega)).symm
     | cons c u hw =>
      rw [wk] at hz;cases hz
   rw [hv] at hR
   wp_walk
   exact ⟨_,rfl,by simpa [Di] using hR⟩
  case h =>
   exact ⟨rfl,rfl,items.toList,items2.toList,ns,ms,rfl,hi,hj,by omega,h⟩
end
section
variable {prog:cw} {w:eK} {A:dj} {E:af->aj->Prop} {s:aj}
theorem lt_tupInts {l b:ag} {items items2:Array af} {ns ms:List Int} {Q:af->aj->Prop} (hl:CF s.heap l items) (hb:CF s.heap b items2) (hi:uj items.toList ns) (hj:uj items2.toList ms)
  (hu:A.units<cLine) (h:Q (.bool (lexLt ns ms)) s):br (model prog w) A (compareOp .Lt (.ref l) (.ref b)) Q E s:=by
 obtain ⟨⟨cls,dd,data,sl⟩,ho,hc,n,hd⟩:=id hl;obtain ⟨⟨cls2,dd2,data2,sl2⟩,ho2,hc2,n2,hd2⟩:=id hb;simp only at hc hd hc2 hd2;subst hc hd hc2 hd2
 exact richCompare_meets_room (op:=.Lt) ⟨_,ho,rfl⟩ ⟨_,ho2,rfl⟩ PySem.F.slot_tuple_lt PySem.F.entry_tuple_lt (PySem.F.args_tuple_lt_2 _ _) (lG l b items items2 n n2 dd dd2 sl sl2 ns ms hi hj)
  ⟨ho,ho2,show mz (lexLt ns ms)≠Value.notImplemented/\Q (.bool (lexLt ns ms)) s from ⟨(λ x=>nomatch x),h⟩⟩ hu
theorem cat_tup {t b:ag} {vs ws:List af} {Q:af->aj->Prop} (ht:CF s.heap t vs.toArray) (hb:CF s.heap b ws.toArray) (hv:vs≠[])
  (h1:ws=[]->Q (.ref t) s) (h2:ws≠[]->Q (.ref s.heap.objs.size) { s with heap:=s.heap.push { cls:=.type "tuple",data:=.seq (vs++ws).toArray } })
  (hsz:vs.length+ws.length<=sizeLine):br (model prog w) A (binaryOp .Add (.ref t) (.ref b)) Q E s:=by
 obtain ⟨⟨cls,dd,data,sl⟩,ho,hc,n,hd⟩:=id ht;obtain ⟨⟨cls2,dd2,data2,sl2⟩,ho2,hc2,n2,hd2⟩:=id hb;simp only at hc hd hc2 hd2;subst hc hd hc2 hd2;have e:vs.toArray++ws.toArray=(vs++ws).toArray:=by simp
 by_cases hw:ws=[]
 ·exact DL ⟨_,ho,rfl⟩ ⟨_,ho2,rfl⟩ BV Ck xk wt (vp _ _)
   (tuple_addW1 t b vs.toArray ws.toArray n n2 dd dd2 sl sl2 (by simpa using hv) (by simp [hw])) ⟨ho,ho2,h1 hw⟩
 ·refine DL ⟨_,ho,rfl⟩ ⟨_,ho2,rfl⟩ BV Ck xk wt (vp _ _)
   (tuple_addW2 t b vs.toArray ws.toArray n n2 dd dd2 sl sl2 (by simpa using hv) (by simpa using hw) (by rw [dq,dq];exact hsz)) ⟨ho,ho2,?_⟩
  rw [e];exact h2 hw
def sIx (n d:Nat):Option Int->Nat
 | none=>d
 | some v=>if v<0 then (v+(n:Int)).toNat else min v.toNat n
theorem sIx_none (n d:Nat):sIx n d none=d:=rfl
theorem sIx_nat (n d k:Nat):sIx n d (some (k:Int))=min k n:=by
 show (if (k:Int)<0 then ((k:Int)+(n:Int)).toNat else min (k:Int).toNat n)=min k n;rw [if_neg (by omega),iZ]
theorem kND (n d:Nat) (hd:d<=n) (o:Option Int):sIx n d o<=n:=by
 cases o with
 | none=>exact hd
 | some v =>
  show (if v<0 then (v+(n:Int)).toNat else min v.toNat n)<=n;by_cases hv:v<0
  ·rw [if_pos hv];omega
  ·rw [if_neg hv];exact Dp _ _
theorem kCZ (v:Int) (n d:Nat):(if v<0 then max (v+(n:Int)) 0 else min v (n:Int))=((sIx n d (some v):Nat):Int):=by
 show (if v<0 then max (v+(n:Int)) 0 else min v (n:Int))=(((if v<0 then (v+(n:Int)).toNat else min v.toNat n):Nat):Int);by_cases hv:v<0
 ·simp only [if_pos hv];omega
 ·simp only [if_neg hv];omega
theorem kBB (lo hi:Option Int) (n:Nat):vh lo hi 1 (n:Int)=(((sIx n 0 lo:Nat):Int),((sIx n n hi:Nat):Int)):=by
 have h1:¬ ((1:Int)<0):=by omega
 unfold vh;simp only [h1,if_false];refine Ec ?_ ?_
 ·cases lo with
  | none=>rfl
  | some v=>exact kCZ v n 0
 ·cases hi with
  | none=>rfl
  | some v=>exact kCZ v n n
theorem kAE (i j:Nat):og (i:Int) (j:Int) 1=j-i:=by
 unfold og;have h1:(1:Int)>0:=by omega
 simp only [h1,if_true,Fi]
 split<;>omega
theorem dL {v:af} {o:Option Int} {Q:Option Int->aj->Prop} (p:Bg v o) (h:Q o s):br (model prog w) A (ES v) Q E s:=by
 cases p with
 | none=>exact Ed h
 | int i t=>exact slicePart_int h
theorem sliceApplied_gen {sl:ag} {vl vu:af} {lo hi:Option Int} {n:Nat} {Q:Int×Int×Nat->aj->Prop} (hs:s.heap.IsSliceOf sl vl vu .none) (pl:Bg vl lo) (pu:Bg vu hi)
  (h:Q (((sIx n 0 lo:Nat):Int),1,sIx n n hi-sIx n 0 lo) s):br (model prog w) A (Aa (.ref sl) (pure (n:Int))) Q E s:=by
 obtain ⟨os,hos,hcs,hds⟩:=id hs;unfold Aa FF;refine aa (aa (jt hos hds (x:=vl) rfl (aa (jt hos hds (x:=vu) rfl (aa (jt hos hds (x:=.none) rfl (aq ?_)))))));refine aa (Ed ?_);show br _ _ (if ((1:Int) == 0)=true then _ else _) _ _ s;rw [if_neg (by decide)];refine aa (dL pl (aa (dL pu (aa (aq ?_)))));show br _ _ (match vh lo hi 1 (n:Int) with | (lo,hi)=>pure (lo,(1:Int),og lo hi 1)) _ _ s
 rw [kBB lo hi n];show br _ _ (pure (((sIx n 0 lo:Nat):Int),(1:Int),og ((sIx n 0 lo:Nat):Int) ((sIx n n hi:Nat):Int) 1)) _ _ s;rw [kAE];exact aq h
theorem kHC (xs:Array af) (i k:Nat):((qg k).filterMap λ (m:Nat)=>xs[((i:Int)+(m:Int)*1).toNat]?).toArray=((xs.toList.drop i).take k).toArray:=by
 have e:(λ (m:Nat)=>xs[((i:Int)+(m:Int)*1).toNat]?)=λ m=>xs[i+m]?:=by
  funext m
  have:((i:Int)+(m:Int)*1).toNat=i+m:=by omega
  rw [this]
 rw [e];have:=pick_run xs i k;rw [Ab] at this;have e2:((λ x=>xs[x]?)∘λ x=>i+x)=λ m=>xs[i+m]?:=rfl;rw [e2] at this;rw [this]
theorem getItem_tuple_cut {t sl:ag} {items:Array af} {vl vu:af} {lo hi:Option Int} {Q:af->aj->Prop} (ht:CF s.heap t items) (hs:s.heap.IsSliceOf sl vl vu .none) (pl:Bg vl lo) (pu:Bg vu hi)
  (hw:¬ (sIx items.size 0 lo=0/\sIx items.size items.size hi=items.size))
  (h:Q (.ref s.heap.objs.size) { s with heap:=s.heap.push { cls:=.type "tuple",data:=.seq ((items.toList.drop (sIx items.size 0 lo)).take (sIx items.size items.size hi-sIx items.size 0 lo)).toArray } })
  (hsz:items.size<=sizeLine):br (model prog w) A (getItem (.ref t) (.ref sl)) Q E s:=by
 have htake:sizeOk (.seq ((items.toList.drop (sIx items.size 0 lo)).take (sIx items.size items.size hi-sIx items.size 0 lo)).toArray):=by
  show ((items.toList.drop (sIx items.size 0 lo)).take (sIx items.size items.size hi-sIx items.size 0 lo)).toArray.size<=sizeLine;rw [dq,gw,fh,eI];omega
 have hj:sIx items.size items.size hi<=items.size:=kND _ _ (ba _) hi;obtain ⟨os,hos,hcs,hds⟩:=id hs;have hTs:s.TypeIs (.ref sl) "slice":=⟨os,hos,hcs⟩;unfold getItem
 try with_reducible refine eQ ?_
 first | refine aa (aq ?_) | skip
 refine aa (DM ht.typeIs (by decide) ?_)
 refine aa (rg (name:=sv "__getitem__") ht.typeIs gz
  (mv gz ht.typeIs Ca ?_ (Cy _ _)))
 show br _ _ (ur (.ref t) >>= _) _ _ s;refine aa (tupleItemsOf_ ht ?_);refine aa (AK hTs ?_);rw [if_pos (by decide)];refine aa (sliceApplied_gen hs pl pu ?_)
 have hno:¬ ((((sIx items.size 0 lo:Nat):Int) == 0 && (1:Int) == 1 && (sIx items.size items.size hi-sIx items.size 0 lo) == items.size)=true):=by
  intro q;rw [gi,gi] at q;have q1:((sIx items.size 0 lo:Nat):Int)=0:=eq_of_beq q.1.1;have q2:sIx items.size items.size hi-sIx items.size 0 lo=items.size:=eq_of_beq q.2;exact hw ⟨by omega,by omega⟩
 show br _ _ (if (((sIx items.size 0 lo:Nat):Int) == 0 && (1:Int) == 1 && (sIx items.size items.size hi-sIx items.size 0 lo) == items.size)=true then _ else _) _ _ s;rw [if_neg hno,kHC]
 first
  | exact aa (m:=qj _) (fu (aq ⟨_,rfl,aq h⟩) htake)
  | exact aa (m:=qj _) (fu (aa (aq (aq ⟨_,rfl,aq h⟩))) htake)
  | exact aa (aa (m:=qj _) (fu (aq (aq ⟨_,rfl,aq h⟩)) htake))
  | exact aa (aa (m:=qj _) (fu (aq ⟨_,rfl,aq h⟩) htake))
end
end HT
namespace L2
open PySem PySem.Spec PyProof.Rows
abbrev TO:=St->Hp->(Option Int->Hp->Prop)->Prop
def PO (X:Cx) (e:Option fm) (t:TO):Prop :=
 ∀ (pins:List (ag×Obj)) (s:aj) (σ:St) (H:Hp) (Q:Option Int->Hp->Prop),Inv X pins σ H s->t σ H Q ->
  br (model X.prog X.w) X.A (evalPart e X.env) (λ u s'=>∃ o H',Inv X pins σ H' s'/\Bg u o/\Q o H') X.xe s
def kJC:TO:=λ _ H Q=>Q none H
inductive kFS (Q:Option Int->Hp->Prop) (x:V) (H1:Hp):Prop
 | mk:∀ i,(x=.int i)->(Q (some i) H1)->kFS Q x H1
def kPL (t:TE):TO:=λ σ H Q=>t σ H λ x H1=>kFS Q x H1
theorem kAU {ns:List Int}:∀ {us:List af},Vals (ns.map V.int) us->uj us ns:=by
 induction ns with
 | nil=>intro us r;rw [AL] at r;cases r;exact .nil
 | cons n ns ih =>
  intro us r;rw [iV] at r
  cases r with
  | cons r1 r2 =>
   obtain ⟨t,e⟩:=r1;subst e;exact .cons n t (ih r2)
section
variable {X:Cx} {e:fm} {te:TE} {lo hi:Option fm} {tl th:TO} {pos p2:Pos}
theorem wT:PO X none kJC:=by
 intro pins s σ H Q I h;rw [Cm];exact aq ⟨none,H,I,.none,h⟩
theorem xL (h:PE X e te):PO X (some e) (kPL te):=by
 intro pins s σ H Q I hw;rw [evalPart_some];refine thn (h pins s σ H _ I hw) λ u s1 ⟨x,H1,I1,r1,q1⟩=>?_;obtain ⟨i,rfl,q⟩:=q1;obtain ⟨t,rfl⟩:=r1;exact ⟨some i,H1,I1,.int i t,q⟩
def SlR (X:Cx) (r:V->Option Int->Option Int->Hp->VK->Prop):Prop :=
 ∀ (pins:List (ag×Obj)) (s:aj) (σ:St) (H:Hp) (x:V) (v vl vu:af) (lo hi:Option Int) (sl:ag) (Q:VK),Inv X pins σ H s->RelV x v->s.heap.IsSliceOf sl vl vu .none->Bg vl lo->Bg vu hi->r x lo hi H Q ->
  ∃ T id,typeLookup (.type T) "__getitem__" = pure (some (.builtin id))/\s.TypeIs v T/\br (model X.prog X.w) X.A (getItem v (.ref sl)) (EP X pins σ Q) X.xe s
theorem SlR.or {r r':V->Option Int->Option Int->Hp->VK->Prop} (h:SlR X r) (h':SlR X r'):SlR X (λ x lo hi H Q=>r x lo hi H Q\/r' x lo hi H Q):=by
 intro pins s σ H x v vl vu lo hi sl Q I rx hs pl pu q;rcases q with q | q
 ·exact h pins s σ H x v vl vu lo hi sl Q I rx hs pl pu q
 ·exact h' pins s σ H x v vl vu lo hi sl Q I rx hs pl pu q
def tSl (r:V->Option Int->Option Int->Hp->VK->Prop) (te:TE) (tl th:TO):TE:=λ σ H Q=>te σ H λ x H1=>tl σ H1 λ l H2=>th σ H2 λ u H3=>r x l u H3 Q
theorem xV {r:V->Option Int->Option Int->Hp->VK->Prop} (hr:SlR X r) (he:PE X e te) (hl:PO X lo tl) (hu:PO X hi th):PE X (.Subscript e (.Slice lo hi none p2) pos) (tSl r te tl th):=by
 intro pins s σ H Q I h;refine Ee (thn (he pins s σ H _ I h) λ v s1 ⟨x,H1,I1,r1,q1⟩=>?_);refine wpAny_Slice (thn (hl pins s1 σ H1 _ I1 q1) λ vl s2 ⟨l,H2,I2,pl,q2⟩=>thn (hu pins s2 σ H2 _ I2 q2) λ vu s3 ⟨u,H3,I3,pu,q3⟩=>?_);rw [Cm];refine aq ?_;have I4:Inv X pins σ H3 { s3 with heap:=s3.heap.push { cls:=.type "slice",data:=.fields #[vl,vu,.none] } }:=I3.kept (t':=s3.toks) λ b ob q=>ak _ q
 obtain ⟨T,id,hT,ht,hg⟩:=hr pins { s3 with heap:=s3.heap.push { cls:=.type "slice",data:=.fields #[vl,vu,.none] } } σ H3 x v vl vu l u s3.heap.objs.size Q I4 r1 (Cz ..) pl pu q3
 show br (model X.prog X.w) X.A (subscriptTail e (.Slice lo hi none p2) v (.ref s3.heap.objs.size)) (EP X pins σ Q) X.xe { s3 with heap:=s3.heap.push { cls:=.type "slice",data:=.fields #[vl,vu,.none] } }
 exact tail_any (ops:=[.ref s3.heap.objs.size,v]) ht hT hg (by with_unfolding_all rfl)
def zR (xs:List V) (lo hi:Option Int):List V:=(xs.drop (HT.sIx xs.length 0 lo)).take (HT.sIx xs.length xs.length hi-HT.sIx xs.length 0 lo)
theorem bX (xs:List V) (lo hi:Option Int):(zR xs lo hi).length<=xs.length:=by
 unfold zR;rw [gw,fh];omega
inductive kNE (K:ai) (x:V) (lo:Option Int) (hi:Option Int) (H:Hp) (Q:VK):Prop
 | mk:∀ a xs,(x=.ref a)->(SqT K H a xs)->(¬ (HT.sIx xs.length 0 lo=0/\HT.sIx xs.length xs.length hi=xs.length))->(∀ p,H p=none->Q (.ref p) (upd H p (.tup (zR xs lo hi))))->kNE K x lo hi H Q
theorem sl_tup:SlR X (kNE X.K):=by
 intro pins s σ H x v vl vu lo hi sl Q I rx hs pl pu h;obtain ⟨a,xs,rfl,hx,hw,q⟩:=h;cases rx
 obtain ⟨its,r,ht,hz⟩:=I.tuple hx;have hlen:its.toArray.size=xs.length:=by rw [dq];exact r.length.symm
 refine ⟨"tuple",_,gz.lookup,ht.typeIs,?_⟩;refine HT.getItem_tuple_cut ht hs pl pu (by rw [hlen];exact hw) ?_ (by rw [hlen];exact hz);rw [hlen];refine ⟨.ref s.heap.objs.size,_,I.laid (t':=s.toks) (o:=.tup (zR xs lo hi)) (λ b ob q=>ak _ q) (ba _) ?_,rfl,q _ (I.hok.fresh (ba _))⟩;exact ⟨gk (bX xs lo hi) hz,_,(r.drop (HT.sIx xs.length 0 lo)).take (HT.sIx xs.length xs.length hi-HT.sIx xs.length 0 lo),IsTupN.new _ _⟩
inductive kLW (K:ai) (x:V) (y:V) (H:Hp) (Q:VK):Prop
 | mk:∀ a b xs ys,(x=.ref a)->(y=.ref b)->(SqT K H a xs)->(SqT K H b ys)->(xs≠[])->(xs.length+ys.length<=sizeLine)->((ys=[]->Q (.ref a) H))->((ys≠[]->∀ p,H p=none->Q (.ref p) (upd H p (.tup (xs++ys)))))->kLW K x y H Q
theorem Vals.nil_iff {xs:List V} {us:List af} (r:Vals xs us):us=[]↔xs=[]:=by
 cases r with
 | nil=>simp
 | cons _ _=>simp
theorem kJY:OpR X (binaryOp .Add) (kLW X.K):=by
 intro pins s σ H x y v u Q I rx ry h;obtain ⟨a,b,xs,ys,rfl,rfl,ha,hb,hx,hz,q1,q2⟩:=h;cases rx
 cases ry
 obtain ⟨its,r1,p1,_⟩:=I.tuple ha;obtain ⟨its2,r2,p2,_⟩:=I.tuple hb;refine HT.cat_tup p1 p2 (λ z=>hx (r1.nil_iff.mp z)) (λ z=>⟨.ref a,H,I,rfl,q1 (r2.nil_iff.mp z)⟩) (λ z=>?_) (by rw [<-r1.length,<-r2.length];exact hz);refine ⟨.ref s.heap.objs.size,_,I.laid (t':=s.toks) (o:=.tup (xs++ys)) (λ b ob q=>ak _ q) (ba _) ?_,rfl,q2 (λ w=>z (r2.nil_iff.mpr w)) _ (I.hok.fresh (ba _))⟩;exact ⟨by rw [du];exact hz,_,r1.append r2,IsTupN.new _ _⟩
end
def ixN (n:Nat) (i:Int):Option Nat:=if 0<=i then (if i<n then some i.toNat else none) else if -(n:Int)<=i then some (i+n).toNat else none
def atI {α:Type} (xs:List α) (i:Int):Option α:=(ixN xs.length i).bind λ j=>xs[j]?
theorem kCS {n:Nat} {i:Int} {j:Nat} (h:ixN n i=some j):seqIndex? i n=some j/\j<n/\-(n:Int)<=i/\i<n:=by
 unfold ixN at h;by_cases h0:0<=i
 ·rw [if_pos h0] at h
  by_cases h1:i<n
  ·rw [if_pos h1] at h
   have e:i.toNat=j:=eO h;exact ⟨by rw [EJ h0 h1,e],by omega,by omega,h1⟩
  ·rw [if_neg h1] at h;cases h
 ·rw [if_neg h0] at h
  by_cases h1 : -(n:Int)<=i
  ·rw [if_pos h1] at h
   have e:(i+n).toNat=j:=eO h;exact ⟨by rw [DN (by omega) h1,e],by omega,h1,by omega⟩
  ·rw [if_neg h1] at h;cases h
theorem kDD {α:Type} {xs:List α} {i:Int} {v:α} (h:atI xs i=some v):∃ j,seqIndex? i xs.length=some j/\xs[j]?=some v/\j<xs.length/\-(xs.length:Int)<=i/\i<xs.length:=by
 unfold atI at h
 cases e:ixN xs.length i with
 | none=>rw [e] at h;cases h
 | some j =>
  rw [e] at h;obtain ⟨h1,h2,h3,h4⟩:=kCS e;exact ⟨j,h1,h,h2,h3,h4⟩
theorem jH {α:Type} {xs:List α} {j:Nat} {v:α} (h:xs[j]?=some v):atI xs (j:Int)=some v:=by
 have hj:j<xs.length:=(au.mp h).1
 have e:ixN xs.length (j:Int)=some j:=by
  unfold ixN;rw [if_pos (by omega),if_pos (by omega)];simp
 unfold atI;rw [e];exact h
def kDG (b:fm):Prop:=∀ o i,subscripted b false o i=operate [o,i] (getItem o i)
def IxR (X:Cx) (r:R2):Prop :=
 ∀ (value slice:fm) (pins:List (ag×Obj)) (s:aj) (σ:St) (H:Hp) (x y:V) (v u:af) (Q:VK),Inv X pins σ H s->RelV x v->RelV y u->r x y H Q ->
  subscripted slice false v u=operate [v,u] (getItem v u)->br (model X.prog X.w) X.A (subscriptTail value slice v u) (EP X pins σ Q) X.xe s
def MtR (X:Cx) (id:String) (r:V->List V->Hp->VK->Prop):Prop :=
 ∀ (pins:List (ag×Obj)) (s:aj) (σ:St) (H:Hp) (x:V) (xs:List V) (v:af) (us:List af) (Q:VK),Inv X pins σ H s->RelV x v->Vals xs us->r x xs H Q ->
  br (model X.prog X.w) X.A (call (.builtin id) (v::us)) (EP X pins σ Q) X.xe s
section
variable {X:Cx} {a b:fm} {ta tb:TE} {pos:Pos}
theorem kQB {r:R2} (hr:IxR X r) (ha:PE X a ta) (hb:PE X b tb) (hs:kDG b):PE X (.Subscript a b pos) (tOp r ta tb):=by
 intro pins s σ H Q I h;exact Ee (kOP ha hb I h λ v u s2 x y H2 I2 rx ry q=>hr a b pins s2 σ H2 x y v u Q I2 rx ry q (hs _ _))
inductive kGV (K:ai) (x:V) (y:V) (H:Hp) (Q:VK):Prop
 | mk:∀ p xs i v,(x=.ref p)->(y=.int i)->(SqL K H p xs)->(atI xs i=some v)->(Q v H)->kGV K x y H Q
inductive oM (K:ai) (x:V) (y:V) (H:Hp) (Q:VK):Prop
 | mk:∀ p xs i v,(x=.ref p)->(y=.int i)->(SqT K H p xs)->(atI xs i=some v)->(Q v H)->oM K x y H Q
theorem kT:IxR X (kGV X.K):=by
 intro value slice pins s σ H x y v u Q I rx ry h hs;obtain ⟨p,xs,i,z,rfl,rfl,hq,he,q⟩:=h;cases rx
 obtain ⟨t,rfl⟩:=ry;obtain ⟨its,r,pl,hz⟩:=I.list hq;obtain ⟨j,h1,h2,h3,h4,h5⟩:=kDD he;obtain ⟨w,ew,rw'⟩:=r.get h2;have hl:=r.length;have hn:=bB;have fin:EP X pins σ Q w s:=⟨z,H,I,rw',q⟩;by_cases h0:0<=i
 ·have hj:i.toNat=j:=by
   rw [EJ h0 h5] at h1;exact eO h1
  exact item_listR pl.isList h0 (by omega) (by rw [hj];simpa using ew) fin hs
 ·have hj:(i+(its.toArray.size:Int)).toNat=j:=by
   rw [DN (by omega) h4] at h1;rw [dq,<-hl];exact eO h1
  exact Bh (x:=w) pl.isList.typeIs Ax.lookup
   (wpAny_getItem_list_neg (Q:=λ r s'=>r=w/\EP X pins σ Q r s') pl.isList (by omega) (by rw [dq]<;>omega) (by omega) (by rw [hj];simpa using ew) ⟨rfl,fin⟩) hs
theorem kJ:IxR X (oM X.K):=by
 intro value slice pins s σ H x y v u Q I rx ry h hs;obtain ⟨p,xs,i,z,rfl,rfl,hq,he,q⟩:=h;cases rx
 obtain ⟨t,rfl⟩:=ry;obtain ⟨its,r,pl,hz⟩:=I.tuple hq;obtain ⟨j,h1,h2,h3,h4,h5⟩:=kDD he;obtain ⟨w,ew,rw'⟩:=r.get h2;have hl:=r.length;have hn:=bB;have fin:EP X pins σ Q w s:=⟨z,H,I,rw',q⟩
 exact Bh (x:=w) pl.typeIs slot_tuple_getitem.lookup
  (getItem_tuple (j:=j) (Q:=λ r s'=>r=w/\EP X pins σ Q r s') pl (by omega) (by omega) (by rw [dq,<-hl];exact h1) (by simpa using ew) ⟨rfl,fin⟩) hs
theorem kAO (its:List af) (n j:Nat) (u:af):qk (·.setIfInBounds j u) { cls:=.type "list",data:=.seq its.toArray n }={ cls:=.type "list",data:=.seq (its.set j u).toArray n }:=by
 simp [qk]
theorem Inv.lst {pins:List (ag×Obj)} {σ:St} {H:Hp} {s:aj} {p:ag} {xs:List V} (I:Inv X pins σ H s) (h:H p=some (.lst xs)) :
  ∃ (its:List af) (n:Nat),Vals xs its/\s.heap.get? p=some { cls:=.type "list",data:=.seq its.toArray n }/\xs.length<=sizeLine:=by
 obtain ⟨z,its,n,r,e⟩:=I.hok p _ h;exact ⟨its,n,r,e,z⟩
theorem Inv.lstUpd {pins:List (ag×Obj)} {σ:St} {H:Hp} {s:aj} {p:ag} {xs ys:List V} {its its':List af} {n n':Nat} {f:Obj->Obj} (I:Inv X pins σ H s) (h:H p=some (.lst xs))
  (ho:s.heap.get? p=some { cls:=.type "list",data:=.seq its.toArray n }) (hf:f { cls:=.type "list",data:=.seq its.toArray n }={ cls:=.type "list",data:=.seq its'.toArray n' }) (r:Vals ys its') (hz:ys.length<=sizeLine) (t:Nat) :
  Inv X pins σ (upd H p (.lst ys)) { s with heap:=s.heap.update p f,toks:=t }:=by
 have e:(s.heap.update p f).get? p=some { cls:=.type "list",data:=.seq its'.toArray n' }:=by
  rw [ff f ho (by rw [hf]<;>rfl),hf]
 refine I.write (x:=p) (e:=p) (by rw [h];trivial) (.inl rfl) (λ b u hb q=>(eA _ _ (iY hb)).trans q) ⟨_,e⟩ ?_;exact ⟨hz,its',n',r,e⟩
inductive kLU (o:V) (i:V) (v:V) (H:Hp) (Q:Hp->Prop):Prop
 | mk:∀ p xs k j,(o=.ref p)->(i=.int k)->(H p=some (.lst xs))->(ixN xs.length k=some j)->(Q (upd H p (.lst (xs.set j v))))->kLU o i v H Q
theorem rN:kRE X kLU:=by
 intro pins s σ H o i v ov iv u Q I ro ri rv h;obtain ⟨p,xs,k,j,rfl,rfl,hp,hj,q⟩:=h;cases ro
 obtain ⟨t,rfl⟩:=ri;obtain ⟨its,n,r,ho,hz⟩:=I.lst hp;obtain ⟨h1,h2,h3,h4⟩:=kCS hj;have hl:=r.length;have hn:=bB
 have I':Inv X pins σ (upd H p (.lst (xs.set j v))) { s with heap:=s.heap.update p (qk (·.setIfInBounds j u)) } :=
  I.lstUpd hp ho (kAO its n j u) (r.set rv j) (by rw [wc];exact hz) s.toks
 by_cases h0:0<=k
 ·have hk:k.toNat=j:=by
   rw [EJ h0 h4] at h1;exact eO h1
  exact PySem.W.ki_setAt ho h0 (by omega) (by rw [dq,<-hl];exact h4) (by rw [hk];exact ⟨_,I',q⟩)
 ·have hk:(k+(its.toArray.size:Int)).toNat=j:=by
   rw [DN (by omega) h3] at h1;rw [dq,<-hl];exact eO h1
  exact PySem.W.ki_setBack ho (by omega) (by rw [dq,<-hl];exact h3) (by omega) (by rw [hk];exact ⟨_,I',q⟩)
theorem nX (lo hi:Option Int) (n:Nat):(sliceBounds lo hi none n).1=((HT.sIx n 0 lo:Nat):Int)/\(sliceBounds lo hi none n).2.1=((HT.sIx n n hi:Nat):Int)/\(sliceBounds lo hi none n).2.2=1:=by
 refine ⟨?_,?_,rfl⟩
 ·cases lo with
  | none=>simp [sliceBounds,HT.sIx]
  | some i =>
   simp only [sliceBounds,HT.sIx,Dq,show (1:Int)>0 by decide,if_true];by_cases h:i<0
   ·simp only [h,if_true]<;>omega
   ·simp only [h,if_false]<;>omega
 ·cases hi with
  | none=>simp [sliceBounds,HT.sIx]
  | some i =>
   simp only [sliceBounds,HT.sIx,Dq,show (1:Int)>0 by decide,if_true];by_cases h:i<0
   ·simp only [h,if_true]<;>omega
   ·simp only [h,if_false]<;>omega
theorem lI (its:List af) (lo hi:Option Int):slicePick its.toArray lo hi none=((its.drop (HT.sIx its.length 0 lo)).take (HT.sIx its.length its.length hi-HT.sIx its.length 0 lo)).toArray:=by
 obtain ⟨h1,h2,h3⟩:=nX lo hi its.toArray.size;unfold slicePick;rw [h1,h2,h3];simp only [sliceRange_one,pick_run,dq]<;>rfl
inductive kPX (K:ai) (x:V) (lo:Option Int) (hi:Option Int) (H:Hp) (Q:VK):Prop
 | mk:∀ a xs,(x=.ref a)->(SqL K H a xs)->(∀ p,H p=none->Q (.ref p) (upd H p (.lst (zR xs lo hi))))->kPX K x lo hi H Q
theorem uG:SlR X (kPX X.K):=by
 intro pins s σ H x v vl vu lo hi sl Q I rx hs pl pu h;obtain ⟨a,xs,rfl,hx,q⟩:=h;cases rx
 obtain ⟨its,r,ht,hz⟩:=I.list hx;have hlen:=r.length;refine ⟨"list",_,Ax.lookup,ht.isList.typeIs,?_⟩;refine BG ht.isList hs pl pu .none (by simp) ?_ (by rw [dq]<;>omega);rw [lI,<-hlen];refine ⟨.ref s.heap.objs.size,_,I.laid (t':=s.toks) (o:=.lst (zR xs lo hi)) (λ b ob q=>ak _ q) (ba _) ?_,rfl,q _ (I.hok.fresh (ba _))⟩;exact ⟨gk (bX xs lo hi) hz,_,0,(r.drop (HT.sIx xs.length 0 lo)).take (HT.sIx xs.length xs.length hi-HT.sIx xs.length 0 lo),cv _ rfl⟩
def aF:V->Bool
 | .non=>true
 | .bl _=>true
 | .int _=>true
 | .str _=>true
 | _=>false
def eqV:V->V->Bool
 | .non,.non=>true
 | .bl a,.bl b=>a == b
 | .bl a,.int b=>(if a then 1 else 0) == b
 | .int a,.bl b=>a == (if b then 1 else 0)
 | .int a,.int b=>a == b
 | .str a,.str b=>a == b
 | _,_=>false
theorem kOI {A:dj} {s:aj} {y x:V} {u v:af} (ry:RelV y u) (rx:RelV x v) (fy:aF y=true) (fx:aF x=true):Bf A s u v (eqV y x):=by
 cases y with
 | non =>
  cases ry
  cases x with
  | non=>cases rx;exact SeqAt.EqAt.same _
  | bl b=>cases rx;exact SeqAt.EqAt.none_bool b
  | int b=>obtain ⟨t,rfl⟩:=rx;exact SeqAt.EqAt.none_int b t
  | str b=>obtain ⟨t,rfl⟩:=rx;exact SeqAt.EqAt.none_str b t
  | _=>exact absurd (show false=true from fx) cq
 | bl a =>
  cases ry
  cases x with
  | non=>cases rx;exact SeqAt.EqAt.bool_none a
  | bl b=>cases rx;exact CI a b
  | int b=>obtain ⟨t,rfl⟩:=rx;exact SeqAt.EqAt.bool_int a b t
  | str b=>obtain ⟨t,rfl⟩:=rx;exact SeqAt.EqAt.bool_str a b t
  | _=>exact absurd (show false=true from fx) cq
 | int a =>
  obtain ⟨t',rfl⟩:=ry
  cases x with
  | non=>cases rx;exact SeqAt.EqAt.int_none a t'
  | bl b=>cases rx;exact SeqAt.EqAt.int_bool a t' b
  | int b=>obtain ⟨t,rfl⟩:=rx;exact Cw a t' b t
  | str b=>obtain ⟨t,rfl⟩:=rx;exact Cs a t' b t
  | _=>exact absurd (show false=true from fx) cq
 | str a =>
  obtain ⟨t',rfl⟩:=ry
  cases x with
  | non=>cases rx;exact SeqAt.EqAt.str_none a t'
  | bl b=>cases rx;exact SeqAt.EqAt.str_bool a t' b
  | int b=>obtain ⟨t,rfl⟩:=rx;exact Ct a t' b t
  | str b=>obtain ⟨t,rfl⟩:=rx;exact SeqAt.EqAt.str_str a t' b t
  | _=>exact absurd (show false=true from fx) cq
 | _=>exact absurd (show false=true from fy) cq
def eqU (x:V) (u:af):Bool:=match u with
 | .none=>eqV .non x
 | .bool b=>eqV (.bl b) x
 | .int i _=>eqV (.int i) x
 | .str z _=>eqV (.str z) x
 | _=>false
theorem kIL {x y:V} {u:af} (r:RelV y u) (f:aF y=true):eqU x u=eqV y x:=by
 cases y with
 | non=>cases r;rfl
 | bl b=>cases r;rfl
 | int i=>obtain ⟨t,rfl⟩:=r;rfl
 | str z=>obtain ⟨t,rfl⟩:=r;rfl
 | _=>exact absurd (show false=true from f) cq
theorem aR {x:V}:∀ {xs:List V} {us:List af},Vals xs us->xs.all aF=true->us.any (eqU x)=xs.any λ y=>eqV y x
 | _,_,.nil,_=>rfl
 | y::xs,u::us,.cons r t,f=>by
  rw [FU,gi] at f;rw [BH,BH,kIL r f.1,aR t f.2]
theorem wJ {A:dj} {s:aj} {x:V} {v:af} (rx:RelV x v) (fx:aF x=true):∀ {xs:List V} {us:List af},Vals xs us->xs.all aF=true->∀ u∈us,Bf A s u v (eqU x u)
 | _,_,.nil,_=>λ u hu=>by cases hu
 | y::xs,u::us,.cons r t,f=>λ u' hu=>by
  rw [FU,gi] at f;rcases gu.mp hu with rfl | hu
  ·rw [kIL r f.1];exact kOI r rx f.1 fx
  ·exact wJ rx fx t f.2 u' hu
def inV (x:V) (xs:List V):Bool:=xs.any λ y=>eqV y x
inductive rIn (K:ai) (neg:Bool) (x:V) (y:V) (H:Hp) (Q:VK):Prop
 | mk:∀ p xs,(y=.ref p)->((SqL K H p xs\/SqT K H p xs))->(aF x=true)->(xs.all aF=true)->(Q (.bl (if neg then !inV x xs else inV x xs)) H)->rIn K neg x y H Q
theorem yW:OpR X (compareOp .In) (rIn X.K false):=by
 intro pins s σ H x y v u Q I rx ry h;obtain ⟨p,xs,rfl,hq,fx,fs,q⟩:=h;cases ry
 rcases hq with hq | hq
 ·obtain ⟨its,r,pl,hz⟩:=I.list hq
  refine ET (eqU x) pl.isList (λ w hw=>wJ rx fx r fs w (by simpa using hw)) ⟨.bl _,H,I,rfl,?_⟩;rw [show its.toArray.any (eqU x)=its.any (eqU x) by simp,aR r fs];exact q
 ·obtain ⟨its,r,pl,hz⟩:=I.tuple hq
  refine Dr (eqU x) pl (λ w hw=>wJ rx fx r fs w (by simpa using hw)) ⟨.bl _,H,I,rfl,?_⟩;rw [show its.toArray.any (eqU x)=its.any (eqU x) by simp,aR r fs];exact q
theorem oS:OpR X (compareOp .NotIn) (rIn X.K true):=by
 intro pins s σ H x y v u Q I rx ry h;obtain ⟨p,xs,rfl,hq,fx,fs,q⟩:=h;cases ry
 rcases hq with hq | hq
 ·obtain ⟨its,r,pl,hz⟩:=I.list hq
  refine SeqAt.notIn_listAt (eqU x) pl.isList (λ w hw=>wJ rx fx r fs w (by simpa using hw)) ⟨.bl _,H,I,rfl,?_⟩;rw [show its.toArray.any (eqU x)=its.any (eqU x) by simp,aR r fs];exact q
 ·obtain ⟨its,r,pl,hz⟩:=I.tuple hq
  refine SeqAt.notIn_tupleAt (eqU x) pl (λ w hw=>wJ rx fx r fs w (by simpa using hw)) ⟨.bl _,H,I,rfl,?_⟩;rw [show its.toArray.any (eqU x)=its.any (eqU x) by simp,aR r fs];exact q
inductive vK (K:ai) (xs:List V) (H:Hp) (Q:VK):Prop
 | mk:∀ p ys,(xs=[.ref p])->((SqL K H p ys\/SqT K H p ys))->(Q (.int ys.length) H)->vK K xs H Q
theorem qM:xB X (.builtin "len") (vK X.K):=by
 intro pins s σ H xs us Q I r h;obtain ⟨p,ys,rfl,hq,q⟩:=h;obtain ⟨u,rfl,rx⟩:=zL r;cases rx
 have hn:=bB;rcases hq with hq | hq
 ·obtain ⟨its,r',pl,hz⟩:=I.list hq
  have hlen:=r'.length;exact Calls.call_len_list pl.isList (by simp only [dq]<;>omega) ⟨.int ys.length,H,I.tok _,⟨s.toks+1,by rw [dq,hlen]⟩,q⟩
 ·obtain ⟨its,r',pl,hz⟩:=I.tuple hq
  have hlen:=r'.length;exact len_tuple pl (by simp only [dq]<;>omega) ⟨.int ys.length,H,I.tok _,⟨s.toks+1,by rw [dq,hlen]⟩,q⟩
inductive vJ (K:ai) (xs:List V) (H:Hp) (Q:VK):Prop
 | mk:∀ p ys,(xs=[.ref p])->((SqL K H p ys\/SqT K H p ys))->(∀ l,H l=none->Q (.ref l) (upd H l (.lst ys)))->vJ K xs H Q
theorem aM:xB X (.type "list") (vJ X.K):=by
 intro pins s σ H xs us Q I r h;obtain ⟨p,ys,rfl,hq,q⟩:=h;obtain ⟨u,rfl,rx⟩:=zL r;cases rx
 have fin:∀ (its:List af),Vals ys its->ys.length<=sizeLine->∀ (h':eH) (c':Nat),(∀ b o',s.heap.get? b=some o'->h'.get? b=some o') ->
   h'.get? s.heap.objs.size=some { cls:=.type "list",dict:=none,data:=.seq its.toArray c',slots:=#[] }->EP X pins σ Q (.ref s.heap.objs.size) { s with heap:=h' }:=λ its r' hz h' c' kp e =>
  ⟨.ref s.heap.objs.size,_,I.laid (t':=s.toks) kp (ba _) (show ObjOk X.prog X.w _ h' _ (.lst ys) from ⟨hz,its,c',r',e⟩),rfl,q _ (I.hok.fresh (ba _))⟩
 rcases hq with hq | hq
 ·obtain ⟨its,r',pl,hz⟩:=I.list hq
  have hlen:=r'.length;obtain ⟨o,ho,hc,n,hd⟩:=pl.isList;exact call_list_seq p (.inl rfl) ho hc hd (λ h' c' kp e=>fin its r' hz h' c' kp e) (by simp only [dq]<;>omega)
 ·obtain ⟨its,r',pl,hz⟩:=I.tuple hq
  have hlen:=r'.length;obtain ⟨o,ho,hc,n,hd⟩:=pl;exact call_list_seq p (.inr rfl) ho hc hd (λ h' c' kp e=>fin its r' hz h' c' kp e) (by simp only [dq]<;>omega)
inductive wN (K:ai) (xs:List V) (H:Hp) (Q:VK):Prop
 | mk:∀ p ys,(xs=[.ref p])->(((SqL K H p ys/\∀ l,H l=none->Q (.ref l) (upd H l (.tup ys)))\/(SqT K H p ys/\Q (.ref p) H)))->wN K xs H Q
theorem jI:xB X (.type "tuple") (wN X.K):=by
 intro pins s σ H xs us Q I r h;obtain ⟨p,ys,rfl,h⟩:=h;obtain ⟨u,rfl,rx⟩:=zL r;cases rx
 rcases h with ⟨hq,q⟩ | ⟨hq,q⟩
 ·obtain ⟨its,r',pl,hz⟩:=I.list hq
  have hlen:=r'.length;refine call_tuple_list pl.isList (λ h' kp=>?_) (by simp only [dq]<;>omega);have I1:Inv X pins σ H { s with heap:=h' }:=I.kept (t':=s.toks) kp
  have I2:Inv X pins σ (upd H h'.objs.size (.tup ys)) { s with heap:=h'.push { cls:=.type "tuple",data:=.seq its.toArray } } :=
   I1.laid (t':=s.toks) (λ b o e=>ak _ e) (ba _) (show ObjOk X.prog X.w _ _ _ (.tup ys) from ⟨hz,its,r',IsTupN.new _ _⟩)
  exact ⟨.ref h'.objs.size,_,I2,rfl,q _ (I1.hok.fresh (ba _))⟩
 ·obtain ⟨its,r',pl,hz⟩:=I.tuple hq
  exact call_tuple_same pl ⟨.ref p,H,I,rfl,q⟩
def tyV (K:ai) (T:String) (x:V) (H:Hp):Prop:=match x with
 | .str _=>T = "str"
 | .int _=>T = "int"
 | .ref p=>(T = "list"/\∃ xs,SqL K H p xs)\/(T = "tuple"/\((∃ o,K.lookup p=some o/\o.cls=.type "tuple"/\o.dict=none)\/∃ xs,H p=some (.tup xs))) \/
   (T = "dict"/\((∃ kvs,H p=some (.dK kvs))\/∃ kvs,H p=some (.dT kvs)))\/(T = "set"/\∃ S n,H p=some (.set S n))
 | _=>False
theorem kMS {pins:List (ag×Obj)} {σ:St} {H:Hp} {s:aj} {T:String} {x:V} {v:af} (I:Inv X pins σ H s) (r:RelV x v) (ty:tyV X.K T x H) :
  s.TypeIs v T/\∀ a,v=.ref a->∃ ob,s.heap.get? a=some ob/\ob.dict=none:=by
 cases x with
 | str z =>
  obtain ⟨t,rfl⟩:=r
  cases (show T = "str" from ty)
  exact ⟨typeIs_str s z t,λ _ e=>nomatch e⟩
 | int i =>
  obtain ⟨t,rfl⟩:=r
  cases (show T = "int" from ty)
  exact ⟨typeIs_int s i t,λ _ e=>nomatch e⟩
 | ref p =>
  cases r
  rcases ty with ⟨rfl,xs,hq⟩ | ⟨rfl,⟨o,hk,hc,hd⟩ | ⟨xs,hq⟩⟩ | ⟨rfl,hk⟩ | ⟨rfl,S,n,hk⟩
  ·obtain ⟨its,_,pl,_⟩:=I.list hq
   refine ⟨pl.isList.typeIs,λ a e=>?_⟩;cases e
   obtain ⟨o,n,e,c,hd,_⟩:=pl;exact ⟨o,e,hd⟩
  ·refine ⟨⟨o,I.kIn p o hk,hc⟩,λ a e=>?_⟩
   cases e
   exact ⟨o,I.kIn _ o hk,hd⟩
  ·obtain ⟨_,its,_,o,e,c,n,_,hd⟩:=(show ObjOk X.prog X.w H s.heap p (.tup xs) from I.hok p _ hq)
   refine ⟨⟨o,e,c⟩,λ a e2=>?_⟩;cases e2
   exact ⟨o,e,hd⟩
  ·have z:∃ o,s.heap.get? p=some o/\o.ExactDict:=by
    rcases hk with ⟨kvs,hk⟩ | ⟨kvs,hk⟩
    ·obtain ⟨_,_,_,_,o,_,_,e,ex,_⟩:=I.hok p _ hk
     exact ⟨o,e,ex⟩
    ·obtain ⟨_,_,_,_,o,_,_,e,ex,_⟩:=I.hok p _ hk
     exact ⟨o,e,ex⟩
   obtain ⟨o,e,ex⟩:=z;refine ⟨⟨o,e,ex.1⟩,λ a e2=>?_⟩;cases e2
   exact ⟨o,e,ex.2.1⟩
  ·obtain ⟨o,_,_,_,e,ex,_⟩:=I.hok p _ hk
   refine ⟨⟨o,e,ex.1⟩,λ a e2=>?_⟩;cases e2
   exact ⟨o,e,ex.2.1⟩
 | _=>exact iL ty
inductive kPP (K:ai) (T:String) (r:V->List V->Hp->VK->Prop) (t:TA) (σ:St) (Q:VK) (x:V) (H1:Hp):Prop
 | mk:(tyV K T x H1)->(t σ H1 λ xs H2=>r x xs H2 Q)->kPP K T r t σ Q x H1
def tBM (K:ai) (T:String) (r:V->List V->Hp->VK->Prop) (to:TE) (t:TA):TE:=λ σ H Q=>to σ H λ x H1=>kPP K T r t σ Q x H1
variable {o e:fm} {es:List fm} {to:TE} {t:TA} {name:Str} {apos cpos:Pos} {T id:String} {r:V->List V->Hp->VK->Prop}
theorem kHI (pa:PlainAttrs T) (slot:Slot T name id) (hty:typeOf (.builtin id)=pure (.type "method_descriptor")) (hm:MtR X id r) (ho:PE X o to) (ha:PA X (e::es) t)
  (hbase:attributeBase o name X.env (eval o X.env)=eval o X.env:=by rfl)
  (hfew:((backTo cpos (starEach (e::es) X.env)).all (λ x=>!x.1) && (backToKw cpos (keywordEach [] X.env)).all (λ x=>x.1.isSome)
   && decide ((e::es).length+([]:List DO).length+(if ([]:List DO).isEmpty then 0 else 1)<30))=true:=by rfl)
  (hline:(apos.endLine == cpos.line)=true:=by rfl) (hs:starEach (e::es) X.env=(false,eval e X.env)::starEach es X.env:=by rfl) (hplain:(backTo cpos (starEach es X.env)).any (·.1)=false:=by rfl) :
  PE X (.Call (.Attribute o name apos) (e::es) [] cpos) (tBM X.K T r to t):=by
 intro pins s σ H Q I h;refine Bi hbase hfew hline rfl (thn (ho pins s σ H _ I h) λ v s1 ⟨x,H1,I1,r1,ty,q1⟩=>?_);obtain ⟨h1,h2⟩:=kMS I1 r1 ty;refine ⟨T,id,pa,slot,hty,h1,h2,?_⟩;have hA:=ha cpos pins s1 σ H1 _ I1 q1;rw [hs] at hA ⊢;refine Bj (by show (false || (backTo cpos (starEach es X.env)).any (·.1))=false;rw [hplain]<;>rfl) (CJ ?_);exact thn hA λ us s2 ⟨vs,H2,I2,r2,q2⟩=>hm pins s2 σ H2 x vs v us Q I2 r1 r2 q2
end
def MtM (X:Cx) (id:String) (r:V->List V->Hp->VK->Prop):Prop :=
 ∀ (pins:List (ag×Obj)) (s:aj) (σ:St) (H:Hp) (x:V) (xs:List V) (v:af) (us:List af) (Q:VK),Inv X pins σ H s->RelV x v->Vals xs us->r x xs H Q ->
  br (model X.prog X.w) X.A (call (.builtin id) (v::us)) (EP X pins σ Q) X.xe s
theorem Vals.one:∀ {x:V} {us:List af},Vals [x] us->∃ u,us=[u]/\RelV x u
 | _,_,.cons r .nil=>⟨_,rfl,r⟩
theorem Vals.two:∀ {x y:V} {us:List af},Vals [x,y] us->∃ u v,us=[u,v]/\RelV x u/\RelV y v
 | _,_,_,.cons r (.cons q .nil)=>⟨_,_,rfl,r,q⟩
theorem Vals.reverse {xs:List V} {us:List af} (h:Vals xs us):Vals xs.reverse us.reverse:=by
 induction h with
 | nil=>exact .nil
 | cons r t ih=>rw [DP,DP];exact Vals.append ih (.cons r .nil)
section
variable {X:Cx} {pins:List (ag×Obj)} {σ:St} {H:Hp} {s:aj} {l b:ag} {xs ys zs:List V}
theorem Inv.lset {its its':List af} {n:Nat} {f:Array af->Array af} {t':Nat} (I:Inv X pins σ H s) (hH:H l=some (.lst xs))
  (e:s.heap.get? l=some { cls:=.type "list",data:=.seq its.toArray n }) (hf:f its.toArray=its'.toArray) (hv:Vals ys its') (hz:ys.length<=sizeLine) :
  Inv X pins σ (upd H l (.lst ys)) { s with heap:=s.heap.update l (qk f),toks:=t' }:=by
 have q:=PySem.IsL.update e f;rw [hf] at q;refine I.write (x:=l) (e:=l) (by rw [hH];exact trivial) (.inl rfl) (λ b' u hb hu=>(eA s.heap (qk f) (iY hb)).trans hu) ⟨_,q⟩ ?_;exact ⟨hz,its',_,hv,q⟩
theorem Inv.lnew {its:List af} {t':Nat} (I:Inv X pins σ H s) (hv:Vals ys its) (hz:ys.length<=sizeLine) :
  Inv X pins σ (upd H s.heap.objs.size (.lst ys)) { s with heap:=s.heap.push { cls:=.type "list",data:=.seq its.toArray },toks:=t' } :=
 I.laid (λ _ _ q=>ak _ q) (ba _) ⟨hz,its,0,hv,cv _ rfl⟩
theorem Inv.fresh (I:Inv X pins σ H s):H s.heap.objs.size=none:=I.hok.fresh (ba _)
theorem Inv.lstM (I:Inv X pins σ H s) (hH:H l=some (.lst xs)):xs.length<=sizeLine/\∃ (its:List af) (n:Nat),Vals xs its/\xs.length=its.length/\s.heap.get? l=some { cls:=.type "list",data:=.seq its.toArray n }:=by
 obtain ⟨z,its,n,r,e⟩:=I.hok l _ hH;exact ⟨z,its,n,r,r.length,e⟩
end
section
variable {X:Cx}
inductive kCD (x:V) (vs:List V) (H:Hp) (Q:VK):Prop
 | mk:∀ l xs y,(x=.ref l)->(vs=[y])->(H l=some (.lst xs))->(xs.length<sizeLine)->(Q .non (upd H l (.lst (xs++[y]))))->kCD x vs H Q
theorem xO:MtM X "list.append" kCD:=by
 intro pins s σ H x vs v us Q I rx rv h;obtain ⟨l,xs,y,rfl,rfl,hH,hz,q⟩:=h;cases rx
 obtain ⟨u,rfl,ru⟩:=rv.one;obtain ⟨z,its,n,r,hl,e⟩:=I.lstM hH;refine Bk F.slot_list_append ⟨_,e,rfl⟩ F.entry_list_append (F.args_list_append_2 _ _) (PySem.list_append l its.toArray n u (by rw [dq];omega)) ⟨e,?_⟩;refine ⟨.non,_,I.lset (its':=its++[u]) hH e (by simp) (r.append (.cons ru .nil)) ?_,rfl,q⟩;rw [du,jg];omega
inductive kPZ (x:V) (y:V) (H:Hp) (Q:VK):Prop
 | mk:∀ l b xs zs,(x=.ref l)->(y=.ref b)->(H l=some (.lst xs))->(H b=some (.lst zs))->(xs.length+zs.length<=sizeLine)->(∀ p,H p=none->Q (.ref p) (upd H p (.lst (xs++zs))))->kPZ x y H Q
theorem vR:OpR X (binaryOp .Add) kPZ:=by
 intro pins s σ H x y v u Q I rx ry h;obtain ⟨l,b,xs,zs,rfl,rfl,hH,hB,hz,q⟩:=h;cases rx
 cases ry
 obtain ⟨z,its,n,r,hl,e⟩:=I.lstM hH;obtain ⟨z2,its2,n2,r2,hl2,e2⟩:=I.lstM hB;refine PySem.P.add_list e e2 ?_ (by rw [dq,dq];omega);have ea:its.toArray++its2.toArray=(its++its2).toArray:=by simp
 rw [ea];exact ⟨.ref _,_,I.lnew (t':=s.toks) (r.append r2) (by rw [du];omega),rfl,q _ I.fresh⟩
end
end L2
namespace Att
open PySem PySem.W PySem.Calls PyProof.Rows
theorem cM {P:GF} {h:eH}:∀ (ns:List Int) (vs:List af),WellAll P h vs (ns.map GQ)->uj vs ns:=by
 intro ns
 induction ns with
 | nil =>
  intro vs w;rw [AL] at w;cases w
  exact .nil
 | cons n ns ih =>
  intro vs w;rw [iV] at w
  cases w with
  | cons a b =>
   cases a
   exact .cons _ _ (ih _ b)
theorem kDT {l:OpenLaw} {n:Nat} (hn:l.most=some n) {P:GF} {h:eH} {args:List WData} {vals:List af}
  (hpre:l.row.toRowW.claim.pre args=true) (hwl:WellAll P h vals args) :
  ∃ a vs ns,vals=[eD a]/\args=[WData.list (ns.map GQ)]/\h.get? a=some { cls:=.type "list",data:=.seq vs.toArray }/\uj vs ns/\ns.length<=n:=by
 have hsh:WShape.hasAll [] args [.list .int]=true:=(pre_splitW hpre).1;have hc:l.pre.holds [] { args:=args }=true:=(pre_splitW hpre).2;obtain ⟨d,r,rfl,h1,h2⟩:=hasAllW_cons hsh;obtain rfl:=hasAllW_nil h2;obtain ⟨xs,rfl,h3⟩:=hasW_list h1;obtain ⟨ns,rfl⟩:=items_int h3
 have hlen:ns.length<=n:=by
  unfold OpenLaw.pre at hc
  have h4:(WTm.not (.lt (.lit (.int (n:Int))) (.len (.arg 0)))).holds [] { args:=[.list (ns.map .int)] }=true:=by
   have h4:=(holds_andW hc).1;rw [hn] at h4;exact h4
  have h5:=condW_of h4 (w_not (w_lt w_lit (w_len_list (w_arg rfl))));rw [bg] at h5;refine Nat.le_of_not_lt λ q=>?_;have q':(n:Int)<((ns.length:Nat):Int):=by omega
  first
   | (rw [decide_eq_true q'] at h5;exact absurd h5 (by decide))
   | (simp at h5;omega)
 cases hwl with
 | cons w1 w2 =>
  cases w2
  cases w1 with
  | list ho hall=>exact ⟨_,_,ns,rfl,rfl,ho,cM ns _ hall,hlen⟩
theorem kDZ (l:OpenLaw) (args:List WData):l.row.toRowW.claim.post args (.bool true) args=true :=
 postW_of (r:=l.row.toRowW) (X:=(true == true))
  (show GG [] (.bool true) .bool=true by first | rfl | decide | simp [GG,WShape.arms,WShape.armsAll])
  (show (WTm.eq .res (.lit (.bool true))).value [] { args:=args,res:=some (.bool true),after:=args }=some (.bool (true == true)) from w_eq_bool (w_res rfl) w_lit) rfl
theorem attach_call {l:OpenLaw} {n:Nat} {q:cw} {loose:List Str} {XP:(Str->Option af)->eH->Prop} {YP:eK->eH->Prop} {d:DefRec}
  (hn:l.most=some n) (hdf:d.params.defaults=[])
  (call:∀ (w:eK) (s₀ s₁:aj) (mg mb:Str->Option af) (fa:ag) (o:Obj) (pm cd doc:af) (a:ag) (vs:List af) (ns:List Int),
   Ground q loose [] XP w s₀ mg mb s₁.heap->YP w s₁.heap ->
   s₁.heap.get? fa=some o->o.data=.func (docDef d.name d.params d.body d.scope pm cd doc)->s₁.heap.CodeRec cd d.name->mg d.name=some (.ref fa) ->
   s₁.heap.get? a=some { cls:=.type "list",data:=.seq vs.toArray }->uj vs ns->ns.length<=n->s₁.gens = #[] ->
   codeAny (model l.prog w) callerA (.call (.ref fa) ⟨[.ref a],[]⟩) (λ r s'=>r=.ok (.ret (.bool true))/\OldK s₁.heap s'.heap/\s'.os=s₁.os/\AH s'.gens) s₁) :
  WalkO q loose XP YP l.row.toRowW d [] (λ f vs=>Ef f vs):=by
 intro w s₀ s₁ mg mb G Y fa o pm cd doc dV kV ho hd hcd hD hmg hg args vals as hpre hlay hrd hwl hlo;obtain rfl:dV=.none:=Dflts.none hD hdf;obtain rfl:kV=.none:=Dflts.noKw hD;obtain ⟨a,vs,ns,rfl,rfl,hobj,hints,hlen⟩:=kDT hn hpre hwl;refine enter_call (AJ (call w s₀ s₁ mg mb fa o pm cd doc a vs ns G Y ho (fd_plain hd) hcd hmg hobj hints hlen hg) λ r s' hq=>?_);obtain ⟨rfl,h2,h3,h4⟩:=hq;exact ⟨.inl ⟨.bool true,.bool true,[],rfl,λ _=>rfl,.bool true,kDZ l _,λ _=>⟨Ay,λ _ hm=>(nomatch hm)⟩⟩,h2,h3,h4⟩
section
variable {prog:cw} {w:eK} {A:dj} {E:af->aj->Prop} {s:aj} {K:GR}
end
end Att
namespace L2
open PySem PySem.Spec PyProof.Rows
theorem lV:∀ {vs:List af} {ns:List Int},uj vs ns->Vals (ns.map V.int) vs
 | _,_,.nil=>.nil
 | _,_,.cons n t h=>.cons ⟨t,rfl⟩ (lV h)
def kOU (H:Hp):Prop:=∀ b,H b=none\/∃ o xs,H b=some (.frz o (.lst xs))
theorem kHW {P:cw} {w:eK} {K:ai} {mg mb:Str->Option af} {CX:CXT} {k:Nat} {fa a:ag} {fd:fj} {x:Str} {sp:Sp} {s₁:aj} {vs:List af} {ns:List Int}
  (KX:K.In s₁.heap) (hns:s₁.heap.Ns cu mg) (hb:s₁.heap.Ns builtinsNs mb) (hbb:∀ x:Str,x≠"__name__"->mb x=bootBuiltins x) (hlim:s₁.heap.NoLimit) (hsee:s₁.heap.NoSeer) (hg:s₁.gens = #[])
  (ha:s₁.heap.get? a=some { cls:=.type "list",data:=.seq vs.toArray }) (hi:uj vs ns) (hl:ns.length<=sizeLine) (hr:Room k callerA)
  (F:∀ base:eH,K.In base->base.Ns cu mg->FnOk P w K mg base CX k fa fd [x] sp) (hbind:∀ (s:aj) (u:af),CY s fd ⟨[u],[]⟩ [(x,u)])
  (hsp:∀ H:Hp,kOU H->SqL K H a (ns.map V.int)->sp [.ref a] H (λ v _=>v=.bl true) λ _ _ _=>False)
  (hCX:∀ H e s',CX [] H s₁ (λ _ _ _=>False) e s'->False) :
  codeAny (model P w) callerA (.call (.ref fa) ⟨[.ref a],[]⟩) (λ r s'=>r=.ok (.ret (.bool true))/\OldK s₁.heap s'.heap/\s'.os=s₁.os/\AH s'.gens) s₁:=by
 have rv:=lV hi
 have lenV:=hi.length
 have core:∀ H:Hp,kOU H->SqL K H a (ns.map V.int)->HOk P w H s₁.heap->(∀ b,H b≠none->b=a)->(H a≠none->K.lookup a=none) ->
   codeAny (model P w) callerA (.call (.ref fa) ⟨[.ref a],[]⟩) (λ r s'=>r=.ok (.ret (.bool true))/\OldK s₁.heap s'.heap/\s'.os=s₁.os/\AH s'.gens) s₁:=by
  intro H hO hS hok hA hK;have base_of:∀ {b:ag} {o:Obj},s₁.heap.get? b=some o->H b=none->(pH s₁.heap H).get? b=some o:=λ e n=>kID e n
  have noA:∀ {b:ag} {o:Obj} {es:Array DictEntry} {ep:Nat},s₁.heap.get? b=some o->o.data=.dict es ep->H b=none:=λ {b o es ep} e d=>by
   cases q:H b with
   | none=>rfl
   | some u =>
    have e':b=a:=hA b (by rw [q];simp);subst e';rw [ha] at e;cases e;have d':Data.seq vs.toArray _=Data.dict es ep:=d
    cases d'
  have nsK:∀ {b:ag} {m:Str->Option af},s₁.heap.Ns b m->(pH s₁.heap H).Ns b m:=λ {b m} ⟨o,es,ep,e,d,r⟩=>⟨o,es,ep,base_of e (noA e d),d,r⟩
  have hKb:K.In (pH s₁.heap H):=λ b o e=>base_of (KX b o e) (by
   cases q:H b with
   | none=>rfl
   | some u =>
    have e':b=a:=hA b (by rw [q];simp);subst e';rw [hK (by rw [q];simp)] at e;cases e)
  have noM:∀ {b:ag} {o:Obj},s₁.heap.get? b=some o->o.cls=.type "module"->H b=none:=λ {b o} e c=>by
   cases q:H b with
   | none=>rfl
   | some u =>
    have e':b=a:=hA b (by rw [q];simp);subst e';rw [ha] at e;cases e;simp at c
  have hM:Mod K mg (pH s₁.heap H):=⟨hKb,nsK hns,⟨mb,nsK hb,hbb⟩,let ⟨mc,h1,h2⟩:=hlim;⟨mc,nsK h1,h2⟩,⟨let ⟨mc,p,q⟩:=hsee.statics;⟨mc,nsK p,q⟩,let ⟨mc,p,q⟩:=hsee.mods;⟨mc,nsK p,q⟩,let ⟨mc,p,q⟩:=hsee.imp;⟨mc,nsK p,q⟩,let ⟨m,bm,ob,p,q,r,t,u⟩:=hsee.main;⟨m,bm,ob,nsK p,q,base_of r (noM r t),t,u⟩⟩⟩;have e0:Env0 P w K mg (pH s₁.heap H) callerA [] s₁ H:=⟨rfl,hM,λ b o e=>kKC e,DQ (kEO _ _),trivial,λ b hb=>absurd (show b∈([]:List ag) from hb) (by simp),hok,.of_eq hg⟩;refine AJ ((F _ hKb (nsK hns)).run callerA [] s₁ H ⟨[.ref a],[]⟩ [.ref a] [.ref a] _ _ hr e0 (hbind s₁ (.ref a)) (.cons rfl .nil) (hsp H hO hS)) λ r s' h=>?_
  cases r with
  | error e=>exact (hCX H e s' h).elim
  | ok fl =>
   cases fl with
   | next=>exact iL h
   | brk=>exact iL h
   | cont=>exact iL h
   | ret u =>
    obtain ⟨v,H',os,bare,un,hok',r',q⟩:=h;have q':v=.bl true:=q;subst q';obtain rfl:u=mz true:=r';refine ⟨rfl,OldK.of_keep λ b o e=>?_,os,bare⟩
    cases q:H b with
    | none=>exact un.keep b o e q (by intro z;exact absurd (show b∈([]:List ag) from z) (by simp)) (by simp)
    | some u =>
     rcases hO b with z | ⟨ob,xs,z⟩
     ·rw [q] at z;cases z
     ·have z2:=un.frzs b ob _ z
      obtain ⟨e1,_⟩:=hok b _ z;obtain ⟨e2,_⟩:=hok' b _ z2;rw [e] at e1;cases e1;exact e2
 cases hk:K.lookup a with
 | some o =>
  have e:=KX a o hk;rw [ha] at e;cases e
  refine core (λ _=>none) (λ _=>.inl rfl) (.inr ⟨_,vs.toArray,_,hk,rfl,rfl,rfl,by rw [dq,lenV];exact hl,by simpa using rv⟩) (λ b u z=>by have z':(none:Option HO)=some u:=z;cases z') (λ b z=>absurd rfl z) λ z=>absurd rfl z
 | none =>
  refine core (λ b=>if b=a then some (.frz { cls:=.type "list",data:=.seq vs.toArray } (.lst (ns.map V.int))) else none) (λ b=>?_) (.inl (.inr ⟨{ cls:=.type "list",data:=.seq vs.toArray },if_pos rfl⟩)) (λ b u z=>?_) (λ b z=>?_) λ _=>hk
  ·by_cases hb:b=a
   ·exact .inr ⟨_,_,if_pos hb⟩
   ·exact .inl (if_neg hb)
  ·by_cases hb:b=a
   ·have z':=(if_pos hb).symm.trans z
    cases z'
    subst hb;exact ⟨ha,by rw [bg];exact hl,vs,_,rv,ha⟩
   ·have z':=(if_neg hb).symm.trans z
    cases z'
  ·by_cases hb:b=a
   ·exact hb
   ·exact absurd (if_neg hb) z
theorem walk_of {l:Bs} {n k:Nat} {q:cw} {loose:List Str} {XP:(Str->Option af)->eH->Prop} {YP:eK->eH->Prop} {d:DefRec} {K:GF->ai} {CX:eK->CXT} {sp:eK->Sp} {x:Str}
  (hn:l.most=some n) (hn2:n<=sizeLine) (hdf:d.params.defaults=[]) (hr:Room k callerA)
  (hY:∀ (w:eK) (h:eH),YP w h->(K w.params).In h)
  (F:∀ (w:eK) (mg:Str->Option af) (fa:ag) (h:eH),(K w.params).In h->h.Ns cu mg->mg d.name=some (.ref fa) ->
   ∃ fd:fj,(∀ (s:aj) (u:af),CY s fd ⟨[u],[]⟩ [(x,u)]) /\
    ∀ base:eH,(K w.params).In base->base.Ns cu mg->FnOk l.prog w (K w.params) mg base (CX w) k fa fd [x] (sp w))
  (hsp:∀ (w:eK) (H:Hp) (a:ag) (ns:List Int),ns.length<=n->kOU H->SqL (K w.params) H a (ns.map V.int)->sp w [.ref a] H (λ v _=>v=.bl true) λ _ _ _=>False)
  (hCX:∀ (w:eK) (H:Hp) (s:aj) (e:af) (s':aj),CX w [] H s (λ _ _ _=>False) e s'->False) (hq:importsNone q=true:=by first | assumption | decide +kernel) :
  FV q loose XP YP l.row.toRowW d [] (λ f vs=>Ef f vs):=by
 refine Att.attach_call hn hdf λ w s₀ s₁ mg mb fa o pm cd doc a vs ns G Y ho hd hcd hmg hobj hints hlen hg=>?_;have KX:=hY w _ Y;obtain ⟨fd,hb,hF⟩:=F w mg fa _ KX G.T.g hmg;exact kHW KX G.T.g G.T.b G.T.builtins G.T.nolimit (G.T.seer hq) hg hobj hints (gk hlen hn2) hr hF hb (λ H hO hS=>hsp w H a ns hlen hO hS) λ H e s'=>hCX w H s₁ e s'
def xA (s:fq):Fd:=match s with
 | .FunctionDef _ a _ _ _ _ _ _ _ _=>a
 | _=>{ posonlyargs:=[],args:=[],vararg:=none,kwonlyargs:=[],kw_defaults:=[],kwarg:=none,defaults:=[] }
def qZ (s:fq):List fq:=match s with
 | .FunctionDef _ _ b _ _ _ _ _ _ _=>b
 | _=>[]
def kM (s:fq):qw:=match s with
 | .FunctionDef _ _ _ _ _ _ sc _ _ _=>sc
 | _=>{ kind:=.function,names:=[],isGenerator:=false,isCoroutine:=false }
abbrev CX0:CXT:=λ _ _ _ _ _ _=>False
abbrev E0:XK:=λ _ _ _=>False
theorem kLY {X:Cx}:bD CX0 X E0:=λ _ _ _ _ _ _ _ h=>h.elim
structure Fun (K:ai) (x qual:Str) (st:fq) (f:ag) (fd:fj):Prop where
 ex:∃ (oc:af) (od:Option ag) (kV doc pm:af) (an:Option ag) (cdv ct:af) (osl:Array (Option af)),
  fd=iN x qual (xA st) (qZ st) (kM st) .none kV doc pm an cdv ct/\K.lookup f=some ⟨oc,od,.func fd,osl⟩/\qz K cdv qual=true
 kp:iD K (.ref f)=true
section
variable {P:cw} {w:eK} {K:ai} {mg:Str->Option af} {base:eH}
theorem Fun.ok {x qual:Str} {st:fq} {f:ag} {fd:fj} {N ps:List Str} {k:Nat} {sp:Sp} (F:Fun K x qual st f fd) (S:FnScope N ps (kM st)) (len:∀ vs H Q E,sp vs H Q E->vs.length=ps.length)
  (hbody:∀ (cdv:af) (A:dj) (outer:List Env) (s:aj) (H:Hp) (vs:List V) (Q:VK) (E:XK),Room k (A.deeper (envOfC qual (kM st) s.heap.objs.size f cdv))->sp vs H Q E ->
   ∃ t,PSs (qE CX0 P w K mg base N qual (kM st) f cdv A outer s H E).nox (qZ st) t/\t { nx:=λ _ H'=>Q .non H',rt:=Q } (start N vs) H):FnOk P w K mg base CX0 (k+1) f fd ps sp:=by
 obtain ⟨oc,od,kV,doc,pm,an,cdv,ct,osl,rfl,lk,hcd⟩:=F.ex;refine kMG lk hcd S len λ A outer s H vs Q E hr hsp=>?_;obtain ⟨t,h,q⟩:=hbody cdv A outer s H vs Q E hr hsp;exact ⟨t,h.nox,q⟩
theorem Fun.binds {x qual:Str} {st:fq} {f:ag} {fd:fj} {ps:List Str} (F:Fun K x qual st f fd)
  (h:∀ (kV doc pm:af) (an:Option ag) (cdv ct:af) (us:List af),us.length=ps.length->bindArgs (iN x qual (xA st) (qZ st) (kM st) .none kV doc pm an cdv ct) ⟨us,[]⟩=pure (ps.zip us)):Binds K fd ps []:=by
 obtain ⟨oc,od,kV,doc,pm,an,cdv,ct,osl,rfl,lk,hcd⟩:=F.ex;exact .all (h kV doc pm an cdv ct)
theorem kAV {x qual:Str} {st:fq} {f:ag} {oc:af} {od an:Option ag} {osl:Array (Option af)} {kV doc pm cdv ct:af} (l:K.lookup f=some ⟨oc,od,.func (iN x qual (xA st) (qZ st) (kM st) .none kV doc pm an cdv ct),osl⟩)
  (c:qz K cdv qual=true) (k:iD K (.ref f)=true):Fun K x qual st f (iN x qual (xA st) (qZ st) (kM st) .none kV doc pm an cdv ct):=⟨⟨oc,od,kV,doc,pm,an,cdv,ct,osl,rfl,l,c⟩,k⟩
end
theorem qR {n:Nat} (h:n<=1000):n<sizeLine:=cj h (by decide)
section
variable {X:Cx}
theorem pv (i:Nat) {x:Str} {pos:Pos} (hN:X.N[i]?=some x:=by rfl) (hv:Vis X.env.scope x:=by first | exact Ds rfl | exact Eg (Ds rfl) | exact Eg (Eg rfl)) (hd:(x == ("__debug__" : Str))=false:=by decide)
  (hcd:(x == ("__classdict__" : Str))=false:=by decide):PE X (.Name x pos) (tS i):=kNJ hN hv hd hcd
end
theorem zQ {A B:Prop} (h:B):if false=true then A else B:=by
 rw [if_neg cq];exact h
theorem wL {A B:Prop} (h:A):if true=true then A else B:=by
 rw [if_pos rfl];exact h
theorem jC {c A B:Prop} [Decidable c] (h1:c->A) (h2:¬ c->B):if c then A else B:=by
 by_cases h:c
 ·rw [if_pos h]
  exact h1 h
 ·rw [if_neg h]
  exact h2 h
def Same (H H':Hp):Prop:=∀ b o,H b=some o->H' b=some o
theorem Same.trans {H H1 H2:Hp} (a:Same H H1) (b:Same H1 H2):Same H H2:=λ c o h=>b c o (a c o h)
theorem Same.free {H H':Hp} (e:Same H H') {l:ag} (h:H' l=wu):H l=wu:=by
 cases q:H l with
 | none=>rfl
 | some o =>
  rw [e l o q] at h;cases h
end L2
namespace Own
open PySem PySem.Spec PyProof.Rows L2
def Has (P:cw) (w:eK) (K:ai) (mg:Str->Option af) (base:eH) (x:Str) (ps:List Str) (k:Nat) (sp:Sp):Prop :=
 ∃ (f:ag) (fd:fj),FnOk P w K mg base CX0 k f fd ps sp/\Binds K fd ps []/\iD K (.ref f)=true/\mg x=some (.ref f)
section
variable {X:Cx} {k:Nat} {ps:List Str} {sp:Sp} {x:Str} {p pos:Pos} {e:fm} {es:List fm} {t:TA}
theorem pe_has (h:Has X.prog X.w X.K X.mg X.base x ps k sp) (hr:Room k X.A) (hg:Gl X x)
  (ha:PA X (e::es) t) (hdb:(x == ("__debug__" : Str))=false:=by decide) (he:starEach (e::es) X.env=(false,eval e X.env)::starEach es X.env:=by rfl) (hpl:(backTo pos (starEach es X.env)).any (·.1)=false:=by rfl) :
  PE X (.Call (.Name x p) (e::es) [] pos) (dD sp [] E0 t):=by
 obtain ⟨f,fd,F,b,kp,m⟩:=h;exact oQ F hr hg m kp b .nil kLY ha hdb he hpl
end
def kRF (i j:Int):Prop:=i.natAbs<2 ^ 9000/\j.natAbs<2 ^ 9000
def tJ (i j:Int):Prop:=j≠0/\j.natAbs<2 ^ 9000
theorem kDB {i:Int} (h:i.natAbs<2 ^ 9000):GE i<=2 ^ 20 :=
 gk (intBits_le h) (by decide)
section
variable {X:Cx}
theorem op_mulW:OpR X (binaryOp .Mult) (rI kRF λ i j=>.int (i*j)):=opI λ _ _ _ _ _ _ _ hc q=>mul_int q (IntMulOk.of_bits (kDB hc.1) (kDB hc.2))
theorem log2_lt {n:Nat} (h:n<2 ^ 9000):n.log2<9000:=by
 by_cases h0:n=0
 ·subst h0;decide
 ·exact (Nat.log2_lt h0).mpr h
theorem op_fdivW:OpR X (binaryOp .FloorDiv) (rI tJ λ i j=>.int (i.fdiv j)):=opI λ _ _ _ _ _ _ _ hc q=>floordiv_int hc.1 q (.inl (BI (log2_lt hc.2)))
inductive nK (K:ai) (xs:List V) (H:Hp) (Q:VK):Prop
 | mk:∀ x t T b,(xs=[x,.ty T])->(bC K H x t)->(ir K t (.type T)=some b)->(Q (.bl b) H)->nK K xs H Q
theorem call_isi:xB X (.builtin "isinstance") (nK X.K):=by
 intro pins s σ H xs us Q I r h;obtain ⟨x,t,T,b,rfl,ty,e,q⟩:=h;obtain ⟨u,w',rfl,r1,r2⟩:=rE r;cases r2
 exact kEN I r1 ty e λ tk=>⟨.bl b,H,I.tok _,rfl,q⟩
end
end Own
namespace L2
open PySem
def qH (K:ai) (n:Str) (st:fq):Prop:=∃ (f:ag) (fd:fj),eB K cu n=some (some (.ref f))/\Fun K n n st f fd
theorem df_mk {K:ai} {n:Str} {st:fq} {f:ag} {oc:af} {od an:Option ag} {osl:Array (Option af)} {kV doc pm cdv ct:af} (a:eB K cu n=some (some (.ref f))) (l:K.lookup f=some ⟨oc,od,.func (iN n n (xA st) (qZ st) (kM st) .none kV doc pm an cdv ct),osl⟩) (c:qz K cdv n=true) (k:iD K (.ref f)=true):qH K n st:=⟨f,_,a,kAV l c k⟩
theorem kOE {P:cw} {w:eK} {K:ai} {mg:Str->Option af} {h base:eH} (X:K.In h) (G:h.Ns cu mg) {n:Str} {st:fq} {ps:List Str} {lv:Nat} {sp:Sp} (d:qH K n st)
  (ok:∀ (f:ag) (fd:fj),Fun K n n st f fd->FnOk P w K mg base CX0 lv f fd ps sp) (b:∀ (kV doc pm:af) (an:Option ag) (cdv ct:af) (us:List af),us.length=ps.length->bindArgs (iN n n (xA st) (qZ st) (kM st) .none kV doc pm an cdv ct) ⟨us,[]⟩=pure (ps.zip us)):Own.Has P w K mg base n ps lv sp:=by
 obtain ⟨f,fd,a,F⟩:=d;exact ⟨f,fd,ok f fd F,F.binds b,F.kp,jj X G a⟩
end L2
namespace L2
open PySem PySem.Spec PyProof.Rows
theorem kQL {P:cw} {w:eK} {k:Key} {u:af} (r:RelV (kV k) u):(qL P w).is k u=true:=by
 cases k with
 | inl i=>obtain ⟨t,e⟩:=(show ∃ t,u=mq i t from r);subst e;exact sQ P w i t
 | inr x=>obtain ⟨t,e⟩:=(show ∃ t,u=CW x t from r);subst e;exact sP P w x t
theorem mV {P:cw} {w:eK}:∀ {ks:List Key} {us:List af},Vals (ks.map kV) us->ItemsAre (qL P w) ks us
 | [],_,r=>by rw [AL] at r;cases r;exact .nil
 | k::ks,_,r=>by
  rw [iV] at r
  cases r with
  | cons h t=>exact .cons (kQL h) (mV t)
section
variable {P:cw} {w:eK} {H:Hp} {h:eH} {a:ag}
theorem kNZ {ks:List Key} (ok:HOk P w H h) (e:H a=some (.tup (ks.map kV))):(tupleKind (qL P w)).is h ks a:=by
 obtain ⟨_,its,r,o,h1,h2,n,h3,_⟩:=(show ObjOk P w H h a (.tup (ks.map kV)) from ok a _ e);exact ⟨o,its.toArray,n,h1,h2,h3,by simpa using mV r⟩
end
section
variable {X:Cx} {pins:List (ag×Obj)} {σ:St} {H:Hp} {s:aj} {a:ag} {y v:V} {u r:af} {o:Option V} {A:dj} {E:af->aj->Prop}
theorem Inv.big (I:Inv X pins σ H s):sysModules<s.heap.objs.size:=by
 have h:cu<s.heap.objs.size:=(I.mod.glob.keeps I.bk).lt;exact md (by decide) h
theorem kKV {h':eH} {t':Nat} {ob:HO} (I:Inv X pins σ H s) (mu:Mut (H a)) (hs:lz a s.heap h') (he:∃ q,h'.get? a=some q) (new:ObjOk X.prog X.w (upd H a ob) h' a ob) :
  Inv X pins σ (upd H a ob) { s with heap:=h',toks:=t' } :=
 I.write (x:=a) (e:=a) mu (.inl rfl) (λ b q hb z=>(hs.2 b hb).trans z) he new
end
end L2
set_option maxHeartbeats 4000000
namespace L2
open PySem PySem.Spec PyProof.Rows
abbrev TB:=(St->Hp->Prop)->St->Hp->Prop
def PBd (X:Cx) (code:Sem Unit) (b:TB):Prop :=
 ∀ (pins:List (ag×Obj)) (s:aj) (σ:St) (H:Hp) (N:St->Hp->Prop),Inv X pins σ H s->b N σ H ->
  br (model X.prog X.w) X.A code (λ _ s'=>∃ σ' H',Inv X pins σ' H' s'/\N σ' H') X.xe s
def PTl (X:Cx) (tail:Sem uc) (L:GS) (b:TB):Prop :=
 ∀ (pins:List (ag×Obj)) (s:aj) (σ:St) (H:Hp) (N:St->Hp->Prop),Inv X pins σ H s->b N σ H ->
  br (model X.prog X.w) X.A tail (λ fin s'=>fin=.again L/\∃ σ' H',Inv X pins σ' H' s'/\N σ' H') X.xe s
def yK (ifs:List fm) (env:Env) (body:Sem Unit) (L:GS):Sem uc :=
 (forIn ifs true λ c r=>if r=true then do let ok <-isTrue c env (eval c env);pure (gj ok) else pure (gj r)) >>= λ ok=>if ok=true then body >>= λ _=>again L else again L
def uD (J:It) (g:TG) (b:TB) (N0:St->Hp->Prop) (σ:St) (H:Hp):Prop :=
 ∃ W:Nat->Nat->St->Hp->Prop,(∃ m,W 0 m σ H)/\∀ i m σ H,W i m σ H ->
  (J.stop i H/\N0 σ H)\/(J.go i H/\∃ N:St->Hp->Prop,(∀ σ' H',N σ' H'->∃ m',m'<m/\W (i+1) m' σ' H')/\∀ x H',J.yld i H x H'->g x σ H' λ σ2 H2=>b N σ2 H2)
section
variable {X:Cx} {e tg:fm} {gens:List BJ} {sc:qw} {cpos:Pos} {d:Nat} {it:ag} {acc:af} {tail:Sem uc} {p:Pos} {g:TG} {b:TB} {J:It} {fp:List ag} {tn:Nat->eH->Prop} {N0:St->Hp->Prop} {R:Do->aj->Prop}
theorem wW (he:(∃ el,e=.ListComp el gens sc cpos)\/∃ k v,e=.DictComp k v gens sc cpos) (hx:X.xe=λ _ _=>False) (hc:X.calm=true)
  (ht:compTurn e d (.ref it) acc X.env=(standAt p >>= λ _=>pyNext (.ref it) >>= λ r=>match r with
   | none=>pure (.done .next)
   | some v=>letOwnedTupleGo tg (.ref it) v >>= λ _=>assign tg X.env v >>= λ _=>tail))
  (T:Turn X.prog X.w X.K tg J fp it tn) (hg:PG X tg g) (hb:PTl X tail (.compLoop e d (.ref it) acc X.env) b) {pins:List (ag×Obj)} {σ:St} {H:Hp} {s:aj}
  (I:Inv X pins σ H s) (st:tn 0 s.heap) (f2:∀ b∈fp,zS X pins H b) (hw:uD J g b N0 σ H)
  (hR:∀ σ' H' s',Inv X pins σ' H' s'->N0 σ' H'->R (.ok .next) s') :
  codeAny (model X.prog X.w) X.A (.compLoop e d (.ref it) acc X.env) R s:=by
 obtain ⟨W,⟨m0,w0⟩,turn⟩:=hw;have stat:∀ {H':Hp},(∀ b∈fp,H' b=none)->∀ b∈fp,zS X pins H' b:=λ hn b hb=>⟨hn b hb,(f2 b hb).2⟩;refine codeAny_loop rfl (λ n s'=>∃ i σ' H',Inv X pins σ' H' s'/\tn i s'.heap/\(∀ b∈fp,H' b=none)/\W i n σ' H') ?_ m0 ⟨0,σ,H,I,st,λ b hb=>(f2 b hb).1,w0⟩;rintro n s3 ⟨i,σ3,H3,I3,st3,fr3,w3⟩
 have hden:(model X.prog X.w).den (.compLoop e d (.ref it) acc X.env)=((compTurn e d (.ref it) acc X.env).onRaise (λ x=>do noteFrame x X.env;theTreesLotGoes x))/\X.A.under (.compLoop e d (.ref it) acc X.env)=X.A:=by
  rcases he with ⟨el,rfl⟩ | ⟨k,v,rfl⟩<;>exact ⟨rfl,rfl⟩
 rw [hden.1,hden.2];show br _ _ ((compTurn e d (.ref it) acc X.env).onRaise (λ x=>do noteFrame x X.env;theTreesLotGoes x)) _ _ s3;refine wpAny_noted ?_;rw [ht]
 have no:∀ {α:Type} {t:Sem α} {Q:α->aj->Prop} {E:af->aj->Prop} {s:aj},br (model X.prog X.w) X.A t Q X.xe s->br (model X.prog X.w) X.A t Q E s :=
  λ h=>jc h (λ _ _ q=>q) λ _ _ q=>by rw [hx] at q;exact q.elim
 refine aa (mh (aa ?_));rcases turn i n σ3 H3 w3 with ⟨stop,qn⟩ | ⟨go,N,hN,step⟩
 ·refine no (thn (T.done X rfl rfl rfl hc i pins s3 σ3 H3 X.xe I3 (stat fr3) st3 stop) λ r s4 ⟨hr,I4⟩=>?_)
  subst hr;exact aq (hR _ _ _ I4 qn)
 ·refine no (thn (T.item X rfl rfl rfl hc i pins s3 σ3 H3 X.xe I3 (stat fr3) st3 go) λ r s4 ⟨u,hr,h4⟩=>?_)
  subst hr;refine aa (no (thn h4 λ _ s5 ⟨x,H5,I5,r5,y5,st5,fr5⟩=>?_));have I5':=I5.pinned (stat fr5) (T.obj _ _ st5);refine aa (no (thn (hg _ s5 σ3 H5 x u _ I5' r5 (step x H5 y5)) λ _ s6 ⟨σ6,H6,I6,q6⟩=>?_));refine no (thn (hb _ s6 σ6 H6 _ I6 q6) λ fin s7 ⟨hf,σ7,H7,I7,n7⟩=>?_);subst hf;obtain ⟨m',hm,w7⟩:=hN σ7 H7 n7;refine ⟨rfl,m',hm,i+1,σ7,H7,I7.unpinned,T.keep _ _ _ st5 λ b hb o e=>(I7.pin (b,o) (eg _ (eg _ (zF hb e)))).1,λ b hb=>?_,w7⟩;obtain ⟨o,e,d⟩:=T.obj _ _ st5 b hb;exact (I7.pin (b,o) (eg _ (eg _ (zF hb e)))).2.1
end
def bIf (t:TT) (b:TB):TB:=λ N σ H=>t σ H λ c H1=>if c=true then b N σ H1 else N σ H1
theorem jW {X:Cx} {body:Sem Unit} {L:GS} {b:TB} (hb:PBd X body b):PTl X (yK [] X.env body L) L b:=by
 intro pins s σ H N I h;unfold yK;refine aa (EU ?_);show br _ _ (body >>= λ _=>again L) _ _ s;exact aa (thn (hb pins s σ H N I h) λ _ s' q=>aq ⟨rfl,q⟩)
theorem xT {X:Cx} {c:fm} {t:TT} {body:Sem Unit} {L:GS} {b:TB} (hc:PT X c t) (hb:PBd X body b):PTl X (yK [c] X.env body L) L (bIf t b):=by
 intro pins s σ H N I h;unfold yK;refine aa (wpAny_tests_one (thn (hc pins s σ H _ I h) λ ok s1 ⟨H1,I1,q⟩=>?_))
 cases ok with
 | true=>exact aa (thn (hb pins s1 σ H1 N I1 (by simpa using q)) λ _ s' q=>aq ⟨rfl,q⟩)
 | false=>exact aq ⟨rfl,σ,H1,I1,by simpa using q⟩
def kOQ (D:ag) (te:TE):TB:=λ N σ H=>te σ H λ x H1=>∃ xs,H1 D=some (.lst xs)/\xs.length<sizeLine/\N σ (upd H1 D (.lst (xs++[x])))
theorem jN {X:Cx} {el:fm} {te:TE} {D:ag} (he:PE X el te):PBd X (do let _ <-call (.builtin "list.append") [.ref D,<-eval el X.env]) (kOQ D te):=by
 intro pins s σ H N I h;refine aa (thn (he pins s σ H _ I h) λ u s1 ⟨x,H1,I1,r,xs,hD,hz,q⟩=>?_);refine aa (thn (xO pins s1 σ H1 (.ref D) [x] (.ref D) [u] (λ _ H2=>N σ H2) I1 rfl (.cons r .nil) ⟨D,xs,x,rfl,rfl,hD,hz,q⟩) λ _ s2 ⟨_,H2,I2,_,q2⟩=>?_);exact aq ⟨σ,H2,I2,q2⟩
theorem kBE (el tg iter:fm) (ifs:List fm) (sc:qw) (pos:Pos) (it acc:af) (env:Env) :
  compTurn (.ListComp el [⟨tg,iter,ifs,0⟩] sc pos) 0 it acc env=(standAt iter.pos >>= λ _=>pyNext it >>= λ r=>match r with
   | none=>pure (.done .next)
   | some v=>letOwnedTupleGo tg it v >>= λ _=>assign tg env v >>= λ _=>yK ifs env (do let _ <-call (.builtin "list.append") [acc,<-eval el env]) (.compLoop (.ListComp el [⟨tg,iter,ifs,0⟩] sc pos) 0 it acc env)):=by rfl
def kFM (ifs:List fm) (env:Env) (iter2:fm) (next:af->GS) (L:GS):Sem uc :=
 (forIn ifs true λ c r=>if r=true then do let ok <-isTrue c env (eval c env);pure (gj ok) else pure (gj r)) >>= λ ok=>if ok=true then
  (eval iter2 env >>= λ x=>standAt iter2.pos >>= λ _=>foldedSetIterable iter2 env x >>= λ x=>holding [x] (pyIter x) >>= λ i=>runOwn (next i) env >>= λ _=>again L) else again L
theorem kFJ (el tg iter tg2 iter2:fm) (ifs ifs2:List fm) (sc:qw) (pos:Pos) (it acc:af) (env:Env) :
  compTurn (.ListComp el [⟨tg,iter,ifs,0⟩,⟨tg2,iter2,ifs2,0⟩] sc pos) 0 it acc env=(standAt iter.pos >>= λ _=>pyNext it >>= λ r=>match r with
   | none=>pure (.done .next)
   | some v=>letOwnedTupleGo tg it v >>= λ _=>assign tg env v >>= λ _=>kFM ifs env iter2 (λ i=>.compStart (.ListComp el [⟨tg,iter,ifs,0⟩,⟨tg2,iter2,ifs2,0⟩] sc pos) 1 i acc env) (.compLoop (.ListComp el [⟨tg,iter,ifs,0⟩,⟨tg2,iter2,ifs2,0⟩] sc pos) 0 it acc env)):=by rfl
theorem kFI (el tg iter tg2 iter2:fm) (ifs ifs2:List fm) (sc:qw) (pos:Pos) (it acc:af) (env:Env) :
  compTurn (.ListComp el [⟨tg,iter,ifs,0⟩,⟨tg2,iter2,ifs2,0⟩] sc pos) 1 it acc env=(standAt iter2.pos >>= λ _=>pyNext it >>= λ r=>match r with
   | none=>pure (.done .next)
   | some v=>letOwnedTupleGo tg2 it v >>= λ _=>assign tg2 env v >>= λ _=>yK ifs2 env (do let _ <-call (.builtin "list.append") [acc,<-eval el env]) (.compLoop (.ListComp el [⟨tg,iter,ifs,0⟩,⟨tg2,iter2,ifs2,0⟩] sc pos) 1 it acc env)):=by rfl
def zI (env:Env) (cs:List (Str×ag)) (y:Str×ng):List (Str×ag) :=
 if (y.2 == .free)=true then (match env.cells.lookup y.1 with | some c=>(y.1,c)::cs | none=>cs) else cs
def lR (sc:qw) (env:Env):List (Str×ag):=sc.names.foldl (zI env) []
def pP (env:Env) (x:Str×ng) (r:List (Str×ag)):Sem (ForInStep (List (Str×ag))) :=
 match x with | (name,kind)=>if (kind == .free)=true then (do let a <-cellOf env name;pure (gj ((name,a)::r))) else pure (gj r)
theorem kEV {env:Env} {y:Str×ng} {cs:List (Str×ag)} (h:y.2=.free->∃ c,env.cells.lookup y.1=some c):pP env y cs=pure (gj (zI env cs y)):=by
 obtain ⟨n,k⟩:=y;unfold pP zI
 cases hk:k == BK with
 | false=>simp [hk]
 | true =>
  obtain ⟨c,hc⟩:=h (by simpa using hk);have hc':EK n env.cells=some c:=hc;simp only [hk,if_true,cellOf,hc',pure_bind]
theorem gS {env:Env}:∀ (l:List (Str×ng)) (cs:List (Str×ag)),(∀ y∈l,y.2=.free->∃ c,env.cells.lookup y.1=some c) ->
  (forIn l cs (pP env):Sem (List (Str×ag)))=pure (l.foldl (zI env) cs)
 | [],cs,_=>rfl
 | y::r,cs,h=>by
  rw [List.forIn_cons,kEV (h y fe),pure_bind,wd];exact gS r _ λ y hy=>h y (eY _ hy)
theorem vX {sc:qw} {env:Env} (h:∀ y∈sc.names,y.2=.free->∃ c,env.cells.lookup y.1=some c):closureFor sc env=pure (lR sc env):=by
 have q:=gS (env:=env) sc.names [] h;have z:closureFor sc env=(forIn sc.names [] (pP env) >>= λ r=>pure r):=rfl;rw [z,q]
 rfl
theorem nH {env:Env} {x:Str} {c:ag}:∀ (l:List (Str×ng)) (cs:List (Str×ag)),(cs.lookup x=some c->env.cells.lookup x=some c)->(l.foldl (zI env) cs).lookup x=some c->env.cells.lookup x=some c
 | [],cs,h,e=>h e
 | (n,k)::r,cs,h,e=>by
  rw [wd] at e;refine nH r _ (λ z=>?_) e;unfold zI at z
  split at z
  ·split at z
   ·rename_i c' hc
    rw [ym] at z
    split at z
    ·rename_i hx
     have:x=n:=by simpa using hx
     subst this;cases z
     exact hc
    ·exact h z
   ·exact h z
  ·exact h z
theorem kAZ {env:Env} {x:Str}:∀ (l:List (Str×ng)) (cs:List (Str×ag)),(∃ c,env.cells.lookup x=some c)->((∃ c,cs.lookup x=some c)\/(x,BK)∈l)->∃ c,(l.foldl (zI env) cs).lookup x=some c
 | [],cs,_,h=>h.elim id (λ z=>nomatch z)
 | (n,k)::r,cs,he,h=>by
  rw [wd];refine kAZ r _ he ?_;rcases h with ⟨c,h⟩ | h
  ·left
   unfold zI
   split
   ·split
    ·rename_i c' hc
     rw [ym]
     split
     ·exact ⟨_,rfl⟩
     ·exact ⟨c,h⟩
    ·exact ⟨c,h⟩
   ·exact ⟨c,h⟩
  ·rcases gu.mp h with z | z
   ·cases z
    obtain ⟨c,hc⟩:=he
    left
    refine ⟨c,?_⟩;unfold zI;simp [hc]
   ·exact .inr z
structure CS (sc S0:qw):Prop where
 kind:sc.kind=.function
 names:∀ y∈sc.names,y.2=.local->sc.names.lookup y.1=some .local
 nocell:∀ y∈sc.names,y.2≠.cell
 free:∀ y∈sc.names,y.2=.free->S0.names.lookup y.1=some .cell
def xS (env:Env) (y:Str×ng):Str×ng:=if (y.2 == .free && env.scope.kind == .function && env.kindOf y.1 == some .cell)=true then (y.1,.cell) else (y.1,y.2)
theorem kAD (env:Env) (y:Str×ng):(xS env y).1=y.1:=by
 unfold xS
 split<;>rfl
theorem fE {env:Env} {x:Str}:∀ (l:List (Str×ng)),(l.map (xS env)).lookup x=(l.lookup x).map λ k=>(xS env (x,k)).2
 | []=>rfl
 | (n,k)::r=>by
  rw [iV];have e:xS env (n,k)=(n,(xS env (n,k)).2):=Ec (kAD env (n,k)) rfl;rw [e,ym,ym]
  cases hx:x == n with
  | true =>
   have:x=n:=by simpa using hx
   subst this
   rfl
  | false=>exact fE r
def cxC (X:Cx) (Nc:List Str) (sc:qw) (C:ag) (s₂:aj) (H₂:Hp) (fp:List ag) (pins:List (ag×Obj)):Cx :=
 { X with N:=Nc,s₀:=s₂,H₀:=H₂,env:=compEnvC sc (lR sc X.env) C X.env,outer:=X.stack,ex:=fp,fn:=λ _=>false,pn:=X.pn++pins }
def pO (js:List (Option Nat)) (σ:St):St:=js.map λ o=>o.bind λ j=>(σ[j]?).join
def nI (js:List (Option Nat)) (Nc N:List Str) (names:List (Str×ng)):Bool :=
 decide (js.length=Nc.length) && (js.zip Nc).all λ (o,x)=>match o with | none=>true | some j=>decide (N[j]?=some x) && decide (names.lookup x=some .free)
theorem kOM {js:List (Option Nat)} {Nc N:List Str} {names:List (Str×ng)} (h:nI js Nc N names=true):js.length=Nc.length/\∀ (i j:Nat) (x:Str),js[i]?=some (some j)->Nc[i]?=some x->N[j]?=some x/\names.lookup x=some .free:=by
 unfold nI at h;rw [gi] at h;refine ⟨of_decide_eq_true h.1,λ i j x e1 e2=>?_⟩
 have z:(js.zip Nc)[i]?=some (some j,x):=by
  rw [List.getElem?_zip_eq_some];exact ⟨e1,e2⟩
 have q:=BW.mp h.2 _ (eJ z);dsimp only at q;rw [gi] at q;exact ⟨of_decide_eq_true q.1,of_decide_eq_true q.2⟩
section
variable {X:Cx} {pins:List (ag×Obj)} {σ:St} {H:Hp} {s:aj} {sc:qw} {Nc:List Str} {js:List (Option Nat)} {fp:List ag}
theorem kKB (I:Inv X pins σ H s) (S:CS sc X.env.scope) (f:∀ b∈fp,zS X pins H b) (hlt:∀ b∈fp,b<s.heap.objs.size) {C:ag} (hC:s.heap.objs.size<=C):(cxC X Nc sc C s H fp pins).Ok:=by
 have inX:∀ x c,(lR sc X.env).lookup x=some c->X.env.cells.lookup x=some c:=λ x c e=>nH sc.names [] (λ z=>nomatch z) e;refine ⟨I.ok.mod,S.kind,I.ok.glob,I.ok.blt,hC,λ x y c e1 e2=>I.ok.inj x y c (inX x c e1) (inX y c e2),λ x hx=>?_,λ x c z=>(nomatch z),I.ok.hd,I.ok.frames,.inl rfl,λ b hb=>⟨?_,λ x c e=>(f b hb).2.2.2.2.1 x c (inX x c e)⟩,I.bs,gk I.ok.bsz I.sz,λ b o e hb=>?_,λ b hb hs=>?_,I.stack,I.stkFree⟩
 ·have hx':(sc.names.map (xS X.env)).lookup x=some .cell\/(sc.names.map (xS X.env)).lookup x=some .free:=hx
  rw [fE] at hx'
  cases e:sc.names.lookup x with
  | none=>rw [e] at hx';rcases hx' with z | z<;>cases z
  | some k =>
   rw [e] at hx';have m:(x,k)∈sc.names:=iX e
   have kf:k=.free:=by
    have nk:=S.nocell _ m;unfold xS at hx';by_cases hk:(k == BK)=true
    ·simpa using hk
    ·have hk':(k == BK)=false:=by simpa using hk
     simp only [hk',kh,zo] at hx';rcases hx' with z | z
     ·exact absurd (by simpa using z) nk
     ·simpa using z
   subst kf;have hx2:=S.free _ m rfl;obtain ⟨c,hc⟩:=I.ok.has x (.inl hx2);exact kAZ sc.names [] ⟨c,hc⟩ (.inr m)
 ·exact dh (be (hlt b hb) hC)
 ·obtain ⟨h0,h1,h2,h3,h4,h5⟩:=f b hb
  rcases h3 with z | z
  ·exact I.ok.noex b o e z
  ·exact absurd (be (bf (I.ok.bs b o e).1) z) (iQ _)
 ·obtain ⟨h0,h1,h2,h3,h4,h5⟩:=f b hb
  rcases gu.mp (I.stkSub b hs) with z | z
  ·exact h1 z
  ·exact h2 z
theorem gJ (I:Inv X pins σ H s) (S:CS sc X.env.scope) (f:∀ b∈fp,zS X pins H b) (hlt:∀ b∈fp,b<s.heap.objs.size) (cap:nI js Nc X.N sc.names=true) {C D:ag} {o:HO} {h₁:eH} {m:Str->Option af} {tk:Nat}
  (hC:s.heap.objs.size<=C) (hD:s.heap.objs.size<=D) (hDC:D≠C) (hk:∀ b ob,s.heap.get? b=some ob->h₁.get? b=some ob) (hns:h₁.Ns C m) (new:ObjOk X.prog X.w (upd H D o) h₁ D o) :
  Inv (cxC X Nc sc C s H fp pins) [] (pO js σ) (upd H D o) { s with heap:=h₁,toks:=tk }:=by
 have inX:∀ x c,(lR sc X.env).lookup x=some c->X.env.cells.lookup x=some c:=λ x c e=>nH sc.names [] (λ z=>nomatch z) e;have fresh:∀ a,s.heap.objs.size<=a->H a=none:=λ a ha=>I.hok.fresh ha;obtain ⟨cl,cp⟩:=kOM cap;refine ⟨kKB I S f hlt hC,rfl,I.bare,Un.laid hk hD (fresh D hD),⟨m,hns,λ i x v e1 e2 e3=>?_⟩,λ x c e=>?_,?_,λ x c e=>?_,λ p hp=>?_,I.hok.laid hk hD new,?_⟩
 ·-- a name of the frame's
  unfold pO at e2;rw [bq] at e2
  cases ej:js[i]? with
  | none=>rw [ej] at e2;cases e2
  | some oj =>
   rw [ej] at e2
   cases oj with
   | none=>cases e2
   | some j =>
    obtain ⟨hN,hfree⟩:=cp i j x ej e1
    have hv:σ[j]?=some (some v):=by
     simp only [zo,Du,GM] at e2
     cases e:σ[j]? with
     | none=>rw [e] at e2;cases e2
     | some w=>rw [e] at e2;exact congrArg some e2
    have kc:X.env.kindOf x=some .cell:=S.free _ (iX hfree) rfl;obtain ⟨m',hn',hl⟩:=I.loc;obtain ⟨u,r,lk⟩:=hl j x v hN hv (.inr (.inl kc));refine ⟨u,r,.inr ⟨.inl ?_,?_⟩⟩
    ·show (sc.names.map (xS X.env)).lookup x=some .cell
     rw [fE,hfree];unfold xS;simp [I.ok.kind,kc]
    ·rcases lk with ⟨z,_⟩ | ⟨_,c,hc,ic⟩
     ·rw [kc] at z;cases z
     ·obtain ⟨c',hc'⟩:=kAZ sc.names [] ⟨c,hc⟩ (.inr (iX hfree))
      have:c'=c:=eO ((inX x c' hc').symm.trans hc);subst this;exact ⟨c',hc',ic.keeps hk⟩
 ·obtain ⟨v,ic⟩:=I.cell x c (inX x c e)
  exact ⟨v,ic.keeps hk⟩
 ·show upd H D o C=none
  rw [kN hDC.symm];exact fresh C hC
 ·have q:=inX x c e
  obtain ⟨v,ic⟩:=I.cell x c q;show upd H D o c=none;rw [kN (dh (be ic.lt hD))];exact I.freeC x c q
 ·have hp':p∈X.pn++pins:=by
   rcases gf.mp hp with z | z
   ·exact z
   ·exact absurd z (by simp)
  obtain ⟨a1,a2,a3,a4,a5⟩:=I.pin p hp';have lt:=bf a1;refine ⟨hk _ _ a1,?_,dh (be lt hC),λ z=>?_,a5⟩
  ·rw [kN (dh (be lt hD))]
   exact a2
  ·rcases gu.mp (I.stkSub _ z) with z | z
   ·exact a3 z
   ·exact a4 z
 ·unfold pO
  rw [bg];exact cl
theorem gK {C:ag} {σ':St} {H':Hp} {s':aj} {h':eH} (I:Inv X pins σ H s) (f:∀ b∈fp,zS X pins H b) (hC:s.heap.objs.size<=C) (J:Inv (cxC X Nc sc C s H fp pins) [] σ' H' s') (hs:lz C s'.heap h') :
  Inv X pins σ H' { s' with heap:=h' }:=by
 have u:=J.base;have nC:H' C=none:=J.free;have stay:∀ b ob,b≠C->s'.heap.get? b=some ob->h'.get? b=some ob:=λ b ob hb e=>hs.extBut b ob hb e;have neC:∀ b ob,s.heap.get? b=some ob->b≠C:=λ b ob e=>dh (be (bf e) hC);refine I.call' (ch:=fp) J.os ?_ (λ b v e=>?_) J.bare λ b hb=>⟨(f b hb).2.2.2.1,(f b hb).2.1,(f b hb).2.2.2.2.1,(f b hb).2.2.2.2.2⟩
 ·refine ⟨λ b ob e n h1 h2=>stay b ob (neC b ob e) (u.keep b ob e n h1 h2),λ b ob e n h1 h2=>?_,u.free,λ b ob e h2=>?_,u.tups,u.frzs,u.tbls⟩
  ·obtain ⟨sl,q⟩:=u.slot b ob e n h1 h2
   exact ⟨sl,stay b _ (neC b ob e) q⟩
  ·obtain ⟨o',q⟩:=u.there b ob e h2
   exact ⟨o',stay b _ (neC b ob e) q⟩
 ·have nb:∀ c w,H' c=some w->c≠C:=λ c w e z=>by rw [z,nC] at e;cases e
  refine (J.hok b v e).stay (λ c w hc q=>stay c w ?_ q) (λ _ q=>q) λ _ _ q=>q;rcases hc with z | z
  ·rw [z];exact nb b v e
  ·exact nb c _ z
end
section
variable {X:Cx} {e tg iter el:fm} {ifs:List fm} {gens rest:List BJ} {sc:qw} {pos:Pos} {Nc:List Str} {js:List (Option Nat)} {wi:TI}
theorem zH {prog:cw} {w:eK} {A:dj} {env:Env} {R:Do->aj->Prop} {s:aj} {d:Nat} {it acc:af} {g:BJ} (he:(∃ el,e=.ListComp el gens sc pos)\/∃ k v,e=.DictComp k v gens sc pos)
  (hg:(clausesOf e)[d]?=some g) (ha:g.is_async=0)
  (h0:codeAny (model prog w) A (.compLoop e d it acc env) R s)
  (h:br (model prog w) A (pyIter it) (λ it' s'=>codeAny (model prog w) A (.compLoop e d it' acc env) R s') (λ _ _=>False) s) :
  codeAny (model prog w) A (.compStart e d it acc env) R s:=by
 refine EV ?_
 have hden:(model prog w).den (.compStart e d it acc env)=((compStart e d it acc env).onRaise (λ x=>do noteFrame x env;standAt theWindowsPlace))/\A.under (.compStart e d it acc env)=A:=by
  rcases he with ⟨el,rfl⟩ | ⟨k,v,rfl⟩<;>exact ⟨rfl,rfl⟩
 have hq:∀ d it acc,(Code.compLoop e d it acc env).quiet=true:=λ _ _ _=>rfl;rw [hden.1,hden.2];refine wpAny_notedAt ?_;unfold compStart;rw [hg];have hz:((some g).elim false λ x=>x.is_async != 0)=false:=by show (g.is_async != 0)=false;rw [ha];rfl
 rw [hz];show br _ _ (ask >>= _) _ _ s;refine aa (wpAny_askSetting (wpAny_ite ?_))
 split
 ·first
   | exact aa (aq (aq (Fe rfl h0)))
   | exact aq (Fe rfl h0)
 ·refine aa (uo ?_)
  show br _ _ (standAt g.iter.pos >>= _) _ _ s;exact aa (mh (aa (jc h (λ it' s' h'=>aq (Fe rfl h')) λ _ _ x=>x.elim)))
def tLC (js:List (Option Nat)) (wi:TI) (g:TG) (bd:ag->TB):TE:=λ σ H Q=>wi σ H λ J H1=>∀ D,H1 D=none->uD J g (bd D) (λ _ H'=>Q (.ref D) H') (pO js σ) (upd H1 D (.lst []))
theorem jL {g:TG} {bd:ag->TB} (hx:X.xe=λ _ _=>False) (hc:X.calm=true) (hi:PI X tg iter wi) (S:CS sc X.env.scope) (cap:nI js Nc X.N sc.names=true)
  (hg:∀ C s₂ H₂ fp pins,PG (cxC X Nc sc C s₂ H₂ fp pins) tg g)
  (hb:∀ C s₂ H₂ fp pins D L,PTl (cxC X Nc sc C s₂ H₂ fp pins) (yK ifs (cxC X Nc sc C s₂ H₂ fp pins).env (do let _ <-call (.builtin "list.append") [.ref D,<-eval el (cxC X Nc sc C s₂ H₂ fp pins).env]) L) L (bd D))
  (hs:∀ x,foldedSetIterable iter X.env x=pure x:=by intro _;rfl) :
  PE X (.ListComp el [⟨tg,iter,ifs,0⟩] sc pos) (tLC js wi g bd):=by
 intro pins s σ H Q I h;rw [eval_ListComp];have hcl:closureFor sc X.env=pure (lR sc X.env):=vX λ y hy hf=>I.ok.has y.1 (.inl (S.free y hy hf));refine vq (use:=none) rfl hs hcl S.kind S.names (thn (hi pins s σ H _ I h) λ v s1 h1=>thn h1 λ itv s2 h2=>?_);obtain ⟨it,fp,tn,J,H2,e,I2,T,st2,f2,hw⟩:=h2;subst e;have hlt:∀ b∈fp,b<s2.heap.objs.size:=λ b hb=>let ⟨o,ho,_⟩:=T.obj _ _ st2 b hb;bf ho;refine fu (zc S.nocell (by intro y hy;simp at hy) (λ h₁ hns₁ hsb₁=>?_) S.kind);dsimp only at hns₁ hsb₁ ⊢;generalize hH2:s2.heap.push { cls:=.type "list",dict:=none,data:=.seq ([]:List af).toArray }=G at hns₁ hsb₁ ⊢;have hCs:G.objs.size=s2.heap.objs.size+1:=by rw [<-hH2,ni]
 have hDC:s2.heap.objs.size≠G.objs.size:=by omega
 have hCle:s2.heap.objs.size<=G.objs.size:=by omega
 have old:∀ b o,s2.heap.get? b=some o->h₁.get? b=some o:=λ b o e=>hsb₁.extBut b o (dh (be (bf e) hCle)) (ak _ (hH2 ▸ ak _ e));have hacc:h₁.get? s2.heap.objs.size=some { cls:=.type "list",dict:=none,data:=.seq ([]:List af).toArray }:=hsb₁.extBut _ _ hDC (ak _ (hH2 ▸ cv _ rfl));have new:ObjOk X.prog X.w (upd H2 s2.heap.objs.size (.lst [])) h₁ s2.heap.objs.size (.lst []):=⟨iA _,[],_,.nil,hacc⟩;have I4:=gJ (js:=js) (Nc:=Nc) (tk:=s2.toks+([]:List (Str×af)).length) I2 S f2 hlt cap hCle (ba _) hDC old hns₁ new;have hn:H2 s2.heap.objs.size=none:=I2.fresh
 have f4:∀ b∈fp,zS (cxC X Nc sc G.objs.size s2 H2 fp pins) [] (upd H2 s2.heap.objs.size (.lst [])) b:=λ b hb=>by
  obtain ⟨h0,h1,h2,h3,h4,h5⟩:=f2 b hb;refine ⟨?_,dh (be (hlt b hb) hCle),λ z=>?_,.inl hb,λ x c z=>?_,λ p hp=>?_⟩
  ·rw [kN (dh (hlt b hb))];exact h0
  ·rcases gu.mp (I2.stkSub b z) with q | q
   ·exact h1 q
   ·exact h2 q
  ·exact h4 x c (nH sc.names [] (λ z=>nomatch z) z)
  ·rcases gf.mp hp with z | z
   ·exact h5 p z
   ·exact absurd z (by simp)
 have st4:tn 0 h₁:=T.keep _ _ _ st2 λ b hb o e=>old b o e
 have loop:codeAny (model X.prog X.w) X.A (.compLoop (.ListComp el [⟨tg,iter,ifs,0⟩] sc pos) 0 (.ref it) (.ref s2.heap.objs.size) (compEnvC sc (lR sc X.env) G.objs.size X.env))
   (compPost (model X.prog X.w) X.A X.xe none (EP X pins σ Q) (.ref s2.heap.objs.size) G.objs.size) { s2 with heap:=h₁,toks:=s2.toks+([]:List (Str×af)).length }:=by
  refine wW (X:=cxC X Nc sc G.objs.size s2 H2 fp pins) (.inl ⟨el,rfl⟩) hx hc (kBE _ _ _ _ _ _ _ _ _) T (hg _ _ _ _ _) (hb _ _ _ _ _ _ _) I4 st4 f4 (hw _ hn) λ σ' H' s' I' q=>?_;obtain ⟨m',hm',_⟩:=I'.loc;exact ⟨m',hm',λ h' hs'=>⟨.ref s2.heap.objs.size,H',gK I2 f2 hCle I' hs',rfl,q⟩⟩
 exact zH (.inl ⟨el,rfl⟩) rfl rfl loop (T.self _ _ _ _ _ st4 loop)
end
section
variable {X:Cx}
inductive kCA (x:V) (vs:List V) (H:Hp) (Q:VK):Prop
 | mk:∀ l xs i y,(x=.ref l)->(vs=[.int i,y])->(H l=some (.lst xs))->(0<=i)->(i<2 ^ 62)->(xs.length<sizeLine)->(Q .non (upd H l (.lst (xs.take i.toNat++y::xs.drop i.toNat))))->kCA x vs H Q
theorem mP:MtM X "list.insert" kCA:=by
 intro pins s σ H x vs v us Q I rx rv h;obtain ⟨l,xs,i,y,rfl,rfl,hH,h1,h2,hz,q⟩:=h;cases rx
 obtain ⟨u,w,rfl,⟨t,rfl⟩,rw'⟩:=rv.two;obtain ⟨z,its,n,r,hl,e⟩:=I.lstM hH
 refine Bk F.slot_list_insert ⟨_,e,rfl⟩ F.entry_list_insert (F.args_list_insert_3 _ _ _)
  (AutoSeq1.list_insert_list_int_val_1 l its.toArray n i t w (by rw [fitsIndex_both (by omega) (by omega)];decide) (by rw [dq];omega)) ⟨e,?_⟩
 refine ⟨.non,_,I.lset (its':=its.take i.toNat++w::its.drop i.toNat) hH e ?_ ((r.take i.toNat).append (.cons rw' (r.drop i.toNat))) ?_,rfl,q⟩
 ·have hi:¬ i<0:=by omega
  simp only [hi,if_false,dq];apply Array.toList_inj.mp;simp;by_cases hc:i.toNat<=its.length
  ·rw [ju hc,fb (l:=GT i.toNat its) (by rw [fh];omega)]
  ·have hc':its.length<=i.toNat:=by omega
   rw [Dv hc',fb (ba _),fb hc',ig (ba _),ig hc',List.take_nil]
 ·simp only [du,gw,gy,fh]
  omega
def aS (ns:List Int) (n:Int) (j:Nat):Prop:=ns[j]?=some n/\∀ m:Nat,m<j->ns[m]?≠some n
theorem yJ {ns:List Int} {its:List af} (r:Vals (ns.map V.int) its) {m:Nat} (hm:m<its.length):∃ k t,ns[m]?=some k/\its[m]=mq k t:=by
 have hl:=r.length;rw [bg] at hl;have hk:m<ns.length:=by omega
 obtain ⟨u,hu,q⟩:=r.get (i:=m) (x:=.int ns[m]) (by rw [bq,ao hk];rfl);obtain ⟨t,rfl⟩:=q;refine ⟨ns[m],t,ao hk,?_⟩;rw [ao hm] at hu;exact eO hu
def gO (n:Int) (v:af):Bool:=match v with | .int k _=>k == n | _=>false
theorem uB {ns:List Int} {its:List af} (r:Vals (ns.map V.int) its) (n:Int) (t:Tok):∀ y,y∈its.toArray->Dw y (.int n t) (gO n y):=λ y hy=>by
 obtain ⟨m,hm,rfl⟩:=iR.mp (Dx.mp hy);obtain ⟨k,t',_,e⟩:=yJ r hm;rw [e];exact Fv _ _ _ _
theorem nA {ns:List Int} {its:List af} (r:Vals (ns.map V.int) its) {n:Int} {j:Nat} (h:aS ns n j):∃ hj:j<its.toArray.size,gO n its.toArray[j]=true/\∀ m (hm:m<its.toArray.size),m<j->gO n its.toArray[m]=false:=by
 have hl:=r.length;rw [bg] at hl;have hj:j<ns.length:=(au.mp h.1).1;have hj':j<its.length:=by omega
 refine ⟨by rw [dq];exact hj',?_,λ m hm hlt=>?_⟩
 ·obtain ⟨k,t,e1,e2⟩:=yJ r hj'
  rw [h.1] at e1;cases e1
  simp [e2,gO]
 ·rw [dq] at hm
  obtain ⟨k,t,e1,e2⟩:=yJ r hm;have:k≠n:=λ z=>h.2 m hlt (by rw [e1,z]);simp [e2,gO,this]
inductive kGW (x:V) (vs:List V) (H:Hp) (Q:VK):Prop
 | mk:∀ (l:ag) (ns:List Int) (n:Int) (j:Nat),(x=.ref l)->(vs=[.int n])->(H l=some (.lst (ns.map V.int)))->(aS ns n j)->(Q (.int j) H)->kGW x vs H Q
theorem sO:MtM X "list.index" kGW:=by
 intro pins s σ H x vs v us Q I rx rv h;obtain ⟨l,ns,n,j,rfl,rfl,hH,hj,q⟩:=h;cases rx
 obtain ⟨u,rfl,t,rfl⟩:=rv.one;obtain ⟨z,its,m,r,hl,e⟩:=I.lstM hH;obtain ⟨h1,h2,h3⟩:=nA r hj
 have hs:(j:Int)<2 ^ 63-1:=by
  have:=bB;rw [dq] at h1;omega
 refine Bk F.slot_list_index ⟨_,e,rfl⟩ F.entry_list_index (F.args_list_index_2 _ _) (MeetsSeq.list_index l its.toArray m (.int n t) (gO n) (uB r n t) j h1 hs h2 h3) ⟨e,?_⟩;exact ⟨.int j,H,I.tok _,⟨_,rfl⟩,q⟩
end
theorem tN {lo:Int} {n:Nat} {g:TG} {b:TB} {N0:St->Hp->Prop} {σ:St} {H:Hp} (Pv:Nat->St->Hp->Prop) (h0:Pv 0 σ H)
  (hs:∀ i σ H,i<n->Pv i σ H->g (.int (lo+i)) σ H λ σ2 H2=>b (Pv (i+1)) σ2 H2) (hd:∀ σ H,Pv n σ H->N0 σ H):uD (Itr lo n) g b N0 σ H:=by
 refine ⟨λ i m σ H=>m=n-i/\i<=n/\Pv i σ H,⟨n,by simp,iA _,h0⟩,?_⟩;rintro i m σ H ⟨rfl,hle,p⟩;by_cases hi:i<n
 ·refine .inr ⟨hi,Pv (i+1),λ σ' H' q=>⟨n-(i+1),by omega,rfl,by omega,q⟩,λ x H' hy=>?_⟩
  obtain ⟨rfl,rfl⟩:=hy;exact hs i σ _ hi p
 ·have:i=n:=by omega
  subst this;exact .inl ⟨ba _,hd σ H p⟩
theorem yR {K:ai} {a:ag} {xs:List V} {g:TG} {b:TB} {N0:St->Hp->Prop} {σ:St} {H:Hp} (Pv:Nat->St->Hp->Prop) (h0:Pv 0 σ H) (hl:∀ i σ H,i<=xs.length->Pv i σ H->SqL K H a xs)
  (hs:∀ i x σ H,xs[i]?=some x->Pv i σ H->g x σ H λ σ2 H2=>b (Pv (i+1)) σ2 H2) (hd:∀ σ H,Pv xs.length σ H->N0 σ H):uD (Itl K a) g b N0 σ H:=by
 refine ⟨λ i m σ H=>m=xs.length-i/\i<=xs.length/\Pv i σ H,⟨xs.length,by simp,iA _,h0⟩,?_⟩;rintro i m σ H ⟨rfl,hle,p⟩;by_cases hi:i<xs.length
 ·refine .inr ⟨⟨xs,xs[i],hl i σ H hle p,by simp [hi]⟩,Pv (i+1),λ σ' H' q=>⟨xs.length-(i+1),by omega,rfl,by omega,q⟩,λ x H' hy=>?_⟩
  obtain ⟨rfl,hy⟩:=hy;exact hs i x σ _ (hy xs (hl i σ _ hle p)) p
 ·have:i=xs.length:=by omega
  subst this;exact .inl ⟨⟨xs,hl _ σ H hle p,ba _⟩,hd σ H p⟩
theorem yQ {K:ai} {a:ag} {xs:List V} {g:TG} {b:TB} {N0:St->Hp->Prop} {σ:St} {H:Hp} (Pv:Nat->St->Hp->Prop) (h0:Pv 0 σ H) (hl:∀ i σ H,i<=xs.length->Pv i σ H->SqT K H a xs)
  (hs:∀ i x σ H,xs[i]?=some x->Pv i σ H->g x σ H λ σ2 H2=>b (Pv (i+1)) σ2 H2) (hd:∀ σ H,Pv xs.length σ H->N0 σ H):uD (Itt K a) g b N0 σ H:=by
 refine ⟨λ i m σ H=>m=xs.length-i/\i<=xs.length/\Pv i σ H,⟨xs.length,by simp,iA _,h0⟩,?_⟩;rintro i m σ H ⟨rfl,hle,p⟩;by_cases hi:i<xs.length
 ·refine .inr ⟨⟨xs,xs[i],hl i σ H hle p,by simp [hi]⟩,Pv (i+1),λ σ' H' q=>⟨xs.length-(i+1),by omega,rfl,by omega,q⟩,λ x H' hy=>?_⟩
  obtain ⟨rfl,hy⟩:=hy;exact hs i x σ _ (hy xs (hl i σ _ hle p)) p
 ·have:i=xs.length:=by omega
  subst this;exact .inl ⟨⟨xs,hl _ σ H hle p,ba _⟩,hd σ H p⟩
section
variable {prog:cw} {w:eK} {A:dj} {E:af->aj->Prop}
theorem nE {it t:ag} {items:Array af} (hne:t≠it):∀ (n i:Nat) (s:aj) (Q:List af->aj->Prop),s.heap.IsListIter it t i->s.heap.IsList t items->i+n<=items.size ->
  (∀ h',h'.IsListIter it t (i+n)->lz it s.heap h'->Q ((items.toList.drop i).take n) { s with heap:=h' })->br (model prog w) A (draw (.ref it) n) Q E s
 | 0,i,s,Q,hit,_,_,hQ=>by
  show br _ _ (pure []) Q E s;exact aq (by simpa using hQ s.heap hit (DR ..))
 | n+1,i,s,Q,hit,ht,hle,hQ=>by
  have hlt:i<items.size:=by omega
  show br _ _ (pyNext (.ref it) >>= _) Q E s;refine aa (Bd hit ht (x:=items[i]) (by simp [hlt]) λ h₁ hit₁ hs₁=>?_)
  have ht1:h₁.IsList t items:=by
   obtain ⟨o,e,c⟩:=ht;exact ⟨o,hs₁.extBut t o hne e,c⟩
  refine aa (eQ (nE hne n (i+1) _ _ hit₁ ht1 (by omega) λ h₂ hit₂ hs₂=>aq ?_));have hd:items.toList.drop i=items[i]::items.toList.drop (i+1):=by simp [As,hlt]
  have:=hQ h₂ (by rw [show i+(n+1)=i+1+n by omega];exact hit₂) (hs₁.trans hs₂);rw [hd,List.take_succ_cons] at this;exact this
theorem aU {s:aj} {t:ag} {items:Array af} {Q:List af->aj->Prop} (hh:A.handled=none) (ht:s.heap.IsList t items)
  (hQ:∀ h',Fw s.heap.objs.size s.heap h'->Q items.toList { s with heap:=h' }):br (model prog w) A (unpackItems (.ref t) items.size none) Q E s:=by
 have hlt:t≠s.heap.objs.size:=by obtain ⟨o,ho,_⟩:=ht;exact dh (bf ho)
 unfold unpackItems;refine aa ?_
 ·unfold notIterableAtAll
  refine aa (we ht.typeIs slot_list_iter.lookup ?_);refine aq ?_;simp only [bj,if_false];refine aa (eQ (xh ht ?_));refine aa (eQ (nE hlt items.size 0 _ _ ⟨_,cv _ rfl,rfl,rfl⟩ (ht.push _) (by omega) λ h₁ hit₁ hs₁=>?_))
  have hall:List.take items.size (GT 0 items.toList)=items.toList:=by
   rw [CK];exact fb (by simp)
  rw [hall];rw [if_neg (by simp)]
  have ht₁:h₁.IsList t items:=by
   obtain ⟨o,e,c⟩:=ht.push (o:={ cls:=.type "list_iterator",data:=.fields #[.ref t,.int 0 0] });exact ⟨o,hs₁.extBut t o hlt e,c⟩
  refine aa (eQ (Bx hh hit₁ ht₁ (by simp) λ h₂ he₂=>?_));simp only [Option.isSome_none,bj,if_false];refine aq (hQ h₂ λ b o hb e=>he₂ b o hb (hs₁.extBut b o hb (ak _ e)))
end
section
variable {X:Cx} {pos:Pos}
inductive kMC (K:ai) (n:Nat) (t:TGs) (v:V) (σ:St) (H:Hp) (Q:St->Hp->Prop):Prop
 | mk:∀ a xs,(v=.ref a)->(SqL K H a xs)->(xs.length=n)->(t xs σ H Q)->kMC K n t v σ H Q
theorem kJR {es:List fm} {k:Nat} {t:TGs} {n:Nat} (hc:X.calm=true) (h:PGs X es t)
  (hn:(assignEach es X.env).length=n:=by rfl) (hst:(assignEach es X.env).findIdx? (·.1)=none:=by rfl):PG X (.Tuple es k pos) (kMC X.K n t):=by
 intro pins s σ H v u Q I r hw;obtain ⟨a,xs,e1,hq,hl,hw⟩:=hw;subst e1;cases r
 obtain ⟨its,rv,ht,hz⟩:=I.list hq;rw [assign_Tuple];refine aa (mh ?_);unfold unpack;have en:(assignEach es X.env).length=its.toArray.size:=by simp [hn,<-hl,rv.length]
 rw [en,hst];refine aa (eQ (aU (I.ok.hd hc) ht.isList λ h' hx=>?_));have I1:Inv X pins σ H { s with heap:=h' }:=I.kept (t':=s.toks) λ b o e=>hx b o (dh (bf e)) e
 exact h pins _ σ H xs _ Q I1 (by simpa using rv) hw
inductive vL (xs:List V) (H:Hp) (Q:VK):Prop
 | mk:∀ (i j:Int),(xs=[.int i,.int j])->((0<j/\j.natAbs<2 ^ 9000))->(∀ p,H p=none->Q (.ref p) (upd H p (.tup [.int (i / j),.int (i % j)])))->vL xs H Q
theorem pS:xB X (.builtin "divmod") vL:=by
 intro pins s σ H xs us Q I r h;obtain ⟨i,j,rfl,⟨h1,h2⟩,q⟩:=h;obtain ⟨u,w',rfl,⟨t,rfl⟩,⟨t',rfl⟩⟩:=rE r;refine divmod_int (by omega) ?_ (.inl (BI (Own.log2_lt h2)));rw [AX i (by omega),AY i (by omega)];have hn:H s.heap.objs.size=none:=I.hok.fresh (ba _);refine ⟨.ref s.heap.objs.size,_,?_,rfl,q _ hn⟩;refine I.laid (λ b o e=>ak _ e) (ba _) ⟨by simp only [gy,yl];rw [mj];decide,[.int (i / j) s.toks,.int (i % j) (s.toks+1)],.cons ⟨_,rfl⟩ (.cons ⟨_,rfl⟩ .nil),?_⟩;exact ⟨_,cv s.heap rfl,rfl,0,rfl,rfl⟩
theorem cW:∀ {ns:List Int} {its:List af},Vals (ns.map V.int) its->uj its ns
 | [],_,r=>by cases r;exact .nil
 | n::ns,_,r=>by
  cases r with
  | cons r1 r2 =>
   obtain ⟨t,rfl⟩:=r1;exact .cons n t (cW r2)
end
mutual
def Dt (K:ai) (H:Hp):vm->V->Prop
 | .none,v=>v=.non
 | .bool b,v=>v=.bl b
 | .int i,v=>v=.int i
 | .str x,v=>v=.str x
 | .tuple xs,v=>∃ a vs,v=.ref a/\SqT K H a vs/\DtAll K H xs vs
 | .list xs,v=>∃ a vs,v=.ref a/\SqL K H a vs/\DtAll K H xs vs
 | .dict _,_=>False
def DtAll (K:ai) (H:Hp):List vm->List V->Prop
 | [],vs=>vs=[]
 | d::ds,vs=>∃ v vr,vs=v::vr/\Dt K H d v/\DtAll K H ds vr
end
section
variable {X:Cx} {pins:List (ag×Obj)} {σ:St} {H:Hp} {s:aj}
mutual
theorem Dt.reads (I:Inv X pins σ H s):∀ (d:vm) (v:V) (u:af),RelV v u->Dt X.K H d v->∃ as,GN s.heap u d as
 | .none,v,u,r,h=>by unfold Dt at h;subst h;cases r;exact ⟨_,.none⟩
 | .bool b,v,u,r,h=>by unfold Dt at h;subst h;cases r;exact ⟨_,.bool b⟩
 | .int i,v,u,r,h=>by unfold Dt at h;subst h;obtain ⟨t,rfl⟩:=r;exact ⟨_,.int i t⟩
 | .str x,v,u,r,h=>by unfold Dt at h;subst h;obtain ⟨t,rfl⟩:=r;exact ⟨_,.str x t⟩
 | .tuple xs,v,u,r,h=>by
  unfold Dt at h;obtain ⟨a,vs,rfl,hs,hd⟩:=h;cases r
  obtain ⟨its,rv,⟨o,e1,e2,n,e3⟩,hz⟩:=I.tuple hs;obtain ⟨as,ra⟩:=DtAll.reads I xs vs its rv hd;exact ⟨_,.tuple e1 e2 e3 (by simpa using ra)⟩
 | .list xs,v,u,r,h=>by
  unfold Dt at h;obtain ⟨a,vs,rfl,hs,hd⟩:=h;cases r
  obtain ⟨its,rv,ht,hz⟩:=I.list hs;obtain ⟨as,ra⟩:=DtAll.reads I xs vs its rv hd;obtain ⟨o,e1,e2,n,e3⟩:=ht.isList;exact ⟨_,.list e1 e2 e3 (by simpa using ra)⟩
 | .dict _,v,u,r,h=>by unfold Dt at h;exact h.elim
theorem DtAll.reads (I:Inv X pins σ H s):∀ (ds:List vm) (vs:List V) (us:List af),Vals vs us->DtAll X.K H ds vs->∃ as,Fy s.heap us ds as
 | [],vs,us,r,h=>by unfold DtAll at h;subst h;cases r;exact ⟨_,.nil⟩
 | d::ds,vs,us,r,h=>by
  unfold DtAll at h;obtain ⟨v,vr,rfl,h1,h2⟩:=h
  cases r with
  | cons r1 r2 =>
   obtain ⟨as,q1⟩:=Dt.reads I d v _ r1 h1;obtain ⟨bs,q2⟩:=DtAll.reads I ds vr _ r2 h2;exact ⟨_,.cons q1 q2⟩
end
end
section
variable {X:Cx}
inductive kJP (K:ai) (neg:Bool) (x:V) (y:V) (H:Hp) (Q:VK):Prop
 | mk:∀ d e,(Dt K H d x)->(Dt K H e y)->(iB d=true)->(iB e=true)->(Q (.bl (if neg then !PyData.eqv d e else eW d e)) H)->kJP K neg x y H Q
theorem oU (hu:X.A.units+64<cLine):OpR X (compareOp .Eq) (kJP X.K false):=by
 intro pins s σ H x y v u Q I rx ry h;obtain ⟨d,e,h1,h2,s1,s2,q⟩:=h;obtain ⟨as,p1⟩:=Dt.reads I d x v rx h1;obtain ⟨bs,p2⟩:=Dt.reads I e y u ry h2;exact SeqAt.compareEq_shaped p1 p2 s1 s2 hu ⟨.bl _,H,I,rfl,q⟩
theorem fH (hu:X.A.units+64<cLine):OpR X (compareOp .NotEq) (kJP X.K true):=by
 intro pins s σ H x y v u Q I rx ry h;obtain ⟨d,e,h1,h2,s1,s2,q⟩:=h;obtain ⟨as,p1⟩:=Dt.reads I d x v rx h1;obtain ⟨bs,p2⟩:=Dt.reads I e y u ry h2;exact SeqAt.compareNe_shaped p1 p2 s1 s2 hu ⟨.bl _,H,I,rfl,q⟩
end
open Classical in
noncomputable def eqD (h:eH) (d:vm) (u:af):Bool:=if z:∃ d',d'.canLay0=true/\∃ as,GN h u d' as then eW z.choose d else false
theorem kIM {h:eH} {d d':vm} {u:af} {as:List ag} (c:d'.canLay0=true) (r:GN h u d' as):eqD h d u=eW d' d:=by
 have z:∃ d',d'.canLay0=true/\∃ as,GN h u d' as:=⟨d',c,as,r⟩;unfold eqD;rw [dif_pos z];obtain ⟨c1,as',r1⟩:=z.choose_spec;rw [GH _ _ _ _ _ c1 r1 r]
theorem kDE {h:eH} {d:vm}:∀ {es:List vm} {us:List af} {as:List ag},Fy h us es as->eX es=true->us.any (eqD h d)=es.any λ e=>eW e d
 | [],us,as,r,_=>by cases r;rfl
 | e::es,us,as,r,c=>by
  have c':e.canLay0=true/\eX es=true:=by simpa [eX] using c
  cases r with
  | cons r1 r2=>rw [BH,BH,kIM c'.1 r1,kDE r2 c'.2]
theorem mR {h:eH}:∀ {es:List vm} {us:List af} {as:List ag},Fy h us es as->∀ u∈us,∃ e∈es,∃ as,GN h u e as
 | [],us,as,r,u,hu=>by cases r;cases hu
 | e::es,us,as,r,u,hu=>by
  cases r with
  | cons r1 r2 =>
   rcases gu.mp hu with rfl | hu
   ·exact ⟨e,fe,_,r1⟩
   ·obtain ⟨e',he,x⟩:=mR r2 u hu
    exact ⟨e',eY _ he,x⟩
theorem kON {es:List vm} (h:∀ e∈es,iB e=true):eX es=true:=by
 induction es with
 | nil=>rfl
 | cons e es ih =>
  simp only [eX,gi];exact ⟨tf (h e fe),ih λ e' he=>h e' (eY _ he)⟩
section
variable {X:Cx}
inductive kPY (K:ai) (neg:Bool) (x:V) (y:V) (H:Hp) (Q:VK):Prop
 | mk:∀ d es p xs,(y=.ref p)->((SqL K H p xs\/SqT K H p xs))->(Dt K H d x)->(DtAll K H es xs)->(iB d=true)->((∀ e∈es,iB e=true))->(Q (.bl (if neg then !es.any (λ e=>eW e d) else es.any λ e=>eW e d)) H)->kPY K neg x y H Q
theorem kNM (hu:X.A.units+65<cLine):OpR X (compareOp .In) (kPY X.K false):=by
 intro pins s σ H x y v u Q I rx ry h;obtain ⟨d,es,p,xs,rfl,hq,hd,hes,sd,ses,q⟩:=h;cases ry
 obtain ⟨as,rd⟩:=Dt.reads I d x v rx hd
 have key:∀ its:List af,Vals xs its->(∀ w∈its,Bf X.A.in1 s w v (eqD s.heap d w))/\its.any (eqD s.heap d)=es.any λ e=>eW e d:=λ its r=>by
  obtain ⟨bs,ra⟩:=DtAll.reads I es xs its r hes;refine ⟨λ w hw=>?_,kDE ra (kON ses)⟩;obtain ⟨e,he,cs,re⟩:=mR ra w hw;rw [kIM (tf (ses e he)) re];exact SeqAt.eqAt_reads e d X.A.in1 s w v cs as re rd (tf (ses e he)) (tf sd) (SeqAt.room_of_shaped (ses e he) (by show X.A.units+1+64<cLine;omega))
 rcases hq with hq | hq
 ·obtain ⟨its,r,pl,hz⟩:=I.list hq
  obtain ⟨k1,k2⟩:=key its r;refine ET (eqD s.heap d) pl.isList (λ w hw=>k1 w (by simpa using hw)) ⟨.bl _,H,I,rfl,?_⟩;rw [show its.toArray.any (eqD s.heap d)=its.any (eqD s.heap d) by simp,k2];exact q
 ·obtain ⟨its,r,pl,hz⟩:=I.tuple hq
  obtain ⟨k1,k2⟩:=key its r;refine Dr (eqD s.heap d) pl (λ w hw=>k1 w (by simpa using hw)) ⟨.bl _,H,I,rfl,?_⟩;rw [show its.toArray.any (eqD s.heap d)=its.any (eqD s.heap d) by simp,k2];exact q
end
def kRS (sc S0:qw):Bool:=(sc.names.all λ y=>(y.2 != .local || sc.names.lookup y.1 == some .local) && y.2 != .cell && (y.2 != .free || S0.names.lookup y.1 == some .cell))
theorem CS.of {sc S0:qw} (k:sc.kind=.function) (h:kRS sc S0=true):CS sc S0:=by
 have q:∀ y∈sc.names,_:=BW.mp h;refine ⟨k,λ y hy e=>?_,λ y hy e=>?_,λ y hy e=>?_⟩<;>have z:=q y hy<;>rw [gi,gi] at z<;>obtain ⟨⟨z1,z2⟩,z3⟩:=z
 ·rw [e] at z1;simpa using z1
 ·rw [e] at z2;simp at z2
 ·rw [e] at z3;simpa using z3
theorem Room.units65 {k:Nat} {A:dj} (r:Room k A):A.units+65<cLine:=by have:=r.un;omega
section
variable {prog:cw} {w:eK} {A:dj} {E:af->aj->Prop} {s:aj}
theorem kAK {it t:ag} {i:Nat} {items:Array af} {x:af} {Q:af->aj->Prop} (hit:s.heap.IsTupleIter it t i) (ht:s.heap.IsTuple t items) (hx:items[i]?=some x)
  (hQ:∀ h',h'.IsTupleIter it t (i+1)->lz it s.heap h'->Q x { s with heap:=h' }):br (model prog w) A (oh (.ref it)) Q E s:=by
 obtain ⟨o,ho,hc,hd⟩:=id hit;obtain ⟨ot,hot,_,nt,hdt⟩:=ht;unfold oh;refine aa (rg (name:=sv "__next__") hit.typeIs nu (mv nu hit.typeIs AM ?_ (zu _)));show br _ _ (field (.ref it) 0 >>= _) _ _ s;refine aa (jt ho hd (x:=.ref t) rfl ?_);show br _ _ (if (eD t == iK)=true then _ else _) _ _ s;rw [if_neg (show ¬ ((eD t == iK)=true) from cq)];show br _ _ (field (.ref it) 1 >>= _) _ _ s;refine aa (jt ho hd (x:=.int i 0) rfl ?_);show br _ _ (seqItems? (.ref t) >>= _) _ _ s;refine aa (rm hot hdt ?_);simp only [iZ,hx];refine aa (uu ho hd (by simp) (aq ⟨x,rfl,aq (hQ _ ?_ (qu ..))⟩));refine ⟨_,ff _ ho (jw (iP hd _)),(Obj.cls_mapFields ..).trans hc,?_⟩;rw [iP hd];simp [rawInt]
theorem fR {it t:ag} {i:Nat} {items:Array af} {Q:af->aj->Prop} (hh:A.handled=none) (hit:s.heap.IsTupleIter it t i) (ht:s.heap.IsTuple t items) (hx:items[i]?=none)
  (hE:∀ h' e,Fw it s.heap h'->(∃ o,h'.get? e=some o/\o.cls=.type "StopIteration")->E (.ref e) { s with heap:=h' }):br (model prog w) A (oh (.ref it)) Q E s:=by
 obtain ⟨o,ho,hc,hd⟩:=id hit;obtain ⟨ot,hot,_,nt,hdt⟩:=ht;unfold oh;refine aa (rg (name:=sv "__next__") hit.typeIs nu (mv nu hit.typeIs AM ?_ (zu _)));show br _ _ (field (.ref it) 0 >>= _) _ _ s;refine aa (jt ho hd (x:=.ref t) rfl ?_);show br _ _ (if (eD t == iK)=true then _ else _) _ _ s;rw [if_neg (show ¬ ((eD t == iK)=true) from cq)];show br _ _ (field (.ref it) 1 >>= _) _ _ s;refine aa (jt ho hd (x:=.int i 0) rfl ?_);show br _ _ (seqItems? (.ref t) >>= _) _ _ s;refine aa (rm hot hdt ?_);simp only [iZ,hx];refine aa (uo (aa (uu ho hd (by simp) ?_)));show br _ _ (newExc (.type "StopIteration") [] >>= _) _ _ _;refine aa ?_;simp only [newExc,newTuple];refine aa (fu ?_ (by size_fits));refine aa (m:=firstArgMember _ _) (EL (a:=iK) (by first | rfl | (simp only [firstArgMember];rfl)) ?_);refine fu ?_ (by size_fits);simp only [raiseNew];refine aa (wpAny_handled ?_)
 first | rw [show A.in1.handled=none from hh] | rw [hh]
 refine aa (aq (wpAny_throw ?_));exact hE _ _ (((qu ..).extBut.push _).push _) ⟨_,cv _ rfl,rfl⟩
end
def ItOf (k:Bool) (h:eH) (it a:ag) (i:Nat):Prop:=match k with | true=>h.IsListIter it a i | false=>h.IsTupleIter it a i
def SqOf (k:Bool) (h:eH) (a:ag) (items:Array af):Prop:=match k with | true=>h.IsList a items | false=>h.IsTuple a items
def kOC (k:Bool):String:=match k with | true=>"list_iterator" | false=>"tuple_iterator"
def SqX (K:ai) (k:Bool) (H:Hp) (a:ag) (xs:List V):Prop:=match k with | true=>SqL K H a xs | false=>SqT K H a xs
theorem ItOf.at {k:Bool} {h h':eH} {it a:ag} {i:Nat} (x:ItOf k h it a i) (g:∀ o,h.get? it=some o->h'.get? it=some o):ItOf k h' it a i:=by
 cases k
 ·obtain ⟨o,e,r⟩:=x;exact ⟨o,g o e,r⟩
 ·obtain ⟨o,e,r⟩:=x;exact ⟨o,g o e,r⟩
theorem ItOf.live {k:Bool} {h:eH} {it a:ag} {i:Nat} (x:ItOf k h it a i):∃ o,h.get? it=some o/\∀ v,o.data≠.cell v:=by
 cases k
 ·obtain ⟨o,e,c,d⟩:=x;exact ⟨o,e,λ v z=>by rw [d] at z;cases z⟩
 ·obtain ⟨o,e,c,d⟩:=x;exact ⟨o,e,λ v z=>by rw [d] at z;cases z⟩
theorem SqOf.at {k:Bool} {h h':eH} {a:ag} {items:Array af} (x:SqOf k h a items) (g:∀ o,h.get? a=some o->h'.get? a=some o):SqOf k h' a items:=by
 cases k
 ·obtain ⟨o,e,r⟩:=x;exact ⟨o,g o e,r⟩
 ·obtain ⟨o,e,r⟩:=x;exact ⟨o,g o e,r⟩
theorem Inv.sq {X:Cx} {pins:List (ag×Obj)} {σ:St} {H:Hp} {s:aj} {k:Bool} {a:ag} {xs:List V} (I:Inv X pins σ H s) (h:SqX X.K k H a xs):∃ its:List af,Vals xs its/\SqOf k s.heap a its.toArray:=by
 cases k
 ·obtain ⟨its,r,p,_⟩:=I.tuple h
  exact ⟨its,r,p⟩
 ·obtain ⟨its,r,p,_⟩:=I.list h
  exact ⟨its,r,p.isList⟩
theorem Inv.sq_inj {X:Cx} {pins:List (ag×Obj)} {σ:St} {H:Hp} {s:aj} {k:Bool} {a:ag} {xs ys:List V} (I:Inv X pins σ H s) (h:SqX X.K k H a xs) (h':SqX X.K k H a ys):xs=ys:=by
 cases k
 ·exact I.tuple_inj h h'
 ·exact I.list_inj h h'
section
variable {prog:cw} {w:eK} {A:dj} {E:af->aj->Prop} {s:aj}
theorem tF (hh:A.handled=none) (k:Bool) (it a:ag) (hne:a≠it) (items:Array af):Draws prog w A it [it,a] items.size (λ i v=>items[i]?=some v) (λ i h=>ItOf k h it a i/\SqOf k h a items) where
 live:=λ _ _ st=>let ⟨o,ho,_⟩:=st.1.live;⟨o,ho⟩
 frame:=λ _ _ _ st hk=>⟨st.1.at λ o e=>hk it (by simp) o e,st.2.at λ o e=>hk a (by simp) o e⟩
 item:=λ i s Q E hi st hQ=>by
  have hx:items[i]?=some items[i]:=by simp [hi]
  cases k
  ·exact kAK st.1 st.2 hx λ h' hit' hs'=>hQ _ h' s.toks hx ⟨hit',st.2.at λ o e=>hs'.extBut a o hne e⟩ hs'
  ·exact wpAny_nextOf_list_item st.1 st.2 hx λ h' hit' hs'=>hQ _ h' s.toks hx ⟨hit',st.2.at λ o e=>hs'.extBut a o hne e⟩ hs'
 done:=λ s Q E st hE=>by
  cases k
  ·exact fR hh st.1 st.2 (by simp) hE
  ·exact wpAny_nextOf_list_end hh st.1 st.2 (by simp) hE
end
theorem Inv.turnedL {X:Cx} {pins:List (ag×Obj)} {σ:St} {H:Hp} {s:aj} {h':eH} {t':Nat} {ch:List ag} (I:Inv X pins σ H s) (k:∀ b o,b∉ch->s.heap.get? b=some o->h'.get? b=some o) (hf:∀ b∈ch,zS X pins H b) :
  Inv X pins σ H { s with heap:=h',toks:=t' }:=by
 have nit:∀ b u,H b=some u->b∉ch:=λ b u e z=>by rw [(hf b z).1] at e;cases e
 refine I.step (g':=s.gens) (d':=s.drawn) (ch:=ch) (λ b hb=>?_) (λ b o _ _ hc e _=>k b o hc e) (λ b o _ _ hc e _=>⟨o.slots,k b o hc e⟩) (λ _ _ _ _ n=>n)
  (λ b o hc e=>⟨o,k b o hc e⟩) (λ _ _ e=>e) (λ _ _ _ e=>e) (λ b ps e=>⟨#[],by rw [e];simp⟩) (λ m hm=>?_) (λ b u e=>?_) I.bare
 ·obtain ⟨f0,f1,f2,f3,f4,f5⟩:=hf b hb
  exact ⟨f3,f1,f4,f5⟩
 ·obtain ⟨o,es,ep,ho,r⟩:=hm
  exact ⟨o,es,ep,k _ o (λ z=>(hf _ z).2.1 rfl) ho,r⟩
 ·refine (I.hok b u e).stay (λ c v hc q=>k c v ?_ q) (λ _ q=>q) λ _ _ q=>q
  rcases hc with z | z
  ·rw [z];exact nit b u e
  ·exact nit c _ z
open AutoSeq1 (wpAny_loadPart')
theorem pL (l:ag) (items:Array af) (n:Nat) (dct:Option ag) (sl:Array (Option af)) :
  Meets (wb.«enumerate.__new__» ⟨[.type "enumerate",.ref l],[]⟩) (λ _ R s=>s.heap.get? l=some { cls:=.type "tuple",dict:=dct,data:=.seq items n,slots:=sl } /\
   R (.ok (.ret (.ref (s.heap.push { cls:=.type "tuple_iterator",data:=.fields #[.ref l,.int 0 0] }).objs.size)))
    { s with heap:=(s.heap.push { cls:=.type "tuple_iterator",data:=.fields #[.ref l,.int 0 0] }).push { cls:=.type "enumerate",data:=.fields #[.none,.bool false,.ref s.heap.objs.size,rawInt 0,.none,.none] } }) :=
 .of_wp λ prog w A R s h=>by
  obtain ⟨hp,g,d,tk,os⟩:=s;obtain ⟨hl,h⟩:=h;have hsub:=sub_enumerate;have hL:Heap.IsTuple (Shared.heap ⟨hp,g,d,tk,os⟩) l items:=⟨_,hl,rfl,n,rfl⟩
  wp_walk using ow hl
  refine wpAny_stack_any λ st=>aq ?_
  split
  ·rename_i c _ _ _ _ _
   cases (c == yh "enumerate")
   ·wp_walk using ow hl,sk hL
    exact ⟨_,rfl,h⟩
   ·wp_walk using ow hl,sk hL
    exact ⟨_,rfl,h⟩
  ·wp_walk using ow hl,sk hL
   exact ⟨_,rfl,h⟩
section
variable {prog:cw} {w:eK} {A:dj} {E:af->aj->Prop} {s:aj}
theorem pR {k:Bool} {l:ag} {items:Array af} {Q:af->aj->Prop} (hL:SqOf k s.heap l items)
  (h:∀ h',IsEnum h' (s.heap.objs.size+1) s.heap.objs.size 0 .none->ItOf k h' s.heap.objs.size l 0->(∀ b o,s.heap.get? b=some o->h'.get? b=some o)->Q (.ref (s.heap.objs.size+1)) { s with heap:=h' }) :
  br (model prog w) A (call (.type "enumerate") [.ref l]) Q E s:=by
 cases k
 ·obtain ⟨⟨c,dct,dt,sl⟩,hl,hc,n,hd⟩:=hL
  replace hc:c=.type "tuple":=hc
  replace hd:dt=.seq items n:=hd
  subst hc hd;refine callType_new F.called_enumerate (by decide) (F.typeCall_enumerate_1 _) (F.newCall_enumerate_1 _) (λ obj=>F.args_object_init_2 obj _) F.entry_enumerate_new (pL l items n dct sl) ⟨hl,?_⟩;have hz:(s.heap.push { cls:=.type "tuple_iterator",data:=.fields #[.ref l,.int 0 0] }).objs.size=s.heap.objs.size+1:=ni ..;show _/\_;rw [hz];have he:=cv (s.heap.push { cls:=.type "tuple_iterator",data:=.fields #[.ref l,.int 0 0] }) (o:={ cls:=.type "enumerate",data:=.fields #[.none,.bool false,.ref s.heap.objs.size,rawInt 0,.none,.none] }) rfl;rw [hz] at he;exact ⟨⟨_,he,rfl⟩,h _ he ⟨_,ak _ (cv _ rfl),rfl,rfl⟩ λ b o x=>ak _ (ak _ x)⟩
 ·exact call_enumerate_list hL λ h' he hi _ hk=>h h' he hi hk
end
theorem kLK {k k':Bool} {h:eH} {a it b:ag} {i:Nat} {items:Array af} (x:SqOf k h a items) (y:ItOf k' h it b i):a≠it:=by
 intro z;subst z
 cases k<;>cases k'<;>obtain ⟨o,e,c,_⟩:=x<;>obtain ⟨o',e',c',_⟩:=y<;>rw [e] at e'<;>cases e'<;>rw [c] at c'<;>revert c'<;>decide
theorem kIV {h:eH} {a b:ag} {o u:Obj} {m n:String} (h1:h.get? a=some o) (h2:h.get? b=some u) (c1:o.cls=.type m) (c2:u.cls=.type n) (d:m≠n):a≠b:=by
 intro z;subst z;rw [h1] at h2;cases h2
 rw [c1] at c2;injection c2 with e
 exact d e
theorem ItOf.cls {k:Bool} {h:eH} {it a:ag} {i:Nat} (x:ItOf k h it a i):∃ o,h.get? it=some o/\o.cls=.type (kOC k):=by
 cases k<;>obtain ⟨o,e,c,_⟩:=x<;>exact ⟨o,e,c⟩
def kMZ (k:Bool):String:=match k with | true=>"list" | false=>"tuple"
theorem SqOf.cls {k:Bool} {h:eH} {a:ag} {items:Array af} (x:SqOf k h a items):∃ o,h.get? a=some o/\o.cls=.type (kMZ k):=by
 cases k<;>obtain ⟨o,e,c,_⟩:=x<;>exact ⟨o,e,c⟩
theorem Inv.handed {X:Cx} {pins:List (ag×Obj)} {σ:St} {H:Hp} {s:aj} {h':eH} {t':Nat} {ch:List ag} {x y:V} {u v:af} (I:Inv X pins σ H s) (rx:RelV x u) (ry:RelV y v)
  (hT:h'.get? s.heap.objs.size=some { cls:=.type "tuple",data:=.seq #[u,v] }) (k:∀ b o,b∉ch->s.heap.get? b=some o->h'.get? b=some o) (hf:∀ b∈ch,zS X pins H b) (hlt:∀ b∈ch,b<s.heap.objs.size) :
  Inv X pins σ (upd H s.heap.objs.size (.tup [x,y])) { s with heap:=h',toks:=t' }/\(∀ b∈ch,upd H s.heap.objs.size (.tup [x,y]) b=none):=by
 have hn:∀ b∈ch,upd H s.heap.objs.size (.tup [x,y]) b=none:=λ b hb=>by rw [kN (dh (hlt b hb))];exact (hf b hb).1
 have I1:Inv X pins σ (upd H s.heap.objs.size (.tup [x,y])) { s with heap:=s.heap.push { cls:=.type "tuple",data:=.seq #[u,v] },toks:=s.toks } :=
  I.laid (λ b o e=>ak _ e) (ba _) ⟨by simp only [gy,yl];rw [mj];decide,[u,v],.cons rx (.cons ry .nil),⟨_,cv _ rfl,rfl,0,rfl,rfl⟩⟩
 have I2:=Inv.turnedL (h':=h') (t':=t') (ch:=ch) I1 (λ b o hb e=>by
  rcases Heap.get?_push_cases e with ⟨rfl,rfl⟩ | e
  ·exact hT
  ·exact k b o hb e) (λ b hb=>by
  obtain ⟨f0,f1,f2,f3,f4,f5⟩:=hf b hb;exact ⟨hn b hb,f1,f2,f3,f4,f5⟩)
 exact ⟨I2,hn⟩
def Ite (k:Bool) (K:ai) (a:ag):It :=
 ⟨λ i H=>∃ xs x,SqX K k H a xs/\xs[i]?=some x,λ i H v H'=>∃ T x,H T=none/\v=.ref T/\(∀ xs,SqX K k H a xs->xs[i]?=some x)/\H'=upd H T (.tup [.int i,x]),λ i H=>∃ xs,SqX K k H a xs/\xs.length=i⟩
theorem kDM {P:cw} {w:eK} {K:ai} {elts:List fm} {x1} {pos:Pos} (k:Bool) (a e it:ag):Turn P w K (.Tuple elts x1 pos) (Ite k K a) [e,it] e (λ i h=>(∃ old,IsEnum h e it i old)/\ItOf k h it a i) where
 mem:=by simp
 obj:=λ i h st b hb=>by
  obtain ⟨⟨old,he⟩,hi⟩:=st;rcases gu.mp hb with rfl | hb
  ·exact ⟨_,he,λ v z=>by cases z⟩
  ·have:b=it:=by simpa using hb
   subst this;exact hi.live
 keep:=λ i h h' st kk=>by
  obtain ⟨⟨old,he⟩,hi⟩:=st;exact ⟨⟨old,kk e (by simp) _ he⟩,hi.at λ o q=>kk it (by simp) o q⟩
 item:=by
  intro X hP hw hK hc i pins s σ H E I hf st hg;subst hP hw hK;obtain ⟨⟨old,he⟩,hi⟩:=st;obtain ⟨xs,x,hq,hx⟩:=hg;obtain ⟨its,rv,p⟩:=I.sq hq;obtain ⟨u,hu,ru⟩:=rv.get hx;have nai:=kLK p hi;obtain ⟨oi,ei,ci⟩:=hi.cls;obtain ⟨oa,ea,ca⟩:=p.cls;have nei:e≠it:=kIV he ei rfl ci (by cases k<;>decide);have nea:e≠a:=kIV he ea rfl ca (by cases k<;>decide);have D:=tF (prog:=X.prog) (w:=X.w) (A:=X.A.in1) (I.ok.hd hc) k it a nai its.toArray
  have hlt:i<its.toArray.size:=by
   have:=(au.mp hu).1;simpa using this
  refine wpAny_pyNext_enum_itemD D he ⟨hi,p⟩ hlt nei (by simp [nei,nea]) λ y h' tk hy ho hs' hT hz hk=>?_
  have ey:y=u:=by
   have hy':its[i]?=some y:=by simpa using hy
   rw [hu] at hy';exact (eO hy').symm
  subst ey;refine ⟨_,rfl,wpAny_letOwnedTupleGo_enum ho λ h2 he2 hs2=>?_⟩;have hel:e<s.heap.objs.size:=bf he;have hil:it<s.heap.objs.size:=bf ei;have hT2:h2.get? s.heap.objs.size=some { cls:=.type "tuple",data:=.seq #[.int i tk,y] }:=hs2.extBut _ _ (AI hel) hT
  obtain ⟨I2,n2⟩:=I.handed (x:=.int i) (u:=.int i tk) (t':=tk+1) (ch:=[e,it]) ⟨tk,rfl⟩ ru hT2 (λ b o hb q=>hs2.extBut b o (λ z=>hb (by simp [z])) (hk b o (λ z=>hb (by simp [z])) (λ z=>hb (by simp [z])) q)) hf
   (λ b hb=>by rcases gu.mp hb with rfl | hb;exact hel;rw [eu.mp hb];exact hil)
  refine ⟨.ref s.heap.objs.size,_,I2,rfl,⟨_,x,I.hok.fresh (ba _),rfl,λ ys hys=>by rw [I.sq_inj hys hq];exact hx,rfl⟩,⟨⟨_,by simpa using he2⟩,hs'.1.at λ o q=>hs2.extBut it o nei.symm q⟩,n2⟩
 done:=by
  intro X hP hw hK hc i pins s σ H E I hf st hg;subst hP hw hK;obtain ⟨⟨old,he⟩,hi⟩:=st;obtain ⟨xs,hq,hx⟩:=hg;obtain ⟨its,rv,p⟩:=I.sq hq;have nai:=kLK p hi;have D:=tF (prog:=X.prog) (w:=X.w) (A:=X.A.in1) (I.ok.hd hc) k it a nai its.toArray;have hl:its.toArray.size=i:=by rw [<-hx,rv.length];simp
  refine wpAny_pyNext_enum_endD D he ⟨hl ▸ hi,p⟩ λ h' eb=>⟨rfl,I.turnedL (t':=s.toks) (ch:=[it]) (λ b o hb q=>eb b o (λ z=>hb (by simp [z])) q) λ b hb=>hf b (by simp at hb ⊢;exact .inr hb)⟩
 self:=λ _ _ _ _ _ st h=>by
  obtain ⟨⟨old,he⟩,_⟩:=st;exact DT he h
section
variable {X:Cx}
inductive kIB (k:Bool) (K:ai) (R:It->Hp->Prop) (vs:List V) (H1:Hp):Prop
 | mk:∀ a,(vs=[.ref a])->((∃ xs,SqX K k H1 a xs))->(R (Ite k K a) H1)->kIB k K R vs H1
def kQR (k:Bool) (K:ai) (ta:TA):TI:=λ σ H R=>ta σ H λ vs H1=>kIB k K R vs H1
theorem uO (k:Bool) {a:fm} {ta:TA} {p pos tpos:Pos} {elts:List fm} {x1} (hg:Gl X "enumerate") (hm:X.mg "enumerate" = none) (ha:PA X [a] ta) (hs:starEach [a] X.env=[(false,eval a X.env)]:=by rfl) :
  PI X (.Tuple elts x1 tpos) (.Call (.Name "enumerate" p) [a] [] pos) (kQR k X.K ta):=by
 intro pins s σ H R I h;refine Call_ (vV I hg hm boot_enumerate (ma (thn (ha pos pins s σ H _ I h) λ us s1 ⟨vs,H1,I1,r1,q1⟩=>?_) hs rfl));obtain ⟨l,rfl,⟨xs,hq⟩,q⟩:=q1;obtain ⟨u,rfl,r⟩:=zL r1;cases r
 obtain ⟨its,rv,pq⟩:=I1.sq hq;refine pR pq λ h' he hi hk=>?_;refine DT (s:={ s1 with heap:=h' }) he ?_
 have f:∀ b,s1.heap.objs.size<=b->zS X pins H1 b:=λ b hb=>I1.fpOk hb (I1.hok.fresh hb);refine ⟨_,[s1.heap.objs.size+1,s1.heap.objs.size],_,_,H1,rfl,I1.kept (t':=s1.toks) hk,kDM k l _ _,⟨⟨_,he⟩,hi⟩,λ b hb=>?_,q⟩;rcases gu.mp hb with rfl | hb
 ·exact f _ (by omega)
 ·rw [eu.mp hb];exact f _ (ba _)
end
end L2
namespace L2
open PySem PySem.Spec PyProof.Rows
section
variable {X:Cx} {tg iter el:fm} {ifs:List fm} {sc:qw} {pos py spos:Pos} {Nc:List Str} {js:List (Option Nat)} {wi:TI} {i:Nat} {y:Str}
theorem kCF {g:TG} {bd:ag->TB} (hx:X.xe=λ _ _=>False) (hc:X.calm=true) (hN:X.N.Nodup) (hiN:X.N[i]?=some y) (hy:Loc X.env.scope y) (hi:PI X tg iter wi) (S:CS sc X.env.scope) (cap:nI js Nc X.N sc.names=true)
  (hg:∀ C s₂ H₂ fp pins,PG (cxC X Nc sc C s₂ H₂ fp pins) tg g)
  (hb:∀ C s₂ H₂ fp pins D L,PTl (cxC X Nc sc C s₂ H₂ fp pins) (yK ifs (cxC X Nc sc C s₂ H₂ fp pins).env (do let _ <-call (.builtin "list.append") [.ref D,<-eval el (cxC X Nc sc C s₂ H₂ fp pins).env]) L) L (bd D))
  (hs:∀ x,foldedSetIterable iter X.env x=pure x:=by intro _;rfl)
  (hsw:swapsWith (.ListComp el [⟨tg,iter,ifs,0⟩] sc pos) (some (.Name y py)) spos.line X.env=pure true:=by rfl)
  (hf:X.fn y=true\/X.env.scope.names.lookup y=some .local:=by first | exact .inl rfl | exact .inr rfl | assumption) :
  PS X (.Assign [.Name y py] (.ListComp el [⟨tg,iter,ifs,0⟩] sc pos) spos) (kJD (tLC js wi g bd) (aB i)):=by
 intro pins s σ H D0 I h;have hcl:closureFor sc X.env=pure (lR sc X.env):=vX λ y hy hf=>I.ok.has y.1 (.inl (S.free y hy hf));rw [exec_Assign_Name_used _ _ _ _ hsw];refine aa (mh (aa ?_));show br _ X.A (do let _ <-comprehension (.ListComp el [⟨tg,iter,ifs,0⟩] sc pos) sc X.env _ (newList []) false (eval iter X.env) (some (assign (.Name y py) X.env))) _ _ s
 refine aa (jc (vq (use:=some (assign (.Name y py) X.env)) (Q:=λ _ s'=>SP X pins D0 .next s') rfl hs hcl S.kind S.names
  (thn (hi pins s σ H _ I h) λ v s1 h1=>thn h1 λ itv s2 h2=>?_)) (λ _ s' hq=>aq (aq hq)) λ _ _ e=>e)
 obtain ⟨it,fp,tn,J,H2,e,I2,T,st2,f2,hw⟩:=h2;subst e;have hlt:∀ b∈fp,b<s2.heap.objs.size:=λ b hb=>let ⟨o,ho,_⟩:=T.obj _ _ st2 b hb;bf ho;refine fu (zc S.nocell (by intro y hy;simp at hy) (λ h₁ hns₁ hsb₁=>?_) S.kind);dsimp only at hns₁ hsb₁ ⊢;generalize hH2:s2.heap.push { cls:=.type "list",dict:=none,data:=.seq ([]:List af).toArray }=G at hns₁ hsb₁ ⊢;have hCs:G.objs.size=s2.heap.objs.size+1:=by rw [<-hH2,ni]
 have hDC:s2.heap.objs.size≠G.objs.size:=by omega
 have hCle:s2.heap.objs.size<=G.objs.size:=by omega
 have old:∀ b o,s2.heap.get? b=some o->h₁.get? b=some o:=λ b o e=>hsb₁.extBut b o (dh (be (bf e) hCle)) (ak _ (hH2 ▸ ak _ e));have hacc:h₁.get? s2.heap.objs.size=some { cls:=.type "list",dict:=none,data:=.seq ([]:List af).toArray }:=hsb₁.extBut _ _ hDC (ak _ (hH2 ▸ cv _ rfl));have new:ObjOk X.prog X.w (upd H2 s2.heap.objs.size (.lst [])) h₁ s2.heap.objs.size (.lst []):=⟨iA _,[],_,.nil,hacc⟩;have I4:=gJ (js:=js) (Nc:=Nc) (tk:=s2.toks+([]:List (Str×af)).length) I2 S f2 hlt cap hCle (ba _) hDC old hns₁ new;have hn:H2 s2.heap.objs.size=none:=I2.fresh
 have f4:∀ b∈fp,zS (cxC X Nc sc G.objs.size s2 H2 fp pins) [] (upd H2 s2.heap.objs.size (.lst [])) b:=λ b hb=>by
  obtain ⟨h0,h1,h2,h3,h4,h5⟩:=f2 b hb;refine ⟨?_,dh (be (hlt b hb) hCle),λ z=>?_,.inl hb,λ x c z=>?_,λ p hp=>?_⟩
  ·rw [kN (dh (hlt b hb))];exact h0
  ·rcases gu.mp (I2.stkSub b z) with q | q
   ·exact h1 q
   ·exact h2 q
  ·exact h4 x c (nH sc.names [] (λ z=>nomatch z) z)
  ·rcases gf.mp hp with z | z
   ·exact h5 p z
   ·exact absurd z (by simp)
 have st4:tn 0 h₁:=T.keep _ _ _ st2 λ b hb o e=>old b o e
 have loop:codeAny (model X.prog X.w) X.A (.compLoop (.ListComp el [⟨tg,iter,ifs,0⟩] sc pos) 0 (.ref it) (.ref s2.heap.objs.size) (compEnvC sc (lR sc X.env) G.objs.size X.env))
   (compPost (model X.prog X.w) X.A X.xe (some (assign (.Name y py) X.env)) (λ _ s'=>SP X pins D0 .next s') (.ref s2.heap.objs.size) G.objs.size) { s2 with heap:=h₁,toks:=s2.toks+([]:List (Str×af)).length }:=by
  refine wW (X:=cxC X Nc sc G.objs.size s2 H2 fp pins) (.inl ⟨el,rfl⟩) hx hc (kBE _ _ _ _ _ _ _ _ _) T (hg _ _ _ _ _) (hb _ _ _ _ _ _ _) I4 st4 f4 (hw _ hn) λ σ' H' s' I' q=>?_;obtain ⟨m',hm',_⟩:=I'.loc;have IB:Inv X pins σ H' { s' with heap:=s'.heap }:=gK I2 f2 hCle I' (DR ..)
  have nC:H' G.objs.size=none:=I'.free;have fC:zS X pins H' G.objs.size:=I2.fpOk hCle nC;show br _ X.A (assign (.Name y py) X.env (.ref s2.heap.objs.size)) _ _ s';refine DG (lY (v:=.ref s2.heap.objs.size) IB hN hiN hy rfl (λ s'' IC hsb=>?_) hf);obtain ⟨a,sb,ha⟩:=hsb
  have aC:G.objs.size≠a:=by
   rcases ha with rfl | ha
   ·exact fC.2.1
   ·exact λ z=>fC.2.2.2.2.1 y a ha z.symm
  refine ⟨m',hm'.sameBut sb aC,λ h' hs'=>?_⟩;exact ⟨_,H',IC.turnedL (t':=s''.toks) (ch:=[G.objs.size]) (λ b o hb' e=>hs'.extBut b o (λ z=>hb' (by simp [z])) e) (λ b hb'=>by rw [eu.mp hb'];exact fC),q⟩
 exact zH (.inl ⟨el,rfl⟩) rfl rfl loop (T.self _ _ _ _ _ st4 loop)
end
theorem aD {k:Bool} {K:ai} {a:ag} {xs:List V} {g:TG} {tb:TS} {D:Ends} {σ:St} {H:Hp} (Pv:Nat->St->Hp->Prop) (h0:Pv 0 σ H) (hl:∀ i σ H,i<=xs.length->Pv i σ H->SqX K k H a xs)
  (hs:∀ i x T σ H,xs[i]?=some x->H T=none->Pv i σ H->g (.ref T) σ (upd H T (.tup [.int i,x])) λ σ2 H2=>tb { D with nx:=Pv (i+1),ct:=Pv (i+1),bk:=D.nx } σ2 H2) (hd:∀ σ H,Pv xs.length σ H->D.nx σ H) :
  ∃ W:Nat->Nat->St->Hp->Prop,(∃ m,W 0 m σ H)/\∀ i m σ H,W i m σ H ->
   ((Ite k K a).stop i H/\D.nx σ H)\/((Ite k K a).go i H/\∃ N:St->Hp->Prop,(∀ σ' H',N σ' H'->∃ m',m'<m/\W (i+1) m' σ' H')/\∀ x H',(Ite k K a).yld i H x H'->g x σ H' λ σ2 H2=>tb { D with nx:=N,ct:=N,bk:=D.nx } σ2 H2):=by
 refine ⟨λ i m σ H=>m=xs.length-i/\i<=xs.length/\Pv i σ H,⟨xs.length,by simp,iA _,h0⟩,?_⟩;rintro i m σ H ⟨rfl,hle,p⟩;have q1:=hl i σ H hle p;by_cases hi:i<xs.length
 ·refine .inr ⟨⟨xs,xs[i],q1,by simp [hi]⟩,Pv (i+1),λ σ' H' q=>⟨xs.length-(i+1),by omega,rfl,by omega,q⟩,λ x H' hy=>?_⟩
  obtain ⟨T,x1,nT,rfl,e1,rfl⟩:=hy;exact hs i x1 T σ H (e1 xs q1) nT p
 ·have:i=xs.length:=by omega
  subst this;exact .inl ⟨⟨xs,q1,rfl⟩,hd σ H p⟩
theorem kDY (bs:List Bool):(qg bs.length).any (λ i=>bs.getD i false)=bs.any id:=by
 rw [iH,BX,BX];constructor
 ·rintro ⟨i,hi,e⟩
  have hl:i<bs.length:=uz.mp hi;refine ⟨bs[i],si hl,?_⟩;simpa [fg,hl] using e
 ·rintro ⟨b,hb,e⟩
  obtain ⟨i,hi,rfl⟩:=iR.mp hb;refine ⟨i,uz.mpr hi,?_⟩;simpa [fg,hi] using e
theorem kBD:∀ {bs:List Bool} {its:List af},Vals (bs.map V.bl) its->its=bs.map mz
 | [],_,r=>by cases r;rfl
 | b::bs,_,r=>by
  cases r with
  | cons r1 r2 =>
   cases r1
   rw [kBD r2]
   rfl
section
variable {X:Cx}
theorem kFK {prog:cw} {w:eK} {A:dj} {bs:List Bool} {items:Array af} (e:items=(bs.map mz).toArray):TruthOf prog w A (λ i v=>items[i]?=some v) (λ i=>bs.getD i false):=by
 intro i v s Q E h q;rw [e] at h;have h':(bs.map mz)[i]?=some v:=by simpa using h
 rw [bq] at h'
 cases z:bs[i]? with
 | none=>rw [z] at h';cases h'
 | some b =>
  rw [z] at h'
  cases h'
  refine kj ?_;simpa [fg,z] using q
inductive hG (K:ai) (xs:List V) (H:Hp) (Q:VK):Prop
 | mk:∀ (a:ag) (bs:List Bool),(xs=[.ref a])->(SqL K H a (bs.map V.bl))->(Q (.bl (bs.any id)) H)->hG K xs H Q
theorem kFB (hc:X.calm=true):xB X (.builtin "any") (hG X.K):=by
 intro pins s σ H xs us Q I r h;obtain ⟨a,bs,rfl,hS,q⟩:=h;obtain ⟨u,rfl,r1⟩:=zL r;cases r1
 obtain ⟨its,rv,ht,hz⟩:=I.list hS;have hl:=ht.isList;have hne:a≠s.heap.objs.size:=by obtain ⟨o,e,_⟩:=hl;exact dh (bf e)
 have eits:=kBD rv;refine call_any_walk (xh hl ⟨_,_,_,_,_,_,_,rfl,GI (A:=X.A.in1) (I.ok.hd hc) _ a hne its.toArray,⟨⟨_,cv _ rfl,rfl,rfl⟩,hl.push _⟩,kFK (bs:=bs) (by rw [eits]),λ h' tk hk=>?_⟩);have e:its.toArray.size=bs.length:=by rw [eits];simp
 rw [e,kDY];refine ⟨.bl _,H,I.kept λ b o e'=>hk b o (λ z=>?_) (ak _ e'),rfl,q⟩;rw [eu.mp z] at e';exact absurd (bf e') (iQ _)
end
section
variable {X:Cx}
inductive gX (K:ai) (xs:List V) (H:Hp) (Q:VK):Prop
 | mk:∀ (a:ag) (ns:List Int),(xs=[.ref a])->(SqL K H a (ns.map V.int))->(0<ns.length)->(∀ M,M∈ns->(∀ i∈ns,M<=i)->Q (.int M) H)->gX K xs H Q
theorem kEZ (hc:X.calm=true):xB X (.builtin "min") (gX X.K):=by
 intro pins s σ H xs us Q I r h;obtain ⟨a,ns,rfl,hS,hne,q⟩:=h;obtain ⟨u,rfl,r1⟩:=zL r;cases r1
 obtain ⟨its,rv,ht,hz⟩:=I.list hS;have hi:=cW rv;obtain ⟨xs,e⟩:=hi.allInts.items;have hns:ns=xs.toList.map (·.1):=by rw [<-hi.numsOf,<-nums_intItems,<-e]
 have hsz:0<xs.size:=by
  have h3:=hne;rw [hns,bg,eI] at h3;exact h3
 have hl:=ht.isList;rw [e] at hl;refine min_intList (I.ok.hd hc) hl hsz λ v h' tk hv hk=>?_;obtain ⟨t,rfl⟩:=EM hv;obtain ⟨h1,h2⟩:=argBest_lt (numAt xs) (xs.size-1);refine ⟨.int _,H,I.kept hk,⟨_,rfl⟩,q _ ?_ λ a ha=>?_⟩
 ·rw [hns,Eh];exact getD_mem (by rw [bg,eI];omega)
 ·rw [hns] at ha
  obtain ⟨j,hj,rfl⟩:=mem_getD ha;rw [bg,eI] at hj;rw [<-Eh];exact h2 j (by omega)
end
section
variable {X:Cx} {tg iter el tg2 iter2:fm} {ifs ifs2:List fm} {sc:qw} {pos:Pos} {Nc:List Str} {js:List (Option Nat)} {wi wi2:TI} {g g2:TG}
def kMJ (wi2:TI) (g2:TG) (b2:TB):TB:=λ N σ H=>wi2 σ H λ J H1=>uD J g2 b2 N σ H1
theorem kGZ {D:ag} {b2:TB} {L:GS} {e:fm} (ee:e=.ListComp el [⟨tg,iter,[],0⟩,⟨tg2,iter2,ifs2,0⟩] sc pos) (hx:X.xe=λ _ _=>False) (hc:X.calm=true) (hi:PI X tg2 iter2 wi2) (hg:PG X tg2 g2)
  (hb:∀ L,PTl X (yK ifs2 X.env (do let _ <-call (.builtin "list.append") [.ref D,<-eval el X.env]) L) L b2) (hs:∀ x,foldedSetIterable iter2 X.env x=pure x) :
  PTl X (kFM [] X.env iter2 (λ i=>.compStart e 1 i (.ref D) X.env) L) L (kMJ wi2 g2 b2):=by
 subst ee;intro pins s σ H N I h;unfold kFM;refine aa (EU ?_);show br _ _ (eval iter2 X.env >>= _) _ _ s;refine aa (thn (hi pins s σ H _ I h) λ v s1 h1=>?_);refine aa (mh (aa (EL (hs v) (aa (eQ (thn h1 λ itv s2 h2=>?_))))));obtain ⟨it,fp,tn,J,H2,e,I2,T,st2,f2,hw⟩:=h2;subst e;refine aa (wpAny_runOwn ?_)
 have loop:codeAny (model X.prog X.w) X.A (.compLoop (.ListComp el [⟨tg,iter,[],0⟩,⟨tg2,iter2,ifs2,0⟩] sc pos) 1 (.ref it) (.ref D) X.env)
   (λ r s'=>match r with | .ok _=>br (model X.prog X.w) X.A (again L) (λ fin s'=>fin=.again L/\∃ σ' H',Inv X pins σ' H' s'/\N σ' H') X.xe s' | .error e=>cameBackBy (model X.prog X.w) X.A X.env X.xe e s') s2 :=
  wW (.inl ⟨el,rfl⟩) hx hc (kFI _ _ _ _ _ _ _ _ _ _ _ _) T hg (hb _) I2 st2 f2 hw λ σ' H' s' I' q=>aq ⟨rfl,σ',H',I',q⟩
 exact zH (.inl ⟨el,rfl⟩) rfl rfl loop (T.self _ _ _ _ _ st2 loop)
theorem kJV {bd:ag->TB} (hx:X.xe=λ _ _=>False) (hc:X.calm=true) (hi:PI X tg iter wi) (S:CS sc X.env.scope) (cap:nI js Nc X.N sc.names=true)
  (hg:∀ C s₂ H₂ fp pins,PG (cxC X Nc sc C s₂ H₂ fp pins) tg g) (hi2:∀ C s₂ H₂ fp pins,PI (cxC X Nc sc C s₂ H₂ fp pins) tg2 iter2 wi2) (hg2:∀ C s₂ H₂ fp pins,PG (cxC X Nc sc C s₂ H₂ fp pins) tg2 g2)
  (hb:∀ C s₂ H₂ fp pins D L,PTl (cxC X Nc sc C s₂ H₂ fp pins) (yK ifs2 (cxC X Nc sc C s₂ H₂ fp pins).env (do let _ <-call (.builtin "list.append") [.ref D,<-eval el (cxC X Nc sc C s₂ H₂ fp pins).env]) L) L (bd D))
  (hs:∀ x,foldedSetIterable iter X.env x=pure x:=by intro _;rfl) (hs2:∀ C s₂ H₂ fp pins x,foldedSetIterable iter2 (cxC X Nc sc C s₂ H₂ fp pins).env x=pure x:=by intro _ _ _ _ _ _;rfl) :
  PE X (.ListComp el [⟨tg,iter,[],0⟩,⟨tg2,iter2,ifs2,0⟩] sc pos) (tLC js wi g λ D=>kMJ wi2 g2 (bd D)):=by
 intro pins s σ H Q I h;rw [eval_ListComp];have hcl:closureFor sc X.env=pure (lR sc X.env):=vX λ y hy hf=>I.ok.has y.1 (.inl (S.free y hy hf));refine vq (use:=none) rfl hs hcl S.kind S.names (thn (hi pins s σ H _ I h) λ v s1 h1=>thn h1 λ itv s2 h2=>?_);obtain ⟨it,fp,tn,J,H2,e,I2,T,st2,f2,hw⟩:=h2;subst e;have hlt:∀ b∈fp,b<s2.heap.objs.size:=λ b hb=>let ⟨o,ho,_⟩:=T.obj _ _ st2 b hb;bf ho;refine fu (zc S.nocell (by intro y hy;simp at hy) (λ h₁ hns₁ hsb₁=>?_) S.kind);dsimp only at hns₁ hsb₁ ⊢;generalize hH2:s2.heap.push { cls:=.type "list",dict:=none,data:=.seq ([]:List af).toArray }=G at hns₁ hsb₁ ⊢;have hCs:G.objs.size=s2.heap.objs.size+1:=by rw [<-hH2,ni]
 have hDC:s2.heap.objs.size≠G.objs.size:=by omega
 have hCle:s2.heap.objs.size<=G.objs.size:=by omega
 have old:∀ b o,s2.heap.get? b=some o->h₁.get? b=some o:=λ b o e=>hsb₁.extBut b o (dh (be (bf e) hCle)) (ak _ (hH2 ▸ ak _ e));have hacc:h₁.get? s2.heap.objs.size=some { cls:=.type "list",dict:=none,data:=.seq ([]:List af).toArray }:=hsb₁.extBut _ _ hDC (ak _ (hH2 ▸ cv _ rfl));have new:ObjOk X.prog X.w (upd H2 s2.heap.objs.size (.lst [])) h₁ s2.heap.objs.size (.lst []):=⟨iA _,[],_,.nil,hacc⟩;have I4:=gJ (js:=js) (Nc:=Nc) (tk:=s2.toks+([]:List (Str×af)).length) I2 S f2 hlt cap hCle (ba _) hDC old hns₁ new;have hn:H2 s2.heap.objs.size=none:=I2.fresh
 have f4:∀ b∈fp,zS (cxC X Nc sc G.objs.size s2 H2 fp pins) [] (upd H2 s2.heap.objs.size (.lst [])) b:=λ b hb=>by
  obtain ⟨h0,h1,h2,h3,h4,h5⟩:=f2 b hb;refine ⟨?_,dh (be (hlt b hb) hCle),λ z=>?_,.inl hb,λ x c z=>?_,λ p hp=>?_⟩
  ·rw [kN (dh (hlt b hb))];exact h0
  ·rcases gu.mp (I2.stkSub b z) with q | q
   ·exact h1 q
   ·exact h2 q
  ·exact h4 x c (nH sc.names [] (λ z=>nomatch z) z)
  ·rcases gf.mp hp with z | z
   ·exact h5 p z
   ·exact absurd z (by simp)
 have st4:tn 0 h₁:=T.keep _ _ _ st2 λ b hb o e=>old b o e
 have loop:codeAny (model X.prog X.w) X.A (.compLoop (.ListComp el [⟨tg,iter,[],0⟩,⟨tg2,iter2,ifs2,0⟩] sc pos) 0 (.ref it) (.ref s2.heap.objs.size) (compEnvC sc (lR sc X.env) G.objs.size X.env))
   (compPost (model X.prog X.w) X.A X.xe none (EP X pins σ Q) (.ref s2.heap.objs.size) G.objs.size) { s2 with heap:=h₁,toks:=s2.toks+([]:List (Str×af)).length }:=by
  refine wW (X:=cxC X Nc sc G.objs.size s2 H2 fp pins) (.inl ⟨el,rfl⟩) hx hc (kFJ _ _ _ _ _ _ _ _ _ _ _ _) T (hg _ _ _ _ _)
   (kGZ (X:=cxC X Nc sc G.objs.size s2 H2 fp pins) rfl hx hc (hi2 _ _ _ _ _) (hg2 _ _ _ _ _) (λ L=>hb _ _ _ _ _ _ L) (hs2 _ _ _ _ _)) I4 st4 f4 (hw _ hn) λ σ' H' s' I' q=>?_
  obtain ⟨m',hm',_⟩:=I'.loc;exact ⟨m',hm',λ h' hs'=>⟨.ref s2.heap.objs.size,H',gK I2 f2 hCle I' hs',rfl,q⟩⟩
 exact zH (.inl ⟨el,rfl⟩) rfl rfl loop (T.self _ _ _ _ _ st4 loop)
end
open AutoSeq1 (wpAny_loadPart')
theorem kDN (l:ag) (items:Array af) (n:Nat) (dd:Option ag) (sl:Array (Option af)) (x:af) (e:af->Bool) (j:Nat) (hj:j<items.size) (hit:e items[j]=true) (hno:∀ m (hm:m<items.size),m<j->e items[m]=false) :
  Meets (wb.«tuple.index» ⟨[.ref l,x],[]⟩) (λ A R s=>s.heap.get? l=some { cls:=.type "tuple",dict:=dd,data:=.seq items n,slots:=sl }/\(∀ y,y∈items->Bf A.in1 s y x (e y))/\R (.ok (.ret (.int j s.toks))) { s with toks:=s.toks+1 }) :=
 .of_wp λ prog w A R s h=>by
  obtain ⟨hp,g,d,tk,os⟩:=s;obtain ⟨hl,he,h⟩:=h
  wp_walk using ow hl
  have hR:∀ (f:Nat->Option uc×PUnit->Sem (ForInStep (Option uc×PUnit))) (Q:Option uc×PUnit->aj->Prop) (E:af->aj->Prop) (s0:aj),
    br (model prog w) A.in1 (forIn (GA 0 items.size) ((none:Option uc),GJ) f) Q E s0->br (model prog w) A.in1 (forIn [:min items.size items.size] ((none:Option uc),GJ) f) Q E s0:=λ f Q E s0 z=>by
   rw [CL];simpa [Fo] using z
  refine hR (λ i __s=>match items[i]? with
      | some y=>do
       if <-eqBool y x then do
         let r <-retInt (i:Nat)
         pure (uw (some r,()))
        else pure (gj (none,()))
      | _=>pure (gj (none,()))) _ _ _ ?_
  refine rf _ (λ rest b s'=>b.1=none/\s'=⟨hp,g,d,tk,os⟩/\∃ i,i<=j/\rest=GA i (items.size-i)) _ ?_ ?_ _ _ ⟨rfl,rfl,0,iA _,by simp⟩
  ·rintro y rest b s' ⟨hb,rfl,i,hi,er⟩
   have hlt:i<items.size:=by omega
   rw [show items.size-i=(items.size-(i+1))+1 by omega,List.range'_succ] at er;injection er with e1 e2
   subst e1;have hg:items[y]?=some items[y]:=by simp [hlt]
   simp only [hg];refine aa (he _ (Az hlt) prog w _ _ ?_);by_cases c:y=j
   ·subst c
    rw [hit]
    wp_walk
    exact ⟨_,rfl,h⟩
   ·rw [hno y hlt (by omega)]
    wp_walk
    exact ⟨rfl,rfl,y+1,by omega,e2⟩
  ·rintro b s' ⟨hb,rfl,i,hi,er⟩
   have:ph ([]:List Nat)=items.size-i:=by rw [er,List.length_range']
   simp at this;omega
section
variable {X:Cx}
inductive kCB (K:ai) (x:V) (vs:List V) (H:Hp) (Q:VK):Prop
 | mk:∀ (l:ag) (ns:List Int) (n:Int) (j:Nat),(x=.ref l)->(vs=[.int n])->(SqT K H l (ns.map V.int))->(aS ns n j)->(Q (.int j) H)->kCB K x vs H Q
theorem mQ:MtM X "tuple.index" (kCB X.K):=by
 intro pins s σ H x vs v us Q I rx rv h;obtain ⟨l,ns,n,j,rfl,rfl,hH,hj,q⟩:=h;cases rx
 obtain ⟨u,rfl,t,rfl⟩:=rv.one;obtain ⟨its,r,⟨⟨cls,dd,dt,sl⟩,ho,hc,m,hd⟩,hz⟩:=I.tuple hH;simp only at hc hd;subst hc hd;obtain ⟨h1,h2,h3⟩:=nA r hj;refine Bk F.slot_tuple_index ⟨_,ho,rfl⟩ F.entry_tuple_index (F.args_tuple_index_2 _ _) (kDN l its.toArray m dd sl (.int n t) (gO n) j h1 h2 h3) ⟨ho,λ y hy=>(uB r n t y hy).at _ _,?_⟩;exact ⟨.int j,H,I.tok _,⟨_,rfl⟩,q⟩
end
end L2
namespace L2
open PySem PySem.Spec PyProof.Rows
theorem qA {N P:List Str} {sc:qw} (a:sc.kind=.function:=by rfl) (b:sc.isCoroutine=false:=by rfl) (c:sc.isGenerator=false:=by rfl) (d:N.Nodup:=by decide +kernel) (e:N.take P.length=P:=by rfl)
  (g:∀ x∈P,sc.names.lookup x=some .local\/sc.names.lookup x=some .cell:=by decide +kernel) (h:∀ y∈sc.names,y.2≠.free:=by decide +kernel):FnScope N P sc:=⟨a,b,c,d,e,g,h⟩
theorem kQI {α:Type} {us:List α} (h:us.length=0):us=[]:=wx.mp h
theorem kKK {α:Type} {us:List α} {n:Nat} (h:us.length=n+1):∃ a r,us=a::r/\r.length=n:=by
 cases us with
 | nil=>exact nomatch h
 | cons a r=>exact ⟨a,r,rfl,Nat.succ.inj h⟩
theorem kKL {α:Type} {us:List α} (h:us.length=1):∃ a,us=[a]:=by
 obtain ⟨a,r,rfl,g⟩:=kKK h;exact ⟨a,by rw [kQI g]⟩
theorem kHU {α:Type} {us:List α} (h:us.length=2):∃ a b,us=[a,b]:=by
 obtain ⟨a,r,rfl,g⟩:=kKK h;obtain ⟨b,rfl⟩:=kKL g;exact ⟨a,b,rfl⟩
theorem kNT {α:Type} {us:List α} (h:us.length=3):∃ a b c,us=[a,b,c]:=by
 obtain ⟨a,r,rfl,g⟩:=kKK h;obtain ⟨b,c,rfl⟩:=kHU g;exact ⟨a,b,c,rfl⟩
theorem kRO {α:Type} {us:List α} (h:us.length=4):∃ a b c d,us=[a,b,c,d]:=by
 obtain ⟨a,r,rfl,g⟩:=kKK h;obtain ⟨b,c,d,rfl⟩:=kNT g;exact ⟨a,b,c,d,rfl⟩
section
variable {P:cw} {w:eK} {K:ai} {mg:Str->Option af} {base:eH}
theorem qC {n:Str} {st:fq} {N ps:List Str} {k:Nat} {sp:Sp} (X:∃ h:eH,K.In h/\h.Ns cu mg) (d:qH K n st) (S:FnScope N ps (kM st))
  (hbody:∀ (f:ag) (cdv:af) (A:dj) (outer:List Env) (s:aj) (H:Hp) (vs:List V) (Q:VK) (E:XK),N.Nodup->Room k (A.deeper (envOfC n (kM st) s.heap.objs.size f cdv))->sp vs H Q E ->
   ∃ t,PSs (qE CX0 P w K mg base N n (kM st) f cdv A outer s H E).nox (qZ st) t/\t { nx:=λ _ H'=>Q .non H',rt:=Q } (start N vs) H)
  (len:∀ vs H Q E,sp vs H Q E->vs.length=ps.length:=by intro _ _ _ _ h;first | (cases h;subst_vars;rfl) | (rcases h with h | h<;>cases h<;>subst_vars<;>rfl))
  (b:∀ (kV doc pm:af) (an:Option ag) (cdv ct:af) (us:List af),us.length=ps.length->bindArgs (iN n n (xA st) (qZ st) (kM st) .none kV doc pm an cdv ct) ⟨us,[]⟩=pure (ps.zip us):=by
   intro _ _ _ _ _ _ us hl;first | (obtain ⟨_,rfl⟩:=kKL hl;rfl) | (obtain ⟨_,_,rfl⟩:=kHU hl;rfl) | (obtain ⟨_,_,_,rfl⟩:=kNT hl;rfl) | (obtain ⟨_,_,_,_,rfl⟩:=kRO hl;rfl) | (obtain ⟨_,_,_,_,_,rfl⟩:=len5 hl;rfl) | (obtain rfl:=kQI hl;rfl)):Own.Has P w K mg base n ps (k+1) sp:=by
 obtain ⟨h,x,g⟩:=X;exact kOE x g d (λ f fd F=>F.ok S len λ cdv A outer s H vs Q E=>hbody f cdv A outer s H vs Q E S.nd) b
end
inductive mB (K:ai) (vs:List V) (H:Hp) (Q:VK) (E:XK):Prop
 | mk (a:ag) (ns:List Int):vs=[.ref a]->SqL K H a (ns.map V.int)->ns.length<=63->(∀ H',Q (.bl true) H')->mB K vs H Q E
structure Cn where
 P:cw
 w:eK
 K:ai
 mg:Str->Option af
 base:eH
instance:Nonempty Cn:=⟨⟨default,⟨λ _ _=>0,{ strHash:=λ _=>0,shareClass:=id,mergeTok:=id,idOf:=λ _=>0,idOfShared:=λ _ _=>0,followText:=λ _=>true,idOfImm:=λ _=>0 }⟩,default,λ _=>none,default⟩⟩
section
variable {X:Cx} {e:fm} {es:List fm} {te:TE} {t:TA} {p pos pos':Pos} {x:Str}
theorem pf {j k:Nat} {ps:List Str} {sp:Sp} (h:Own.Has X.prog X.w X.K X.mg X.base x ps j sp) (hr:Room k X.A) (ha:PA X (e::es) t) (hj:j<=k:=by decide) (hg:Gl X x:=by rfl)
  (hdb:(x == ("__debug__" : Str))=false:=by decide) (he:starEach (e::es) X.env=(false,eval e X.env)::starEach es X.env:=by rfl) (hpl:(backTo pos (starEach es X.env)).any (·.1)=false:=by rfl) :
  PE X (.Call (.Name x p) (e::es) [] pos) (dD sp [] E0 t):=Own.pe_has h (hr.mono hj) hg ha hdb he hpl
theorem pst (i:Nat) (hN:X.N.Nodup) (he:PE X e te) (hi:X.N[i]?=some x:=by rfl) (hx:Loc X.env.scope x:=by first | exact Ds rfl | exact Eg rfl) (hs:swapsWith e (some (.Name x pos')) pos.line X.env=pure false:=by rfl)
  (hf:X.fn x=true\/X.env.scope.names.lookup x=some .local:=by first | exact .inl rfl | exact .inr rfl):PS X (.Assign [.Name x pos'] e pos) (kJD te (aB i)):=kNH hN hi hx he hs hf
theorem pgn (i:Nat) (hN:X.N.Nodup) (hi:X.N[i]?=some x:=by rfl) (hx:Loc X.env.scope x:=by first | exact Ds rfl | exact Eg rfl) (hf:X.fn x=true\/X.env.scope.names.lookup x=some .local:=by first | exact .inl rfl | exact .inr rfl):PG X (.Name x pos) (aB i):=kCG hN hi hx hf
theorem aY {tg iter:fm} {body:List fq} {wi:TI} {g:TG} {tb:TS} (hi:PI X tg iter wi) (hg:PG X tg g) (hb:PSs X body tb) (hp:FZ (model X.prog X.w) X.A X.env X.xe:=by exact Bt) (hc:X.calm=true:=by rfl)
  (hs:∀ x,foldedSetIterable iter X.env x=pure x:=by intro _;rfl):PS X (.For tg iter body [] pos) (kPN wi g tb):=kNI hp hc hi hg hb hs
variable {a b c d:fm} {ta tb tc td:TE}
theorem pix {r:R2} (hr:IxR X r) (ha:PE X a ta) (hb:PE X b tb) (hs:kDG b:=by exact λ _ _=>rfl):PE X (.Subscript a b pos) (tOp r ta tb):=kQB hr ha hb hs
theorem p1 (ha:PE X a ta) (h1:starEach [a] X.env=(false,eval a X.env)::starEach [] X.env:=by rfl):PA X [a] (vC ta kDQ):=kH ha kZ h1
theorem p2 (ha:PE X a ta) (hb:PE X b tb) (h1:starEach [a,b] X.env=(false,eval a X.env)::starEach [b] X.env:=by rfl) (h2:starEach [b] X.env=(false,eval b X.env)::starEach [] X.env:=by rfl):PA X [a,b] (vC ta (vC tb kDQ)):=kH ha (kH hb kZ h2) h1
theorem nd1 {a:Str}:[a].Nodup:=uq.mpr ⟨Dy,Ac⟩
theorem nd2 {a b:Str} (h:a≠b):[a,b].Nodup:=uq.mpr ⟨λ m=>h (eu.mp m),nd1⟩
theorem nd3 {a b c:Str} (h:a≠b) (h':a≠c) (h2:b≠c):[a,b,c].Nodup:=uq.mpr ⟨λ m=>(gu.mp m).elim h λ m=>h' (eu.mp m),nd2 h2⟩
theorem pgc (i:Nat) (hN:X.N.Nodup:=by first | exact nd1 | exact nd2 (by decide) | exact nd3 (by decide) (by decide) (by decide)) (hi:X.N[i]?=some x:=by rfl) (hx:Loc X.env.scope x:=by first | exact Ds rfl | exact Eg rfl) (hf:X.fn x=true\/X.env.scope.names.lookup x=some .local:=by first | exact .inl rfl | exact .inr rfl):PG X (.Name x pos) (aB i):=kCG hN hi hx hf
section
variable {o:fm} {to:TE} {r:V->List V->Hp->VK->Prop} {apos cpos:Pos}
theorem yO {n:Str} {id:String} (slot:Slot "list" n id) (hty:typeOf (.builtin id)=pure (.type "method_descriptor")) (hm:MtR X id r) (ho:PE X o to) (ha:PA X (e::es) t)
  (hbase:attributeBase o n X.env (eval o X.env)=eval o X.env:=by rfl)
  (hfew:((backTo cpos (starEach (e::es) X.env)).all (λ x=>!x.1) && (backToKw cpos (keywordEach [] X.env)).all (λ x=>x.1.isSome)
   && decide ((e::es).length+([]:List DO).length+(if ([]:List DO).isEmpty then 0 else 1)<30))=true:=by rfl)
  (hline:(apos.endLine == cpos.line)=true:=by rfl) (hs:starEach (e::es) X.env=(false,eval e X.env)::starEach es X.env:=by rfl) (hplain:(backTo cpos (starEach es X.env)).any (·.1)=false:=by rfl) :
  PE X (.Call (.Attribute o n apos) (e::es) [] cpos) (tBM X.K "list" r to t):=kHI PySem.F.plainAttrs_list slot hty hm ho ha hbase hfew hline hs hplain
end
end
section
variable {X:Cx} {tg iter kx vx:fm} {ifs:List fm} {sc:qw} {pos:Pos} {Nc:List Str} {js:List (Option Nat)} {wi:TI}
theorem uZ {prog:cw} {w:eK} {A:dj} {E:af->aj->Prop} {s:aj} {t sl:ag} {items:Array af} {vl vu:af} {lo hi:Option Int} {Q:af->aj->Prop} (ht:CF s.heap t items) (hs:s.heap.IsSliceOf sl vl vu .none) (pl:Bg vl lo) (pu:Bg vu hi)
  (hw:HT.sIx items.size 0 lo=0/\HT.sIx items.size items.size hi=items.size) (h:Q (.ref t) s):br (model prog w) A (getItem (.ref t) (.ref sl)) Q E s:=by
 obtain ⟨os,hos,hcs,hds⟩:=id hs;have hTs:s.TypeIs (.ref sl) "slice":=⟨os,hos,hcs⟩;unfold getItem
 try with_reducible refine eQ ?_
 first | refine aa (aq ?_) | skip
 refine aa (DM ht.typeIs (by decide) ?_)
 refine aa (rg (name:=sv "__getitem__") ht.typeIs gz
  (mv gz ht.typeIs Ca ?_ (Cy _ _)))
 show br _ _ (ur (.ref t) >>= _) _ _ s;refine aa (tupleItemsOf_ ht ?_);refine aa (AK hTs ?_);rw [if_pos (by decide)];refine aa (HT.sliceApplied_gen hs pl pu ?_);show br _ _ (if (((HT.sIx items.size 0 lo:Nat):Int) == 0 && (1:Int) == 1 && (HT.sIx items.size items.size hi-HT.sIx items.size 0 lo) == items.size)=true then _ else _) _ _ s;rw [if_pos (by rw [hw.1,hw.2];simp)];unfold Ei
 first
  | refine aa (aa (AK ht.typeIs (aq ?_)))
  | refine aa (AK ht.typeIs (aq ?_))
 rw [if_pos (by decide)];exact aa (uo (aq ⟨_,rfl,aq h⟩))
inductive kNF (K:ai) (x:V) (lo:Option Int) (hi:Option Int) (H:Hp) (Q:VK):Prop
 | mk:∀ a xs,(x=.ref a)->(SqT K H a xs)->((HT.sIx xs.length 0 lo=0/\HT.sIx xs.length xs.length hi=xs.length))->(Q (.ref a) H)->kNF K x lo hi H Q
theorem kJG:SlR X (kNF X.K):=by
 intro pins s σ H x v vl vu lo hi sl Q I rx hs pl pu h;obtain ⟨a,xs,rfl,hx,hw,q⟩:=h;cases rx
 obtain ⟨its,r,ht,hz⟩:=I.tuple hx;have hlen:its.toArray.size=xs.length:=by rw [dq];exact r.length.symm
 refine ⟨"tuple",_,gz.lookup,ht.typeIs,?_⟩;exact uZ ht hs pl pu (by rw [hlen];exact hw) ⟨.ref a,H,I,rfl,q⟩
def kRM (K:ai):V->Option Int->Option Int->Hp->VK->Prop:=λ x lo hi H Q=>kNE K x lo hi H Q\/kNF K x lo hi H Q
theorem kJF:SlR X (kRM X.K):=sl_tup.or kJG
inductive gV (K:ai) (xs:List V) (H:Hp) (Q:VK):Prop
 | mk:∀ (a:ag) (ns:List Int),(xs=[.ref a])->(SqT K H a (ns.map V.int))->(0<ns.length)->(∀ M,M∈ns->(∀ i∈ns,M<=i)->Q (.int M) H)->gV K xs H Q
theorem kEX (hc:X.calm=true):xB X (.builtin "min") (gV X.K):=by
 intro pins s σ H xs us Q I r h;obtain ⟨a,ns,rfl,hS,hne,q⟩:=h;obtain ⟨u,rfl,r1⟩:=zL r;cases r1
 obtain ⟨its,rv,ht,hz⟩:=I.tuple hS;have hi:=cW rv;obtain ⟨xs,e⟩:=hi.allInts.items;have hns:ns=xs.toList.map (·.1):=by rw [<-hi.numsOf,<-nums_intItems,<-e]
 have hsz:0<xs.size:=by
  have h3:=hne;rw [hns,bg,eI] at h3;exact h3
 rw [e] at ht;have ht:s.heap.IsTuple a (intItems xs):=ht;have isz:(intItems xs).size=xs.size:=by simp [intItems]
 have la:a<s.heap.objs.size:=by obtain ⟨o,ho,_⟩:=ht;exact bf ho
 have hdl:X.A.in1.handled=none:=I.ok.hd hc
 refine call_min_walk (sk ht ⟨s.heap.objs.size,[s.heap.objs.size,a],[s.heap.objs.size],(intItems xs).size,(λ i v=>(intItems xs)[i]?=some v),_,_,rfl,
  Walks.tuple hdl _ a (dh la) (intItems xs),⟨?_,?_⟩,?_,(by rw [isz];exact hsz),CmpOf.ints_lt (numAt xs) (λ i v hv=>EM hv),λ v h' tk hv hk=>?_⟩)
 ·exact ⟨_,cv _ rfl,rfl,rfl⟩
 ·obtain ⟨o,ho,hr⟩:=ht
  exact ⟨o,ak _ ho,hr⟩
 ·intro b hb
  show b<(s.heap.push _).objs.size;rw [ni];simp only [gu,Dy,or_false] at hb;rcases hb with rfl | rfl
  ·exact Dz _
  ·exact BA la
 ·rw [isz] at hv
  obtain ⟨t,rfl⟩:=EM hv;obtain ⟨h1,h2⟩:=argBest_lt (numAt xs) (xs.size-1);refine ⟨.int _,H,I.kept (λ b o ho=>hk b o ?_ (ak _ ho)),⟨_,rfl⟩,q _ ?_ λ a ha=>?_⟩
  ·intro z
   rw [eu.mp z] at ho;exact absurd (bf ho) (iQ _)
  ·rw [hns,Eh];exact getD_mem (by rw [bg,eI];omega)
  ·rw [hns] at ha
   obtain ⟨j,hj,rfl⟩:=mem_getD ha;rw [bg,eI] at hj;rw [<-Eh];exact h2 j (by omega)
end
end L2
namespace HT
open PySem PySem.Spec PyProof.Rows
section
variable {prog:cw} {w:eK} {A:dj} {E:af->aj->Prop} {s:aj}
theorem cat_tup0 {t b:ag} {ws:List af} {Q:af->aj->Prop} (ht:CF s.heap t ([]:List af).toArray) (hb:CF s.heap b ws.toArray) (h:Q (.ref b) s):br (model prog w) A (binaryOp .Add (.ref t) (.ref b)) Q E s:=by
 obtain ⟨⟨cls,dd,data,sl⟩,ho,hc,n,hd⟩:=id ht;obtain ⟨⟨cls2,dd2,data2,sl2⟩,ho2,hc2,n2,hd2⟩:=id hb;simp only at hc hd hc2 hd2;subst hc hd hc2 hd2
 exact DL ⟨_,ho,rfl⟩ ⟨_,ho2,rfl⟩ BV Ck xk wt (vp _ _)
   (tuple_addW0 t b _ ws.toArray n n2 dd dd2 sl sl2 (by simp)) ⟨ho,ho2,h⟩
theorem kII {α:Type}:∀ ys:List α,(qg ys.length).filterMap (λ (k:Nat)=>ys[k]?)=ys
 | []=>rfl
 | y::ys=>by
  rw [gy,List.range_succ_eq_map,um];show y::((qg ys.length).map Nat.succ).filterMap (λ (k:Nat)=>(y::ys)[k]?)=y::ys;rw [Ab];exact congrArg (y::·) (kII ys)
theorem gN {α β:Type} {f g:α->Option β}:∀ l:List α,(∀ x∈l,f x=g x)->l.filterMap f=l.filterMap g
 | [],_=>rfl
 | x::l,h=>by rw [um,um,h x (by simp),gN l λ y hy=>h y (by simp [hy])]
theorem kGS {α:Type} (xs:List α):(qg xs.length).filterMap (λ (k:Nat)=>xs[(((xs.length:Int)-1)+(k:Int)*(-1)).toNat]?)=xs.reverse:=by
 have h:=kII xs.reverse;rw [qv] at h;rw [<-h];refine gN _ λ k hk=>?_;have hk:=uz.mp hk;rw [Bz hk]
 congr 1
 omega
end
end HT
namespace L2
open PySem PySem.Spec PyProof.Rows
def kOZ (H H':Hp):Prop:=∀ b o,H b=some o->H' b=some o
section
variable {X:Cx}
theorem sZ {H:Hp} {p:ag} (h:H p=none) (o:HO):kOZ H (upd H p o):=λ b u q=>by rw [kN (kR q h)];exact q
inductive kPW (K:ai) (x:V) (lo:Option Int) (hi:Option Int) (H:Hp) (Q:VK):Prop
 | mk:∀ a xs,(x=.ref a)->(H a=some (.tup xs))->(∀ p H',kOZ H H'->H' p=some (.tup (zR xs lo hi))->Q (.ref p) H')->kPW K x lo hi H Q
theorem kBS:SlR X (kPW X.K):=by
 intro pins s σ H x v vl vu lo hi sl Q I rx hs pl pu h;obtain ⟨a,xs,rfl,hx,q⟩:=h;refine kJF pins s σ H _ v vl vu lo hi sl Q I rx hs pl pu ?_;by_cases c:HT.sIx xs.length 0 lo=0/\HT.sIx xs.length xs.length hi=xs.length
 ·refine .inr ⟨a,xs,rfl,SqT.of hx,c,q a H (λ _ _ e=>e) ?_⟩
  rw [hx];unfold zR;rw [c.1,c.2];simp
 ·exact .inl ⟨a,xs,rfl,SqT.of hx,c,λ p np=>q p _ (sZ np _) kD⟩
inductive kLV (K:ai) (x:V) (y:V) (H:Hp) (Q:VK):Prop
 | mk:∀ a b xs ys,(x=.ref a)->(y=.ref b)->(H a=some (.tup xs))->(H b=some (.tup ys))->(xs.length+ys.length<=sizeLine)->(∀ p H',kOZ H H'->H' p=some (.tup (xs++ys))->Q (.ref p) H')->kLV K x y H Q
theorem uQ:OpR X (binaryOp .Add) (kLV X.K):=by
 intro pins s σ H x y v u Q I rx ry h;obtain ⟨a,b,xs,ys,rfl,rfl,ha,hb,hz,q⟩:=h;by_cases c:xs=[]
 ·subst c
  cases rx
  cases ry
  obtain ⟨its,r1,p1,_⟩:=I.tuple (SqT.of (K:=X.K) ha);obtain ⟨its2,r2,p2,_⟩:=I.tuple (SqT.of (K:=X.K) hb);cases r1
  exact HT.cat_tup0 p1 p2 ⟨.ref b,H,I,rfl,q b H (λ _ _ e=>e) (by simpa using hb)⟩
 ·refine kJY pins s σ H _ _ v u Q I rx ry ⟨a,b,xs,ys,rfl,rfl,SqT.of ha,SqT.of hb,c,hz,λ e=>q a H (λ _ _ z=>z) (by rw [e,jq];exact ha),λ _ p np=>q p _ (sZ np _) kD⟩
end
end L2
namespace L2
open PySem
end L2
namespace L2
open PySem PySem.Spec PyProof.Rows
end L2
namespace Txs
open PySem PySem.Builtin PySem.Builtin.Str PySem.StrLaws
end Txs
namespace L2
open PySem PySem.Spec PyProof.Rows
theorem nY {a:List fm} {b} {p:Pos} {es:List fm} {env:Env}:starEach (.Tuple a b p::es) env=(false,eval (.Tuple a b p) env)::starEach es env:=by rfl
@[irreducible] def PAi (X:Cx) (es:List fm) (t:TA):Prop:=PA X es t
@[irreducible] def PSi (X:Cx) (st:fq) (t:TS):Prop:=PS X st t
@[irreducible] def kRY (X:Cx) (l:List fq) (t:TS):Prop:=PSs X l t
end L2
namespace L2
open PySem
end L2
namespace Hsh
set_option autoImplicit false
open PySem PySem.Spec PyProof.Rows
end Hsh
namespace Dct
set_option autoImplicit false
open PySem PySem.Spec PyProof.Rows
end Dct
namespace Dcl
open PySem PySem.Spec PyProof.Rows L2
end Dcl
namespace Dcl
open PySem L2
end Dcl
namespace Pic
open PySem Txs
end Pic
namespace Pic
end Pic
namespace L2
open PySem PySem.Spec PyProof.Rows
theorem kDJ {k:Bool} {K:ai} {a:ag} {xs:List V} {g:TG} {b:TB} {N0:St->Hp->Prop} {σ:St} {H:Hp} (Pv:Nat->St->Hp->Prop) (h0:Pv 0 σ H) (hl:∀ i σ H,i<=xs.length->Pv i σ H->SqX K k H a xs)
  (hs:∀ i x T σ H,xs[i]?=some x->H T=none->Pv i σ H->g (.ref T) σ (upd H T (.tup [.int i,x])) λ σ2 H2=>b (Pv (i+1)) σ2 H2) (hd:∀ σ H,Pv xs.length σ H->N0 σ H):uD (Ite k K a) g b N0 σ H:=by
 refine ⟨λ i m σ H=>m=xs.length-i/\i<=xs.length/\Pv i σ H,⟨xs.length,by simp,iA _,h0⟩,?_⟩;rintro i m σ H ⟨rfl,hle,p⟩;have q1:=hl i σ H hle p;rcases vc i xs.length with hi | hi
 ·refine .inr ⟨⟨xs,xs[i],q1,by simp [hi]⟩,Pv (i+1),λ σ' H' q=>⟨xs.length-(i+1),by omega,rfl,by omega,q⟩,λ x H' hy=>?_⟩
  obtain ⟨T,x1,nT,rfl,e1,rfl⟩:=hy;exact hs i x1 T σ H (e1 xs q1) nT p
 ·obtain rfl:i=xs.length:=by omega
  exact .inl ⟨⟨xs,q1,rfl⟩,hd σ H p⟩
end L2
namespace Dct
set_option autoImplicit false
open PySem PySem.Spec PyProof.Rows
end Dct
namespace L2
open PySem PySem.Spec PyProof.Rows
end L2
namespace HT
open PySem PySem.Spec PyProof.Rows
end HT
namespace L2
open PySem PySem.Spec PyProof.Rows
end L2
namespace HT
open PySem PySem.Spec PyProof.Rows
end HT
namespace L2
open PySem PySem.Spec PyProof.Rows
end L2
namespace HT
open PySem PySem.Spec PyProof.Rows
theorem pick_rev (its:List af):slicePick its.toArray none none (some (-1))=its.reverse.toArray:=by
 unfold slicePick;have h1:(sliceBounds none none (some (-1)) its.toArray.size).1=(its.length:Int)-1:=by simp [sliceBounds]
 have h2:(sliceBounds none none (some (-1)) its.toArray.size).2.1 = -1:=by simp [sliceBounds]
 have h3:(sliceBounds none none (some (-1)) its.toArray.size).2.2 = -1:=by simp [sliceBounds]
 rw [h1,h2,h3];unfold sliceRange;dsimp only
 have hc:(if (-1:Int)>0 then if (its.length:Int)-1 < -1 then (-1-((its.length:Int)-1) + -1-1) / -1 else 0 else if (its.length:Int)-1 > -1 then ((its.length:Int)-1 - -1 - -1-1) / - -1 else 0).toNat=its.length:=by
  rw [if_neg (by decide)]
  split
  ·simp only [Int.neg_neg,Fi]
   omega
  ·omega
 rw [hc,Ab]
 congr 1
 rw [<-kGS its];refine gN _ λ k hk=>?_;show its.toArray[((its.length:Int)-1 + -1*(k:Int)).toNat]?=_;rw [List.getElem?_toArray]
 congr 2
 omega
end HT
namespace L2
open PySem PySem.Spec PyProof.Rows
section
variable {X:Cx}
inductive kFR (Q:VK) (x:V) (o:Option Int) (H2:Hp):Prop
 | mk:∀ a xs,(x=.ref a)->(o=some (-1))->(H2 a=some (.lst xs))->(∀ p,H2 p=none->Q (.ref p) (upd H2 p (.lst xs.reverse)))->kFR Q x o H2
def kPJ (K:ai) (te:TE) (ts:TO):TE:=λ σ H Q=>te σ H λ x H1=>ts σ H1 λ o H2=>kFR Q x o H2
theorem kJU {e st:fm} {te:TE} {ts:TO} {p2 pos:Pos} (he:PE X e te) (hs:PO X (some st) ts):PE X (.Subscript e (.Slice none none (some st) p2) pos) (kPJ X.K te ts):=by
 intro pins s σ H Q I h;refine Ee (thn (he pins s σ H _ I h) λ v s1 ⟨x,H1,I1,r1,q1⟩=>?_);refine wpAny_Slice ?_;rw [Cm];refine aq ?_;refine aq (thn (hs pins s1 σ H1 _ I1 q1) λ vt s3 ⟨o,H3,I3,pu,q3⟩=>?_);obtain ⟨a,xs,rfl,rfl,ha,q⟩:=q3;cases r1
 cases pu with
 | int i tk =>
  have I4:Inv X pins σ H3 { s3 with heap:=s3.heap.push { cls:=.type "slice",data:=.fields #[.none,.none,.int (-1) tk] } }:=I3.kept (t':=s3.toks) λ b ob q=>ak _ q
  obtain ⟨its,r,ht,hz⟩:=I4.list (SqL.of (K:=X.K) ha);have hl:=r.length;show br (model X.prog X.w) X.A (subscriptTail e (.Slice none none (some st) p2) (.ref a) (.ref s3.heap.objs.size)) (EP X pins σ Q) X.xe { s3 with heap:=s3.heap.push { cls:=.type "slice",data:=.fields #[.none,.none,.int (-1) tk] } }
  refine tail_any (ops:=[.ref a,.ref s3.heap.objs.size]) ht.isList.typeIs Ax.lookup ?_ (by with_unfolding_all rfl);refine BG (lo:=none) (hi:=none) (st:=some (-1)) ht.isList (Cz ..) .none .none (.int _ _) (by simp) ?_ (by rw [dq]<;>omega);rw [HT.pick_rev];refine ⟨.ref _,_,I4.laid (t':=s3.toks) (o:=.lst xs.reverse) (λ b ob q=>ak _ q) (ba _) ?_,rfl,q _ (I4.hok.fresh (ba _))⟩;exact ⟨by rw [qv];exact hz,its.reverse,0,r.reverse,cv _ rfl⟩
end
end L2
namespace Cyc
end Cyc
namespace Tri
open Cyc
abbrev Rows:=List (List Nat)
def E (L:Rows) (a b:Nat):Prop:=∃ row,L[a]?=some row/\b∈row
end Tri
namespace Rnd
open Cyc Tri
def qU (W:Rows):List (Nat×Nat):=(qg W.length).flatMap λ p=>(W.getD p []).map λ q=>(p,q)
theorem bA {W:Rows} {p q:Nat}:(p,q)∈qU W↔E W p q:=by
 unfold qU E;rw [List.mem_flatMap];constructor
 ·rintro ⟨p',hp,h⟩
  obtain ⟨q',hq,e⟩:=yt.mp h;cases e
  have hl:=uz.mp hp;refine ⟨W[p],ao hl,?_⟩;simpa [fg,hl] using hq
 ·rintro ⟨row,e,h⟩
  have hl:=(au.mp e).1;refine ⟨p,uz.mpr hl,yt.mpr ⟨q,?_,rfl⟩⟩;rw [fg,e];exact h
end Rnd
namespace Mth
structure Fr (n d n' d':Int):Prop where
 pos:0<d'
 co:iE n' d'=1
 eq:n'*d=n*d'
 ln:n'.natAbs<=n.natAbs
 ld:d'.natAbs<=d.natAbs
theorem aA {n d:Int} (h:d≠0):0<(iE n d:Int):=by
 have:iE n d≠0:=by
  intro e;exact h (Int.gcd_eq_zero_iff.mp e).2
 omega
theorem vI {a b c:Int} (h:a=b*c) (hc:c≠0):b.natAbs<=a.natAbs:=by
 rw [h,iu];exact wy _ (Ej.mpr hc)
theorem mX {n d g:Int} (hd:d≠0) (hg:g=(iE n d:Int)\/g = -(iE n d:Int)) (hs:0<d.fdiv g):Fr n d (n.fdiv g) (d.fdiv g):=by
 have gp:=aA (n:=n) hd;have g0:g≠0:=by rcases hg with e | e<;>omega
 have dn:g ∣ n:=by
  rcases hg with e | e
  ·rw [e];exact EA _ _
  ·rw [e];exact EN.mpr (EA _ _)
 have dd:g ∣ d:=by
  rcases hg with e | e
  ·rw [e];exact xn _ _
  ·rw [e];exact EN.mpr (xn _ _)
 have en:n=n.fdiv g*g:=by rw [wz dn,AE dn]
 have ed:d=d.fdiv g*g:=by rw [wz dd,AE dd]
 have gabs:g.natAbs=iE n d:=by rcases hg with e | e<;>omega
 refine ⟨hs,?_,?_,vI en g0,vI ed g0⟩
 ·have e1:iE (n.fdiv g*g) (d.fdiv g*g)=iE n d:=by rw [<-en,<-ed]
  rw [Int.gcd_mul_right,gabs] at e1;have:0<iE n d:=by omega
  exact Nat.eq_of_mul_eq_mul_right this (by omega)
 ·calc n.fdiv g*d=n.fdiv g*(d.fdiv g*g):=by rw [<-ed]
   _=(n.fdiv g*g)*d.fdiv g:=by rw [jx (d.fdiv g) g,Int.mul_assoc]
   _=n*d.fdiv g:=by rw [<-en]
theorem jV {n d g:Int} (hd:d≠0) (hg:(0<d/\g=(iE n d:Int))\/(d<0/\g = -(iE n d:Int))):0<d.fdiv g:=by
 have gp:=aA (n:=n) hd
 have dd:g ∣ d:=by
  rcases hg with ⟨_,e⟩ | ⟨_,e⟩
  ·rw [e];exact xn _ _
  ·rw [e];exact EN.mpr (xn _ _)
 have ed:d=d.fdiv g*g:=by rw [wz dd,AE dd]
 rcases hg with ⟨h,e⟩ | ⟨h,e⟩
 ·have g1:0<g:=by omega
  rw [ed] at h;refine tm.mp λ z=>?_;have:=Int.mul_nonpos_of_nonpos_of_nonneg z (tu g1);omega
 ·have g1:g<0:=by omega
  refine tm.mp λ z=>?_;have:=jd z (tu g1);omega
theorem kIH {n d:Int} (h:d≠0):iE n d<=d.natAbs:=Nat.le_of_dvd (Ej.mpr h) (Int.gcd_dvd_natAbs_right n d)
theorem tE (a b:Nat):DU b (a % b)=DU a b:=by
 rw [Bl a b,Nat.gcd_rec b a,Bl]
theorem kL {a b:Int} {i j:Nat} (h:a.natAbs<2 ^ i) (h':b.natAbs<2 ^ j):(a*b).natAbs<2 ^ (i+j):=by
 rw [iu,Nat.pow_add];exact Nat.mul_lt_mul'' h h'
theorem vZ {a b:Int} {i:Nat} (h:a.natAbs<2 ^ i) (h':b.natAbs<2 ^ i):(a+b).natAbs<2 ^ (i+1):=by
 have:=Int.natAbs_add_le a b;rw [Fj];omega
theorem qI {a b:Int} {i:Nat} (h:a.natAbs<2 ^ i) (h':b.natAbs<2 ^ i):(a-b).natAbs<2 ^ (i+1):=by
 have:=Int.natAbs_sub_le a b;rw [Fj];omega
theorem up {a:Int} {i j:Nat} (h:a.natAbs<2 ^ i) (hij:i<=j):a.natAbs<2 ^ j:=be h (pk (by decide) hij)
structure Pt where
 n:Int
 d:Int
 m:Int
 e:Int
def sgn (i:Int):Int:=if i<0 then -1 else if 0<i then 1 else 0
theorem bG {x y:Int} (h:0<y):sgn (x*y)=sgn x:=by
 unfold sgn;rcases ku x 0 with c | c | c
 ·have:=iF c h
  rw [if_pos this,if_pos c]
 ·subst c;simp
 ·have:=bc c h
  rw [if_neg (by omega),if_pos this,if_neg (by omega),if_pos c]
theorem cR (x:Int):sgn (-x) = -sgn x:=by
 unfold sgn;rcases ku x 0 with c | c | c
 ·rw [if_neg (by omega),if_pos (by omega),if_pos c];rfl
 ·subst c;rfl
 ·rw [if_pos (by omega),if_neg (by omega),if_pos c]
def gQ (a b c k m n x y z:Int):Int:=(b*n-c*m)*x+(c*k-a*n)*y+(a*m-b*k)*z
def det (P Q R:Pt):Int:=gQ (P.n*P.e) (P.m*P.d) (P.d*P.e) (Q.n*Q.e) (Q.m*Q.d) (Q.d*Q.e) (R.n*R.e) (R.m*R.d) (R.d*R.e)
def pF (P Q R:Pt):Int:=(Q.n*P.d-P.n*Q.d)*(R.m*P.e-P.m*R.e)*(P.e*Q.e)*(P.d*R.d)-(Q.m*P.e-P.m*Q.e)*(R.n*P.d-P.n*R.d)*(P.d*Q.d)*(P.e*R.e)
theorem kEJ (P Q R:Pt):pF P Q R=det P Q R*(P.d*P.e):=by
 unfold pF det gQ
 grind
theorem kKU (P Q R:Pt):det Q R P=det P Q R:=by
 unfold det gQ
 grind
theorem wM (P Q R:Pt):det Q P R = -det P Q R:=by
 unfold det gQ
 grind
theorem kIQ (P R:Pt):det P P R=0:=by
 unfold det gQ
 grind
theorem nF (P Q:Pt):det P Q Q=0:=by
 unfold det gQ
 grind
theorem gP (r s t a b c k m n x y z:Int):gQ (r*a) (r*b) (r*c) (s*k) (s*m) (s*n) (t*x) (t*y) (t*z)=r*s*t*gQ a b c k m n x y z:=by
 unfold gQ
 grind
end Mth
namespace Sca
open Mth
theorem kOL {d n s:Int} (co:iE n d=1) (h:d ∣ n*s):d ∣ s:=by
 have h1:d.natAbs ∣ n.natAbs*s.natAbs:=by rw [<-iu];exact ue.mpr h
 have h2:Nat.Coprime d.natAbs n.natAbs:=by
  show DU _ _=1;rw [Bl];exact co
 exact ue.mp (h2.dvd_of_dvd_mul_left h1)
def Sc (S X n d:Int):Prop:=0<d/\n*S=X*d
theorem Sc.up {S X n d:Int} (h:Sc S X n d) (c:Int):Sc (S*c) (X*c) n d:=⟨h.1,by have:=h.2;grind⟩
theorem pQ {a b c:Int} (h:0<c) (e:a*c=b*c):a=b:=Ad (by omega) e
theorem Sc.plus {S X Y a0 a1 b0 b1 n d:Int} (h:Sc S X a0 a1) (k:Sc S Y b0 b1) (f:Fr (a0*b1+b0*a1) (a1*b1) n d):Sc S (X+Y) n d:=by
 refine ⟨f.pos,pQ (c:=a1*b1) (bc h.1 k.1) ?_⟩;have e1:=f.eq;have e2:=h.2;have e3:=k.2
 grind
theorem Sc.less {S X Y a0 a1 b0 b1 n d:Int} (h:Sc S X a0 a1) (k:Sc S Y b0 b1) (f:Fr (a0*b1-b0*a1) (a1*b1) n d):Sc S (X-Y) n d:=by
 refine ⟨f.pos,pQ (c:=a1*b1) (bc h.1 k.1) ?_⟩;have e1:=f.eq;have e2:=h.2;have e3:=k.2
 grind
theorem Sc.times {S T X Y a0 a1 b0 b1 n d:Int} (h:Sc S X a0 a1) (k:Sc T Y b0 b1) (f:Fr (a0*b0) (a1*b1) n d):Sc (S*T) (X*Y) n d:=by
 refine ⟨f.pos,pQ (c:=a1*b1) (bc h.1 k.1) ?_⟩;have e1:=f.eq;have e2:=h.2;have e3:=k.2;have:n*(S*T)*(a1*b1)=(n*(a1*b1))*(S*T):=by grind
 rw [this,e1];have:a0*b0*d*(S*T)=(a0*S)*(b0*T)*d:=by grind
 rw [this,e2,e3]
 grind
theorem Sc.size {S X n d:Int} (h:Sc S X n d) (co:iE n d=1) (S0:0<S):n.natAbs<=X.natAbs/\d.natAbs<=S.natAbs:=by
 have dv:d ∣ S:=by
  have:d ∣ n*S:=⟨X,by rw [h.2,jx]⟩;exact kOL co this
 obtain ⟨c,rfl⟩:=dv
 have c0:0<c:=by
  have:=h.1;rcases ku c 0 with z | z | z
  ·have:=om h.1 z
   omega
  ·rw [z] at S0;simp at S0
  ·exact z
 have e:n*c=X:=pQ h.1 (by have:=h.2;grind);refine ⟨?_,?_⟩
 ·rw [<-e,iu]
  exact wy _ (by omega)
 ·rw [iu]
  exact wy _ (by omega)
end Sca
namespace Geo
@[ext] structure Z2 where
 x:Int
 y:Int
deriving DecidableEq
def O (p q r:Z2):Int:=(q.x-p.x)*(r.y-p.y)-(q.y-p.y)*(r.x-p.x)
def ahd (p q:Z2):Prop:=p.x<q.x\/(p.x=q.x/\p.y<q.y)
instance (p q:Z2):Decidable (ahd p q):=inferInstanceAs (Decidable (_\/_))
def cO (c a b:Z2):Int:=(a.x-c.x)*(b.x-c.x)+(a.y-c.y)*(b.y-c.y)
def lo (p q:Z2):Z2:=if ahd p q then p else q
def hi (p q:Z2):Z2:=if ahd p q then q else p
def wth (r p q:Z2):Prop:=O (lo p q) (hi p q) r=0/\ahd (lo p q) r/\ahd r (hi p q)
theorem zV {a:Int} (h:a≠0):0<a*a:=by
 rcases wm h with c | c
 ·exact vk c c
 ·exact bc c c
theorem jB {a b c:Int} (h:a*b=c) (hb:0<b):(a<0↔c<0):=by
 constructor
 ·intro z
  have:=iF z hb;omega
 ·intro z
  refine tm.mp λ q=>?_;have:=Ae q (tu hb);omega
structure Line (p q:Z2) (k:Z2->Int):Prop where
 ne:k p≠k q
 ah:∀ a b,O p q a=0->O p q b=0->(ahd a b↔k a<k b)
 eq:∀ a b,O p q a=0->O p q b=0->k a=k b->a=b
 dot:∀ a b c,O p q a=0->O p q b=0->O p q c=0->(cO c a b<0↔(k a-k c)*(k b-k c)<0)
 crs:∀ r a s,O p q r=0->O p q a=0->O r s a*(k q-k p) = -(k a-k r)*O p q s
theorem kEE {a b:Int} (h:a*b=0) (ha:a≠0):b=0:=by
 rcases eZ.mp h with z | z
 ·exact absurd z ha
 ·exact z
theorem kHS {p q:Z2} (h:p.x≠q.x):Line p q Z2.x:=by
 have w:q.x-p.x≠0:=by omega
 have dif:∀ a b,O p q a=0->O p q b=0->(q.x-p.x)*(a.y-b.y)=(q.y-p.y)*(a.x-b.x):=λ a b ha hb=>by
  unfold O at ha hb
  grind
 have eqy:∀ a b,O p q a=0->O p q b=0->a.x=b.x->a.y=b.y:=λ a b ha hb e=>by
  have d:=dif a b ha hb;rw [e,vg,tx] at d;have:=kEE d w;omega
 refine ⟨h,λ a b ha hb=>⟨?_,λ z=>.inl z⟩,λ a b ha hb e=>Z2.ext e (eqy a b ha hb e),λ a b c ha hb hc=>?_,λ r a s hr ha=>?_⟩
 ·rintro (z | ⟨z1,z2⟩)
  ·exact z
  ·have:=eqy a b ha hb z1
   omega
 ·have d1:=dif a c ha hc
  have d2:=dif b c hb hc
  have e:cO c a b*((q.x-p.x)*(q.x-p.x))=((a.x-c.x)*(b.x-c.x))*((q.x-p.x)*(q.x-p.x)+(q.y-p.y)*(q.y-p.y)):=by
   unfold cO
   grind
  have w2:=zV w
  have w3:0<(q.x-p.x)*(q.x-p.x)+(q.y-p.y)*(q.y-p.y):=by
   have:0<=(q.y-p.y)*(q.y-p.y):=by
    by_cases z:q.y-p.y=0
    ·rw [z];decide
    ·exact tu (zV z)
   omega
  rw [jB e w2];exact (jB rfl w3).symm
 ·have d1:=dif a r ha hr
  unfold O at *
  grind
theorem kHR {p q:Z2} (h:p.x=q.x) (h':p.y≠q.y):Line p q Z2.y:=by
 have w:q.y-p.y≠0:=by omega
 have on:∀ a,O p q a=0->a.x=p.x:=λ a ha=>by
  unfold O at ha;rw [h,vg,jy,Int.zero_sub] at ha;have:=kEE (EW.mp ha) w;omega
 refine ⟨h',λ a b ha hb=>⟨?_,λ z=>.inr ⟨by rw [on a ha,on b hb],z⟩⟩,λ a b ha hb e=>Z2.ext (by rw [on a ha,on b hb]) e,λ a b c ha hb hc=>?_,λ r a s hr ha=>?_⟩
 ·rintro (z | ⟨z1,z2⟩)
  ·have:=on a ha;have:=on b hb
   omega
  ·exact z2
 ·unfold cO
  rw [on a ha,on b hb,on c hc,vg,tx,Int.zero_add]
 ·have e1:=on r hr
  have e2:=on a ha;unfold O;rw [e1,e2]
  grind
theorem line {p q:Z2} (h:p≠q):∃ k,Line p q k:=by
 by_cases c:p.x=q.x
 ·exact ⟨_,kHR c λ z=>h (Z2.ext c z)⟩
 ·exact ⟨_,kHS c⟩
theorem fK (p q:Z2):O p q p=0:=by unfold O;grind
theorem fJ (p q:Z2):O p q q=0:=by unfold O;grind
theorem kOV (p q r:Z2):O q p r = -O p q r:=by unfold O;grind
theorem xG {p q r:Z2} {k:Z2->Int} (L:Line p q k):wth r p q↔O p q r=0/\(k p-k r)*(k q-k r)<0:=by
 have prod:∀ {a b c:Int},a<b->((a-c)*(b-c)<0↔a<c/\c<b):=λ {a b c} h=>by
  constructor
  ·intro z
   refine ⟨tm.mp λ y=>?_,tm.mp λ y=>?_⟩
   ·have:=Ae (show 0<=a-c by omega) (show 0<=b-c by omega)
    omega
   ·have:=jd (show a-c<=0 by omega) (show b-c<=0 by omega)
    omega
  ·intro z
   exact iF (by omega) (by omega)
 unfold wth lo hi;by_cases c:ahd p q
 ·simp only [if_pos c]
  have c':=(L.ah p q (fK p q) (fJ p q)).mp c;constructor
  ·rintro ⟨h1,h2,h3⟩
   exact ⟨h1,(prod c').mpr ⟨(L.ah p r (fK p q) h1).mp h2,(L.ah r q h1 (fJ p q)).mp h3⟩⟩
  ·rintro ⟨h1,h2⟩
   obtain ⟨a,b⟩:=(prod c').mp h2;exact ⟨h1,(L.ah p r (fK p q) h1).mpr a,(L.ah r q h1 (fJ p q)).mpr b⟩
 ·simp only [if_neg c]
  have c':k q<k p:=by
   have n1:¬ k p<k q:=λ z=>c ((L.ah p q (fK p q) (fJ p q)).mpr z);have n2:=L.ne;omega
  rw [kOV,EW,jx];constructor
  ·rintro ⟨h1,h2,h3⟩
   exact ⟨h1,(prod c').mpr ⟨(L.ah q r (fJ p q) h1).mp h2,(L.ah r p h1 (fK p q)).mp h3⟩⟩
  ·rintro ⟨h1,h2⟩
   obtain ⟨a,b⟩:=(prod c').mp h2;exact ⟨h1,(L.ah q r (fJ p q) h1).mpr a,(L.ah r p h1 (fK p q)).mpr b⟩
theorem touch {p q r s:Z2} (pq:p≠q) (rp:r≠p) (rq:r≠q) (h:O p q r=0) (h':O p q s≠0):O r s p≠0/\O r s q≠0/\(wth r p q↔O r s p*O r s q<0):=by
 obtain ⟨k,L⟩:=line pq;have e1:=L.crs r p s h (fK p q);have e2:=L.crs r q s h (fJ p q);have w:k q-k p≠0:=by have:=L.ne;omega
 have n1:k p-k r≠0:=λ z=>rp (L.eq r p h (fK p q) (by omega));have n2:k q-k r≠0:=λ z=>rq (L.eq r q h (fJ p q) (by omega))
 have nz:∀ {a b c d:Int},a*b = -c*d->c≠0->d≠0->a≠0:=λ {a b c d} e hc hd z=>by
  rw [z,jy] at e;rcases eZ.mp e.symm with y | y
  ·exact hc (by omega)
  ·exact hd y
 refine ⟨nz e1 n1 h',nz e2 n2 h',?_⟩;rw [xG L]
 have e:(O r s p*O r s q)*((k q-k p)*(k q-k p))=((k p-k r)*(k q-k r))*(O p q s*O p q s):=by
  generalize k q-k p=W at *;generalize k p-k r=A at *;generalize k q-k r=B at *;generalize O r s p=U at *;generalize O r s q=V at *;generalize O p q s=T at *
  grind
 rw [jB e (zV w)];constructor
 ·rintro ⟨_,z⟩
  exact iF z (zV h')
 ·intro z
  exact ⟨h,(jB rfl (zV h')).mpr z⟩
def over (p q r s:Z2):Prop:=O p q r=0/\O p q s=0/\ahd (hi (lo p q) (lo r s)) (lo (hi p q) (hi r s))
def lap (p q r s:Z2):Prop:=cO p r s<0\/cO q r s<0\/cO r p q<0\/cO s p q<0
theorem kIZ {p q r s:Z2} (pq:p≠q) (pr:p≠r) (ps:p≠s) (qr:q≠r) (qs:q≠s) (rs:r≠s) (h:O p q r=0) (h':O p q s=0) :
  (lap p q r s↔over p q r s)/\(¬ over p q r s->¬ wth r p q/\¬ wth s p q/\¬ wth p r s/\¬ wth q r s):=by
 obtain ⟨k,L⟩:=line pq;have op:=fK p q;have oq:=fJ p q;have kn:∀ {a b},O p q a=0->O p q b=0->a≠b->k a≠k b:=λ ha hb n e=>n (L.eq _ _ ha hb e)
 have L2:Line r s k:=by
  have on2:∀ a,O r s a=0->O p q a=0:=λ a ha=>by
   have e:=L.crs r s a h h';rw [show O r a s = -O r s a by unfold O;grind,ha] at e;have w:=kn h h' rs;simp only [Int.neg_zero,jy] at e;rcases eZ.mp e.symm with z | z
   ·omega
   ·exact z
  refine ⟨kn h h' rs,λ a b ha hb=>L.ah a b (on2 a ha) (on2 b hb),λ a b ha hb=>L.eq a b (on2 a ha) (on2 b hb),λ a b c ha hb hc=>L.dot a b c (on2 a ha) (on2 b hb) (on2 c hc),λ u a t hu ha=>?_⟩;have e1:=L.crs u a t (on2 u hu) (on2 a ha)
  have e2:O r s t*(k q-k p)=(k s-k r)*O p q t:=by
   have:=L.crs r s t h h';rw [show O r t s = -O r s t by unfold O;grind] at this;rw [CM,CM] at this;omega
  have w:k q-k p≠0:=by have:=L.ne;omega
  have:(O u t a*(k s-k r)+(k a-k u)*O r s t)*(k q-k p)=0:=by
   generalize k q-k p=W at *;generalize k a-k u=A at *;generalize k s-k r=B at *;generalize O u t a=U at *;generalize O r s t=V at *;generalize O p q t=T at *
   grind
  have:=kEE (by rw [jx];exact this) w;rw [CM];omega
 have prod:∀ {a b c:Int},((a-c)*(b-c)<0↔(a<c/\c<b)\/(b<c/\c<a)):=λ {a b c}=>by
  constructor
  ·intro z
   rcases ku a c with y | y | y
   ·exact .inl ⟨y,tm.mp λ x=>by have:=jd (show a-c<=0 by omega) (show b-c<=0 by omega);omega⟩
   ·subst y;simp at z
   ·exact .inr ⟨tm.mp λ x=>by have:=Ae (show 0<=a-c by omega) (show 0<=b-c by omega);omega,y⟩
  ·rintro (⟨x,y⟩ | ⟨x,y⟩)
   ·exact iF (by omega) (by omega)
   ·exact om (by omega) (by omega)
 have n1:=kn op oq pq;have n2:=kn op h pr;have n3:=kn op h' ps;have n4:=kn oq h qr;have n5:=kn oq h' qs;have n6:=kn h h' rs
 have eo:over p q r s↔(if (if k p<k q then k p else k q)<(if k r<k s then k r else k s) then (if k r<k s then k r else k s) else (if k p<k q then k p else k q))<(if (if k p<k q then k q else k p)<(if k r<k s then k s else k r) then (if k p<k q then k q else k p) else (if k r<k s then k s else k r)):=by
  have klo:∀ {a b},O p q a=0->O p q b=0->O p q (lo a b)=0/\k (lo a b)=if k a<k b then k a else k b:=λ {a b} ha hb=>by
   unfold lo;by_cases c:ahd a b
   ·rw [if_pos c,if_pos ((L.ah a b ha hb).mp c)];exact ⟨ha,rfl⟩
   ·rw [if_neg c,if_neg λ z=>c ((L.ah a b ha hb).mpr z)];exact ⟨hb,rfl⟩
  have khi:∀ {a b},O p q a=0->O p q b=0->O p q (hi a b)=0/\k (hi a b)=if k a<k b then k b else k a:=λ {a b} ha hb=>by
   unfold hi;by_cases c:ahd a b
   ·rw [if_pos c,if_pos ((L.ah a b ha hb).mp c)];exact ⟨hb,rfl⟩
   ·rw [if_neg c,if_neg λ z=>c ((L.ah a b ha hb).mpr z)];exact ⟨ha,rfl⟩
  have a1:=klo op oq;have a2:=klo h h';have a3:=khi op oq;have a4:=khi h h';have a5:=khi a1.1 a2.1;have a6:=klo a3.1 a4.1;have e:=L.ah _ _ a5.1 a6.1;rw [a5.2,a6.2,a1.2,a2.2,a3.2,a4.2] at e;unfold over;rw [<-e];exact ⟨λ z=>z.2.2,λ z=>⟨h,h',z⟩⟩
 have el:lap p q r s↔((k r<k p/\k p<k s)\/(k s<k p/\k p<k r))\/((k r<k q/\k q<k s)\/(k s<k q/\k q<k r))\/((k p<k r/\k r<k q)\/(k q<k r/\k r<k p))\/((k p<k s/\k s<k q)\/(k q<k s/\k s<k p)):=by
  unfold lap;rw [L.dot r s p h h' op,L.dot r s q h h' oq,L.dot p q r op oq h,L.dot p q s op oq h',prod,prod,prod,prod]
 rw [el,eo,xG L,xG L,xG L2,xG L2,prod,prod,prod,prod];generalize k p=a at *;generalize k q=b at *;generalize k r=c at *;generalize k s=d at *;clear el eo L L2 kn;constructor
 ·constructor
  ·intro z;split<;>split<;>split<;>split<;>omega
  ·intro z;revert z;split<;>split<;>split<;>split<;>omega
 ·intro z
  revert z
  split<;>split<;>split<;>split<;>omega
open Mth
theorem kFD {a b c:Z2} {α β:Int} (ha:0<α) (hb:0<β) (ne:a≠b) (ex:(α+β)*c.x=α*a.x+β*b.x) (ey:(α+β)*c.y=α*a.y+β*b.y):wth c a b:=by
 obtain ⟨k,L⟩:=line ne;have ab:0<α+β:=by omega
 have on:O a b c=0:=by
  have:(α+β)*O a b c=0:=by
   unfold O
   grind
  exact kEE this (by omega)
 rw [xG L]
 refine ⟨on,?_⟩
 have e1:=L.crs c a;by_cases cx:a.x=b.x
 ·have L':=kHR cx λ z=>ne (Z2.ext cx z)
  have:=(xG (r:=c) L').mpr ⟨on,?_⟩
  ·exact ((xG L).mp this).2
  ·have d:a.y-b.y≠0:=λ z=>L'.ne (by omega)
   have e:((a.y-c.y)*(b.y-c.y))*((α+β)*(α+β)) = -(α*β*((a.y-b.y)*(a.y-b.y))):=by grind
   rw [jB e (bc ab ab)];have:=bc (bc ha hb) (zV d);omega
 ·have L':=kHS cx
  have:=(xG (r:=c) L').mpr ⟨on,?_⟩
  ·exact ((xG L).mp this).2
  ·have d:a.x-b.x≠0:=by omega
   have e:((a.x-c.x)*(b.x-c.x))*((α+β)*(α+β)) = -(α*β*((a.x-b.x)*(a.x-b.x))):=by grind
   rw [jB e (bc ab ab)];have:=bc (bc ha hb) (zV d);omega
def fT (t:Int) (p:Z2):Z2:=⟨t*p.x,t*p.y⟩
theorem kCM {t:Int} (h:t≠0) {p q:Z2} (n:p≠q):fT t p≠fT t q:=λ e=>n (by
 have e1:t*p.x=t*q.x:=congrArg Z2.x e;have e2:t*p.y=t*q.y:=congrArg Z2.y e;exact Z2.ext (eF h e1) (eF h e2))
def crs (p q r s:Z2):Z2:=if 0<O p q s then ⟨O p q s*r.x-O p q r*s.x,O p q s*r.y-O p q r*s.y⟩ else ⟨-(O p q s*r.x-O p q r*s.x),-(O p q s*r.y-O p q r*s.y)⟩
def crT (p q r s:Z2):Int:=if 0<O p q s then O p q s-O p q r else -(O p q s-O p q r)
theorem opp {a b:Int} (h:a*b<0):(0<b/\a<0)\/(b<0/\0<a):=by
 rcases ku b 0 with c | c | c
 ·refine .inr ⟨c,tm.mp λ z=>?_⟩
  have:=jd z (tu c);omega
 ·subst c;simp at h
 ·refine .inl ⟨c,tm.mp λ z=>?_⟩
  have:=Ae z (tu c);omega
theorem kES {p q r s:Z2} (pq:p≠q) (rs:r≠s) (h:O p q r*O p q s<0) (h':O r s p*O r s q<0) :
  0<crT p q r s/\wth (crs p q r s) (fT (crT p q r s) p) (fT (crT p q r s) q)/\wth (crs p q r s) (fT (crT p q r s) r) (fT (crT p q r s) s):=by
 have i0:O p q s-O p q r=O r s p-O r s q:=by unfold O;grind
 have ix:O p q s*r.x-O p q r*s.x=O r s p*q.x-O r s q*p.x:=by unfold O;grind
 have iy:O p q s*r.y-O p q r*s.y=O r s p*q.y-O r s q*p.y:=by unfold O;grind
 unfold crs crT;generalize O p q r=a at *;generalize O p q s=b at *;generalize O r s p=a2 at *;generalize O r s q=b2 at *
 have key:∀ (c:Z2) (t:Int),0<t->(∃ α β,0<α/\0<β/\α+β=t/\c.x=α*p.x+β*q.x/\c.y=α*p.y+β*q.y)->(∃ α β,0<α/\0<β/\α+β=t/\c.x=α*r.x+β*s.x/\c.y=α*r.y+β*s.y) ->
   0<t/\wth c (fT t p) (fT t q)/\wth c (fT t r) (fT t s):=by
  rintro c t t0 ⟨α,β,h1,h2,h3,h4,h5⟩ ⟨γ,δ,k1,k2,k3,k4,k5⟩;have tn:t≠0:=by omega
  refine ⟨t0,kFD h1 h2 (kCM tn pq) ?_ ?_,kFD k1 k2 (kCM tn rs) ?_ ?_⟩
  ·show (α+β)*c.x=α*(t*p.x)+β*(t*q.x);rw [h3,h4];grind
  ·show (α+β)*c.y=α*(t*p.y)+β*(t*q.y);rw [h3,h5];grind
  ·show (γ+δ)*c.x=γ*(t*r.x)+δ*(t*s.x);rw [k3,k4];grind
  ·show (γ+δ)*c.y=γ*(t*r.y)+δ*(t*s.y);rw [k3,k5];grind
 rcases opp h with ⟨hb,ha⟩ | ⟨hb,ha⟩
 ·simp only [if_pos hb]
  have g:b2<0/\0<a2:=by rcases opp h' with z | z<;>omega
  refine key _ _ (by omega) ⟨-b2,a2,by omega,g.2,by omega,?_,?_⟩ ⟨b,-a,hb,by omega,by omega,?_,?_⟩
  ·show b*r.x-a*s.x=_;rw [ix];grind
  ·show b*r.y-a*s.y=_;rw [iy];grind
  ·show b*r.x-a*s.x=_;grind
  ·show b*r.y-a*s.y=_;grind
 ·simp only [if_neg (show ¬ 0<b by omega)]
  have g:0<b2/\a2<0:=by rcases opp h' with z | z<;>omega
  refine key _ _ (by omega) ⟨b2,-a2,g.1,by omega,by omega,?_,?_⟩ ⟨-b,a,by omega,ha,by omega,?_,?_⟩
  ·show -(b*r.x-a*s.x)=_;rw [ix];grind
  ·show -(b*r.y-a*s.y)=_;rw [iy];grind
  ·show -(b*r.x-a*s.x)=_;grind
  ·show -(b*r.y-a*s.y)=_;grind
structure Sc (N:Int) (P:Pt) (z:Z2):Prop where
 x:P.n*N=z.x*P.d
 y:P.m*N=z.y*P.e
structure Lw (P:Pt):Prop where
 d:0<P.d
 e:0<P.e
 cx:iE P.n P.d=1
 cy:iE P.m P.e=1
theorem Sc.mul {N:Int} {P:Pt} {z:Z2} (h:Sc N P z) (t:Int):Sc (N*t) P (fT t z):=by
 obtain ⟨hx,hy⟩:=h;constructor
 ·show P.n*(N*t)=t*z.x*P.d;grind
 ·show P.m*(N*t)=t*z.y*P.e;grind
theorem kIP {d n d':Int} (h:d ∣ n*d') (c:iE n d=1):d ∣ d':=by
 refine ue.mp ?_;have h1:=ue.mpr h;rw [iu] at h1;exact Dj (show DU d.natAbs n.natAbs=1 by rw [Bl];exact c) h1
theorem xY {n d n' d':Int} (h:0<d) (h':0<d') (c:iE n d=1) (c':iE n' d'=1) (e:n*d'=n'*d):n=n'/\d=d':=by
 have d1:d ∣ d':=by
  have:d ∣ n*d':=⟨n',by rw [e,jx]⟩;exact kIP this c
 have d2:d' ∣ d:=by
  have:d' ∣ n'*d:=⟨n,by rw [<-e,jx]⟩;exact kIP this c'
 have ed:d=d':=Int.dvd_antisymm (tu h) (tu h') d1 d2;subst ed;exact ⟨Ad (by omega) e,rfl⟩
section
variable {N:Int} {P Q R S:Pt} {p q r s:Z2}
theorem bF {a b:Int} (h:0<a):sgn (a*b)=sgn b:=by rw [jx];exact bG h
theorem qN (n0:0<N) (hp:Sc N P p) (hq:Sc N Q q) (hr:Sc N R r) (lp:Lw P) (lq:Lw Q) (lr:Lw R):sgn (det P Q R)=sgn (O p q r):=by
 obtain ⟨p1,p2⟩:=hp;obtain ⟨q1,q2⟩:=hq;obtain ⟨r1,r2⟩:=hr
 have e:(N*N*N)*det P Q R=(P.d*P.e*(Q.d*Q.e)*(R.d*R.e)*N)*O p q r:=by
  have h:=gP N N N (P.n*P.e) (P.m*P.d) (P.d*P.e) (Q.n*Q.e) (Q.m*Q.d) (Q.d*Q.e) (R.n*R.e) (R.m*R.d) (R.d*R.e)
  rw [show N*(P.n*P.e)=(P.d*P.e)*p.x by grind,show N*(P.m*P.d)=(P.d*P.e)*p.y by grind,show N*(P.d*P.e)=(P.d*P.e)*N by grind,
   show N*(Q.n*Q.e)=(Q.d*Q.e)*q.x by grind,show N*(Q.m*Q.d)=(Q.d*Q.e)*q.y by grind,show N*(Q.d*Q.e)=(Q.d*Q.e)*N by grind,
   show N*(R.n*R.e)=(R.d*R.e)*r.x by grind,show N*(R.m*R.d)=(R.d*R.e)*r.y by grind,show N*(R.d*R.e)=(R.d*R.e)*N by grind,gP] at h
  show N*N*N*gQ _ _ _ _ _ _ _ _ _=_;rw [<-h];unfold gQ O
  grind
 have k1:0<N*N*N:=bc (bc n0 n0) n0;have k2:0<P.d*P.e*(Q.d*Q.e)*(R.d*R.e)*N:=bc (bc (bc (bc lp.d lp.e) (bc lq.d lq.e)) (bc lr.d lr.e)) n0;rw [<-bF k1,e,bF k2]
theorem yH {a b c d x y:Int} (n0:0<N) (hb:0<b) (hd:0<d) (h1:a*N=x*b) (h2:c*N=y*d):(a*d<c*b↔x<y)/\(a*d=c*b↔x=y):=by
 have e1:N*(a*d)=(b*d)*x:=by grind
 have e2:N*(c*b)=(b*d)*y:=by grind
 have bd:=bc hb hd;constructor
 ·rw [<-Cb n0,e1,e2,Cb bd]
 ·constructor
  ·intro z
   rw [z,e2] at e1;exact (eF (by omega) e1).symm
  ·intro z
   rw [z,<-e2] at e1;exact eF (by omega) e1
def aheadP (P Q:Pt):Bool:=if P.n=Q.n/\P.d=Q.d then decide (P.m*Q.e<Q.m*P.e) else decide (P.n*Q.d<Q.n*P.d)
theorem xQ (n0:0<N) (hp:Sc N P p) (hq:Sc N Q q) (lp:Lw P) (lq:Lw Q):aheadP P Q=decide (ahd p q):=by
 obtain ⟨x1,x2⟩:=yH n0 lp.d lq.d hp.x hq.x;obtain ⟨y1,y2⟩:=yH n0 lp.e lq.e hp.y hq.y;unfold aheadP ahd;by_cases c:P.n=Q.n/\P.d=Q.d
 ·have ex:p.x=q.x:=x2.mp (by rw [c.1,c.2])
  rw [if_pos c];simp only [y1,ex,Int.lt_irrefl,true_and,false_or]
 ·have ex:p.x≠q.x:=λ z=>c (xY lp.d lq.d lp.cx lq.cx (x2.mpr z))
  rw [if_neg c];simp only [x1,ex,false_and,or_false]
theorem jU (n0:0<N) (hp:Sc N P p) (hq:Sc N Q q) (lp:Lw P) (lq:Lw Q):P=Q↔p=q:=by
 obtain ⟨_,x2⟩:=yH n0 lp.d lq.d hp.x hq.x;obtain ⟨_,y2⟩:=yH n0 lp.e lq.e hp.y hq.y;constructor
 ·intro z
  subst z;exact Z2.ext (x2.mp rfl) (y2.mp rfl)
 ·intro z
  subst z;obtain ⟨a,b⟩:=xY lp.d lq.d lp.cx lq.cx (x2.mpr rfl);obtain ⟨c,d⟩:=xY lp.e lq.e lp.cy lq.cy (y2.mpr rfl)
  cases P;cases Q
  simp_all
theorem scale4 (lp:Lw P) (lq:Lw Q) (lr:Lw R) (ls:Lw S):∃ N p q r s,0<N/\Sc N P p/\Sc N Q q/\Sc N R r/\Sc N S s:=by
 refine ⟨(P.d*P.e)*(Q.d*Q.e)*((R.d*R.e)*(S.d*S.e)),⟨P.n*P.e*(Q.d*Q.e)*((R.d*R.e)*(S.d*S.e)),P.m*P.d*(Q.d*Q.e)*((R.d*R.e)*(S.d*S.e))⟩,
  ⟨(P.d*P.e)*(Q.n*Q.e)*((R.d*R.e)*(S.d*S.e)),(P.d*P.e)*(Q.m*Q.d)*((R.d*R.e)*(S.d*S.e))⟩,
  ⟨(P.d*P.e)*(Q.d*Q.e)*((R.n*R.e)*(S.d*S.e)),(P.d*P.e)*(Q.d*Q.e)*((R.m*R.d)*(S.d*S.e))⟩,
  ⟨(P.d*P.e)*(Q.d*Q.e)*((R.d*R.e)*(S.n*S.e)),(P.d*P.e)*(Q.d*Q.e)*((R.d*R.e)*(S.m*S.d))⟩,?_,⟨?_,?_⟩,⟨?_,?_⟩,⟨?_,?_⟩,⟨?_,?_⟩⟩
 ·exact bc (bc (bc lp.d lp.e) (bc lq.d lq.e)) (bc (bc lr.d lr.e) (bc ls.d ls.e))
 all_goals (simp only;grind)
end
def aG (P Q:Pt):Pt:=if aheadP P Q then P else Q
def uW (P Q:Pt):Pt:=if aheadP P Q then Q else P
def withinP (R A B:Pt):Bool:=decide (sgn (det (aG A B) (uW A B) R)=0) && (aheadP (aG A B) R && aheadP R (uW A B))
def overP (P Q R S:Pt):Bool:=decide (sgn (det P Q R)=0/\sgn (det P Q S)=0) && aheadP (uW (aG P Q) (aG R S)) (aG (uW P Q) (uW R S))
def pU (C A B:Pt):Int:=(A.n*C.d-C.n*A.d)*(B.n*C.d-C.n*B.d)*(A.e*C.e*(B.e*C.e))+(A.m*C.e-C.m*A.e)*(B.m*C.e-C.m*B.e)*(A.d*C.d*(B.d*C.d))
def btwP (C A B:Pt):Bool:=decide (pU C A B<0)
def lapP (P Q R S:Pt):Bool:=btwP P R S || (btwP Q R S || (btwP R P Q || btwP S P Q))
inductive Out where
 | no | over | touch (X:Pt) | cross
def metO (P Q R S:Pt):Out :=
 if sgn (det P Q R)=0/\sgn (det P Q S)=0 then (if lapP P Q R S then .over else .no)
 else if 0<sgn (det P Q R)*sgn (det P Q S)\/0<sgn (det R S P)*sgn (det R S Q) then .no
 else if sgn (det P Q R)=0 then .touch R else if sgn (det P Q S)=0 then .touch S else if sgn (det R S P)=0 then .touch P else if sgn (det R S Q)=0 then .touch Q else .cross
def dueO (P Q R S:Pt):Out :=
 if overP P Q R S then .over else if withinP R P Q then .touch R else if withinP S P Q then .touch S else if withinP P R S then .touch P else if withinP Q R S then .touch Q
 else if sgn (det P Q R)*sgn (det P Q S)<0/\sgn (det R S P)*sgn (det R S Q)<0 then .cross else .no
theorem jD {x:Int}:sgn x=0↔x=0:=by unfold sgn;split<;>(try split)<;>omega
theorem xZ {x y:Int}:sgn x*sgn y<0↔x*y<0:=by
 rcases ku x 0 with a | a | a<;>rcases ku y 0 with b | b | b
 ·have:=vk a b
  simp [sgn,a,b];omega
 ·subst b;simp [sgn]
 ·have:=iF a b
  simp [sgn,a,b,show ¬ y<0 by omega];omega
 ·subst a;simp [sgn]
 ·subst a;simp [sgn]
 ·subst a;simp [sgn]
 ·have:=om a b
  simp [sgn,a,b,show ¬ x<0 by omega];omega
 ·subst b;simp [sgn]
 ·have:=bc a b
  simp [sgn,a,b,show ¬ y<0 by omega,show ¬ x<0 by omega];omega
theorem kDR (x:Int):sgn x = -1\/sgn x=0\/sgn x=1:=by unfold sgn;split<;>(try split)<;>simp
section
variable {N:Int} {P Q R S:Pt} {p q r s:Z2}
theorem Lw.fir (lp:Lw P) (lq:Lw Q):Lw (aG P Q):=by unfold aG;split<;>assumption
theorem Lw.las (lp:Lw P) (lq:Lw Q):Lw (uW P Q):=by unfold uW;split<;>assumption
theorem Sc.fir (n0:0<N) (hp:Sc N P p) (hq:Sc N Q q) (lp:Lw P) (lq:Lw Q):Sc N (aG P Q) (lo p q)/\Sc N (uW P Q) (hi p q):=by
 unfold aG uW lo hi;rw [xQ n0 hp hq lp lq];by_cases c:ahd p q
 ·simp only [c,decide_true,if_true];exact ⟨hp,hq⟩
 ·simp only [c,decide_false,if_false,bj];exact ⟨hq,hp⟩
theorem jS (n0:0<N) (hp:Sc N P p) (hq:Sc N Q q) (hr:Sc N R r) (lp:Lw P) (lq:Lw Q) (lr:Lw R):withinP R P Q=true↔wth r p q:=by
 obtain ⟨f1,f2⟩:=Sc.fir n0 hp hq lp lq;have l1:=Lw.fir lp lq;have l2:=Lw.las lp lq;unfold withinP wth;rw [qN n0 f1 f2 hr l1 l2 lr,xQ n0 f1 hr l1 lr,xQ n0 hr f2 lr l2];simp only [gi,decide_eq_true_eq,jD]
theorem kHJ (n0:0<N) (hp:Sc N P p) (hq:Sc N Q q) (hr:Sc N R r) (hs:Sc N S s) (lp:Lw P) (lq:Lw Q) (lr:Lw R) (ls:Lw S):overP P Q R S=true↔over p q r s:=by
 obtain ⟨f1,f2⟩:=Sc.fir n0 hp hq lp lq;obtain ⟨g1,g2⟩:=Sc.fir n0 hr hs lr ls;obtain ⟨_,i2⟩:=Sc.fir n0 f1 g1 (Lw.fir lp lq) (Lw.fir lr ls);obtain ⟨j1,_⟩:=Sc.fir n0 f2 g2 (Lw.las lp lq) (Lw.las lr ls);unfold overP over;rw [qN n0 hp hq hr lp lq lr,qN n0 hp hq hs lp lq ls,xQ n0 i2 j1 (Lw.las (Lw.fir lp lq) (Lw.fir lr ls)) (Lw.fir (Lw.las lp lq) (Lw.las lr ls))];simp only [gi,decide_eq_true_eq,jD,and_assoc]
theorem wZ (n0:0<N) (hp:Sc N P p) (hq:Sc N Q q) (hr:Sc N R r) (lp:Lw P) (lq:Lw Q) (lr:Lw R):btwP R P Q=decide (cO r p q<0):=by
 obtain ⟨p1,p2⟩:=hp;obtain ⟨q1,q2⟩:=hq;obtain ⟨r1,r2⟩:=hr
 have e:pU R P Q*(N*N)=cO r p q*(P.d*R.d*(Q.d*R.d)*(P.e*R.e*(Q.e*R.e))):=by
  have x1:N*(P.n*R.d-R.n*P.d)=(p.x-r.x)*(P.d*R.d):=by grind
  have x2:N*(Q.n*R.d-R.n*Q.d)=(q.x-r.x)*(Q.d*R.d):=by grind
  have y1:N*(P.m*R.e-R.m*P.e)=(p.y-r.y)*(P.e*R.e):=by grind
  have y2:N*(Q.m*R.e-R.m*Q.e)=(q.y-r.y)*(Q.e*R.e):=by grind
  have:pU R P Q*(N*N)=(N*(P.n*R.d-R.n*P.d))*(N*(Q.n*R.d-R.n*Q.d))*(P.e*R.e*(Q.e*R.e))+(N*(P.m*R.e-R.m*P.e))*(N*(Q.m*R.e-R.m*Q.e))*(P.d*R.d*(Q.d*R.d)):=by
   unfold pU;generalize P.n*R.d-R.n*P.d=a;generalize Q.n*R.d-R.n*Q.d=b;generalize P.m*R.e-R.m*P.e=c;generalize Q.m*R.e-R.m*Q.e=d
   grind
  rw [this,x1,x2,y1,y2];unfold cO;generalize p.x-r.x=a;generalize q.x-r.x=b;generalize p.y-r.y=c;generalize q.y-r.y=d
  grind
 have pos:=bc (bc (bc lp.d lr.d) (bc lq.d lr.d)) (bc (bc lp.e lr.e) (bc lq.e lr.e));unfold btwP;have z:=jB e (bc n0 n0);have y:=jB (rfl:cO r p q*(P.d*R.d*(Q.d*R.d)*(P.e*R.e*(Q.e*R.e)))=_) pos;exact decide_eq_decide.mpr (z.trans y.symm)
structure Four (P Q R S:Pt):Prop where
 lp:Lw P
 lq:Lw Q
 lr:Lw R
 ls:Lw S
 pq:P≠Q
 pr:P≠R
 ps:P≠S
 qr:Q≠R
 qs:Q≠S
 rs:R≠S
theorem Four.swap (F:Four P Q R S):Four R S P Q:=⟨F.lr,F.ls,F.lp,F.lq,F.rs,F.pr.symm,F.qr.symm,F.ps.symm,F.qs.symm,F.pq⟩
theorem Four.col (F:Four P Q R S) (h:sgn (det P Q R)=0) (h':sgn (det P Q S)=0):sgn (det R S P)=0/\sgn (det R S Q)=0:=by
 obtain ⟨N,p,q,r,s,n0,hp,hq,hr,hs⟩:=scale4 F.lp F.lq F.lr F.ls;rw [qN n0 hp hq hr F.lp F.lq F.lr,jD] at h;rw [qN n0 hp hq hs F.lp F.lq F.ls,jD] at h';rw [qN n0 hr hs hp F.lr F.ls F.lp,qN n0 hr hs hq F.lr F.ls F.lq,jD,jD];have ne:p≠q:=λ z=>F.pq ((jU n0 hp hq F.lp F.lq).mpr z);obtain ⟨k,L⟩:=line ne;have w:k q-k p≠0:=by have:=L.ne;omega
 have e1:=L.crs r p s h (fK p q);have e2:=L.crs r q s h (fJ p q);rw [h',tx] at e1 e2;exact ⟨kEE (by rw [jx];exact e1) w,kEE (by rw [jx];exact e2) w⟩
theorem Four.tip (F:Four P Q R S) (h:sgn (det P Q R)=0) (h':sgn (det P Q S)≠0):sgn (det R S P)≠0/\sgn (det R S Q)≠0/\(withinP R P Q=true↔sgn (det R S P)*sgn (det R S Q)<0):=by
 obtain ⟨N,p,q,r,s,n0,hp,hq,hr,hs⟩:=scale4 F.lp F.lq F.lr F.ls;rw [qN n0 hp hq hr F.lp F.lq F.lr,jD] at h;rw [qN n0 hp hq hs F.lp F.lq F.ls,Ne,jD] at h';rw [qN n0 hr hs hp F.lr F.ls F.lp,qN n0 hr hs hq F.lr F.ls F.lq,xZ,Ne,jD,Ne,jD,jS n0 hp hq hr F.lp F.lq F.lr];exact touch (λ z=>F.pq ((jU n0 hp hq F.lp F.lq).mpr z)) (λ z=>F.pr ((jU n0 hp hr F.lp F.lr).mpr z.symm)) (λ z=>F.qr ((jU n0 hq hr F.lq F.lr).mpr z.symm)) h h'
theorem Four.tip2 (F:Four P Q R S) (h:sgn (det P Q S)=0) (h':sgn (det P Q R)≠0):sgn (det R S P)≠0/\sgn (det R S Q)≠0/\(withinP S P Q=true↔sgn (det R S P)*sgn (det R S Q)<0):=by
 have F':Four P Q S R:=⟨F.lp,F.lq,F.ls,F.lr,F.pq,F.ps,F.pr,F.qs,F.qr,F.rs.symm⟩;have t:=F'.tip h h';rw [wM R S P,wM R S Q,cR,cR] at t;refine ⟨λ z=>t.1 (by omega),λ z=>t.2.1 (by omega),t.2.2.trans ?_⟩;rw [Int.neg_mul_neg]
theorem qV (lp:Lw P) (lq:Lw Q) (lr:Lw R) (h:sgn (det P Q R)≠0):withinP R P Q=false:=by
 cases e:withinP R P Q with
 | false=>rfl
 | true =>
  exfalso;unfold withinP at e;simp only [gi,decide_eq_true_eq] at e;unfold aG uW at e;by_cases c:aheadP P Q=true
  ·simp only [c,if_true] at e
   exact h e.1
  ·simp only [c,if_false,bj] at e
   rw [wM,cR] at e;exact h (by omega)
theorem kJX (h:¬ (sgn (det P Q R)=0/\sgn (det P Q S)=0)):overP P Q R S=false:=by
 unfold overP;rw [decide_eq_false h]
 rfl
theorem Four.allOn (F:Four P Q R S) (h:sgn (det P Q R)=0) (h':sgn (det P Q S)=0):lapP P Q R S=overP P Q R S/\(overP P Q R S=false->withinP R P Q=false/\withinP S P Q=false/\withinP P R S=false/\withinP Q R S=false):=by
 obtain ⟨N,p,q,r,s,n0,hp,hq,hr,hs⟩:=scale4 F.lp F.lq F.lr F.ls;rw [qN n0 hp hq hr F.lp F.lq F.lr,jD] at h;rw [qN n0 hp hq hs F.lp F.lq F.ls,jD] at h'
 obtain ⟨a,b⟩:=kIZ (λ z=>F.pq ((jU n0 hp hq F.lp F.lq).mpr z)) (λ z=>F.pr ((jU n0 hp hr F.lp F.lr).mpr z)) (λ z=>F.ps ((jU n0 hp hs F.lp F.ls).mpr z))
  (λ z=>F.qr ((jU n0 hq hr F.lq F.lr).mpr z)) (λ z=>F.qs ((jU n0 hq hs F.lq F.ls).mpr z)) (λ z=>F.rs ((jU n0 hr hs F.lr F.ls).mpr z)) h h'
 have o:=kHJ n0 hp hq hr hs F.lp F.lq F.lr F.ls;constructor
 ·rw [iH,o,<-a]
  unfold lapP lap;rw [wZ n0 hr hs hp F.lr F.ls F.lp,wZ n0 hr hs hq F.lr F.ls F.lq,wZ n0 hp hq hr F.lp F.lq F.lr,wZ n0 hp hq hs F.lp F.lq F.ls];simp only [zw,decide_eq_true_eq]
 ·intro z
  obtain ⟨w1,w2,w3,w4⟩:=b (λ y=>by rw [o.mpr y] at z;cases z);refine ⟨?_,?_,?_,?_⟩<;>rw [fv,Ne]
  ·rw [jS n0 hp hq hr F.lp F.lq F.lr];exact w1
  ·rw [jS n0 hp hq hs F.lp F.lq F.ls];exact w2
  ·rw [jS n0 hr hs hp F.lr F.ls F.lp];exact w3
  ·rw [jS n0 hr hs hq F.lr F.ls F.lq];exact w4
theorem met_due (F:Four P Q R S):metO P Q R S=dueO P Q R S:=by
 unfold metO dueO;by_cases c:sgn (det P Q R)=0/\sgn (det P Q S)=0
 ·obtain ⟨a,b⟩:=F.allOn c.1 c.2
  rw [if_pos c,a]
  cases e:overP P Q R S with
  | true=>rfl
  | false =>
   obtain ⟨w1,w2,w3,w4⟩:=b e;rw [w1,w2,w3,w4];simp [c.1]
 ·rw [if_neg c,kJX c]
  simp only [bj,if_false];by_cases h0:sgn (det P Q R)=0
  ·have h1:sgn (det P Q S)≠0:=λ z=>c ⟨h0,z⟩
   obtain ⟨g0,g1,w⟩:=F.tip h0 h1;rw [qV F.lp F.lq F.ls h1,qV F.lr F.ls F.lp g0,qV F.lr F.ls F.lq g1];by_cases x:sgn (det R S P)*sgn (det R S Q)<0
   ·rw [if_neg (by rw [h0];omega),if_pos h0,if_pos (w.mpr x)]
   ·have x':0<sgn (det R S P)*sgn (det R S Q):=by
     have:=mt eZ.mp (not_or.mpr ⟨g0,g1⟩);omega
    rw [if_pos (.inr x'),if_neg (λ z=>x (w.mp z))];simp [h0]
  ·by_cases h1:sgn (det P Q S)=0
   ·obtain ⟨g0,g1,w⟩:=F.tip2 h1 h0
    rw [qV F.lp F.lq F.lr h0,qV F.lr F.ls F.lp g0,qV F.lr F.ls F.lq g1];by_cases x:sgn (det R S P)*sgn (det R S Q)<0
    ·rw [if_neg (by rw [h1];omega),if_neg h0,if_pos h1,if_neg cq,if_pos (w.mpr x)]
    ·have x':0<sgn (det R S P)*sgn (det R S Q):=by
      have:=mt eZ.mp (not_or.mpr ⟨g0,g1⟩);omega
     rw [if_pos (.inr x'),if_neg cq,if_neg (λ z=>x (w.mp z))];simp [h1]
   ·rw [qV F.lp F.lq F.lr h0,qV F.lp F.lq F.ls h1]
    have nz:=mt eZ.mp (not_or.mpr ⟨h0,h1⟩);have Fs:=F.swap;by_cases g0:sgn (det R S P)=0
    ·have g1:sgn (det R S Q)≠0:=λ z=>h0 (Fs.col g0 z).1
     obtain ⟨_,_,w⟩:=Fs.tip g0 g1;rw [qV F.lr F.ls F.lq g1];by_cases x:sgn (det P Q R)*sgn (det P Q S)<0
     ·rw [if_neg (by rw [g0];omega),if_neg h0,if_neg h1,if_pos g0,if_pos (w.mpr x)]
      simp
     ·rw [if_pos (.inl (by omega)),if_neg (λ z=>x (w.mp z))]
      simp [x]
    ·by_cases g1:sgn (det R S Q)=0
     ·obtain ⟨_,_,w⟩:=Fs.tip2 g1 g0
      rw [qV F.lr F.ls F.lp g0];by_cases x:sgn (det P Q R)*sgn (det P Q S)<0
      ·rw [if_neg (by rw [g1];omega),if_neg h0,if_neg h1,if_neg g0,if_pos g1,if_pos (w.mpr x)]
       simp
      ·rw [if_pos (.inl (by omega)),if_neg (λ z=>x (w.mp z))]
       simp [x]
     ·have nz2:=mt eZ.mp (not_or.mpr ⟨g0,g1⟩)
      rw [qV F.lr F.ls F.lp g0,qV F.lr F.ls F.lq g1];by_cases x:0<sgn (det P Q R)*sgn (det P Q S)\/0<sgn (det R S P)*sgn (det R S Q)
      ·rw [if_pos x]
       simp;omega
      ·rw [if_neg x,if_neg h0,if_neg h1,if_neg g0,if_neg g1]
       simp;omega
end
section
variable {P Q R S:Pt}
theorem aO:btwP R P Q=btwP R Q P:=by
 unfold btwP
 congr 2
 unfold pU
 grind
def c3 (P:Pt):Int×Int×Int:=(P.n*P.e,P.m*P.d,P.d*P.e)
def cr (u v:Int×Int×Int):Int×Int×Int:=(u.2.1*v.2.2-u.2.2*v.2.1,u.2.2*v.1-u.1*v.2.2,u.1*v.2.1-u.2.1*v.1)
def xyz (P Q R S:Pt):Int×Int×Int:=cr (cr (c3 P) (c3 Q)) (cr (c3 R) (c3 S))
structure CrP (P Q R S X:Pt):Prop where
 x:Fr (xyz P Q R S).1 (xyz P Q R S).2.2 X.n X.d
 y:Fr (xyz P Q R S).2.1 (xyz P Q R S).2.2 X.m X.e
theorem CrP.lw {X:Pt} (h:CrP P Q R S X):Lw X:=⟨h.x.pos,h.y.pos,h.x.co,h.y.co⟩
theorem kCT {n d n1 d1 n2 d2:Int} (hd:d≠0) (h1:Fr n d n1 d1) (h2:Fr n d n2 d2\/Fr (-n) (-d) n2 d2):n1=n2/\d1=d2:=by
 have e1:=h1.eq
 have p2:0<d2/\iE n2 d2=1/\n2*d=n*d2:=by
  rcases h2 with h2 | h2
  ·exact ⟨h2.pos,h2.co,h2.eq⟩
  ·have:=h2.eq
   rw [Int.mul_neg,CM] at this;exact ⟨h2.pos,h2.co,by omega⟩
 refine xY h1.pos p2.1 h1.co p2.2.1 ?_
 have:d*(n1*d2)=d*(n2*d1):=by
  have e2:=p2.2.2
  grind
 exact eF hd this
theorem CrP.same {X Y:Pt} (hz:(xyz P Q R S).2.2≠0) (h:CrP P Q R S X) {P' Q' R' S':Pt} (e:xyz P' Q' R' S'=xyz P Q R S\/xyz P' Q' R' S'=(-(xyz P Q R S).1,-(xyz P Q R S).2.1,-(xyz P Q R S).2.2)) (h':CrP P' Q' R' S' Y):X=Y:=by
 obtain ⟨x1,y1⟩:=h;obtain ⟨x2,y2⟩:=h'
 have a:X.n=Y.n/\X.d=Y.d:=by
  refine kCT hz x1 ?_;rcases e with e | e
  ·rw [e] at x2;exact .inl x2
  ·rw [e] at x2;exact .inr x2
 have b:X.m=Y.m/\X.e=Y.e:=by
  refine kCT hz y1 ?_;rcases e with e | e
  ·rw [e] at y2;exact .inl y2
  ·rw [e] at y2;exact .inr y2
 cases X;cases Y
 simp_all
theorem aL {N k l A1 A2 A3 B1 B2 B3 a1 a2 b1 b2:Int} (x1:N*A1=k*a1) (x2:N*A2=k*a2) (x3:N*A3=k*N) (y1:N*B1=l*b1) (y2:N*B2=l*b2) (y3:N*B3=l*N) :
  N*N*(A2*B3-A3*B2)=k*l*N*(a2-b2)/\N*N*(A3*B1-A1*B3)=k*l*N*(b1-a1)/\N*N*(A1*B2-A2*B1)=k*l*(a1*b2-a2*b1):=by
 refine ⟨?_,?_,?_⟩
 ·have:N*N*(A2*B3-A3*B2)=(N*A2)*(N*B3)-(N*A3)*(N*B2):=by grind
  rw [this,x2,x3,y2,y3];grind
 ·have:N*N*(A3*B1-A1*B3)=(N*A3)*(N*B1)-(N*A1)*(N*B3):=by grind
  rw [this,x1,x3,y1,y3];grind
 ·have:N*N*(A1*B2-A2*B1)=(N*A1)*(N*B2)-(N*A2)*(N*B1):=by grind
  rw [this,x1,x2,y1,y2];grind
theorem kMH {M u1 u2 u3 v1 v2 v3 U1 U2 U3 V1 V2 V3:Int} (a1:M*u1=U1) (a2:M*u2=U2) (a3:M*u3=U3) (b1:M*v1=V1) (b2:M*v2=V2) (b3:M*v3=V3) :
  M*M*(u2*v3-u3*v2)=U2*V3-U3*V2/\M*M*(u3*v1-u1*v3)=U3*V1-U1*V3/\M*M*(u1*v2-u2*v1)=U1*V2-U2*V1:=by
 subst a1 a2 a3 b1 b2 b3;refine ⟨?_,?_,?_⟩<;>grind
theorem Four.crossing (F:Four P Q R S) (h:metO P Q R S=.cross):(xyz P Q R S).2.2≠0/\∀ X,CrP P Q R S X->withinP X P Q=true/\withinP X R S=true:=by
 obtain ⟨N,p,q,r,s,n0,hp,hq,hr,hs⟩:=scale4 F.lp F.lq F.lr F.ls
 have sg:sgn (det P Q R)*sgn (det P Q S)<0/\sgn (det R S P)*sgn (det R S Q)<0:=by
  rw [met_due F] at h;unfold dueO at h;by_cases c:sgn (det P Q R)*sgn (det P Q S)<0/\sgn (det R S P)*sgn (det R S Q)<0
  ·exact c
  ·rw [if_neg c] at h
   exfalso
   revert h
   split
   ·simp
   ·split
    ·simp
    ·split
     ·simp
     ·split
      ·simp
      ·split<;>simp
 rw [qN n0 hp hq hr F.lp F.lq F.lr,qN n0 hp hq hs F.lp F.lq F.ls,qN n0 hr hs hp F.lr F.ls F.lp,qN n0 hr hs hq F.lr F.ls F.lq,xZ,xZ] at sg
 obtain ⟨t0,w1,w2⟩:=kES (λ z=>F.pq ((jU n0 hp hq F.lp F.lq).mpr z)) (λ z=>F.rs ((jU n0 hr hs F.lr F.ls).mpr z)) sg.1 sg.2
 have one:∀ {A:Pt} {a:Z2},Sc N A a->∃ k,k=A.d*A.e/\N*(A.n*A.e)=k*a.x/\N*(A.m*A.d)=k*a.y/\N*(A.d*A.e)=k*N:=λ {A a} ha=>by
  obtain ⟨x,y⟩:=ha;exact ⟨_,rfl,by grind,by grind,by grind⟩
 obtain ⟨kp,ep,p1,p2,p3⟩:=one hp;obtain ⟨kq,eq,q1,q2,q3⟩:=one hq;obtain ⟨kr,er,r1,r2,r3⟩:=one hr;obtain ⟨ks,es,s1,s2,s3⟩:=one hs;obtain ⟨u1,u2,u3⟩:=aL p1 p2 p3 q1 q2 q3;obtain ⟨v1,v2,v3⟩:=aL r1 r2 r3 s1 s2 s3;obtain ⟨X1,X2,X3⟩:=kMH u1 u2 u3 v1 v2 v3;have fx:(xyz P Q R S).1=(P.d*P.e*(Q.n*Q.e)-P.n*P.e*(Q.d*Q.e))*(R.n*R.e*(S.m*S.d)-R.m*R.d*(S.n*S.e))-(P.n*P.e*(Q.m*Q.d)-P.m*P.d*(Q.n*Q.e))*(R.d*R.e*(S.n*S.e)-R.n*R.e*(S.d*S.e)):=rfl;have fy:(xyz P Q R S).2.1=(P.n*P.e*(Q.m*Q.d)-P.m*P.d*(Q.n*Q.e))*(R.m*R.d*(S.d*S.e)-R.d*R.e*(S.m*S.d))-(P.m*P.d*(Q.d*Q.e)-P.d*P.e*(Q.m*Q.d))*(R.n*R.e*(S.m*S.d)-R.m*R.d*(S.n*S.e)):=rfl;have fz:(xyz P Q R S).2.2=(P.m*P.d*(Q.d*Q.e)-P.d*P.e*(Q.m*Q.d))*(R.d*R.e*(S.n*S.e)-R.n*R.e*(S.d*S.e))-(P.d*P.e*(Q.n*Q.e)-P.n*P.e*(Q.d*Q.e))*(R.m*R.d*(S.d*S.e)-R.d*R.e*(S.m*S.d)):=rfl;rw [<-fx] at X1;rw [<-fy] at X2;rw [<-fz] at X3;clear fx fy fz u1 u2 u3 v1 v2 v3 p1 p2 p3 q1 q2 q3 r1 r2 r3 s1 s2 s3;have kp0:0<kp:=by rw [ep];exact bc F.lp.d F.lp.e
 have kq0:0<kq:=by rw [eq];exact bc F.lq.d F.lq.e
 have kr0:0<kr:=by rw [er];exact bc F.lr.d F.lr.e
 have ks0:0<ks:=by rw [es];exact bc F.ls.d F.ls.e
 have K0:0<kp*kq*(kr*ks):=bc (bc kp0 kq0) (bc kr0 ks0);have ix:(q.x-p.x)*(r.x*s.y-r.y*s.x)-(p.x*q.y-p.y*q.x)*(s.x-r.x)=O p q s*r.x-O p q r*s.x:=by unfold O;grind
 have iy:(p.x*q.y-p.y*q.x)*(r.y-s.y)-(p.y-q.y)*(r.x*s.y-r.y*s.x)=O p q s*r.y-O p q r*s.y:=by unfold O;grind
 have iz:(p.y-q.y)*(s.x-r.x)-(q.x-p.x)*(r.y-s.y)=O p q s-O p q r:=by unfold O;grind
 have Y1:N*N*(N*N)*(xyz P Q R S).1=kp*kq*(kr*ks)*N*(O p q s*r.x-O p q r*s.x):=by rw [X1,<-ix];grind
 have Y2:N*N*(N*N)*(xyz P Q R S).2.1=kp*kq*(kr*ks)*N*(O p q s*r.y-O p q r*s.y):=by rw [X2,<-iy];grind
 have Y3:N*N*(N*N)*(xyz P Q R S).2.2=kp*kq*(kr*ks)*N*(N*(O p q s-O p q r)):=by rw [X3,<-iz];grind
 clear X1 X2 X3 ix iy iz
 have tt:∃ ε:Int,crT p q r s=ε*(O p q s-O p q r)/\(crs p q r s).x=ε*(O p q s*r.x-O p q r*s.x)/\(crs p q r s).y=ε*(O p q s*r.y-O p q r*s.y):=by
  unfold crT crs;by_cases c:0<O p q s
  ·exact ⟨1,by simp [c],by simp [c],by simp [c]⟩
  ·refine ⟨-1,by rw [if_neg c];omega,?_,?_⟩
   ·rw [if_neg c];show -(O p q s*r.x-O p q r*s.x)=_;omega
   ·rw [if_neg c];show -(O p q s*r.y-O p q r*s.y)=_;omega
 obtain ⟨ε,t1,t2,t3⟩:=tt;have d0:O p q s-O p q r≠0:=λ z=>by rw [z,tx] at t1;omega
 generalize O p q s-O p q r=D at *;generalize O p q s*r.x-O p q r*s.x=A at *;generalize O p q s*r.y-O p q r*s.y=B at *;generalize kp*kq*(kr*ks)=K at *;generalize crT p q r s=T at *;have N4:0<N*N*(N*N):=bc (bc n0 n0) (bc n0 n0)
 have z0:(xyz P Q R S).2.2≠0:=λ z=>by
  rw [z,tx] at Y3;rcases eZ.mp Y3.symm with y | y
  ·rcases eZ.mp y with y | y<;>omega
  ·rcases eZ.mp y with y | y
   ·omega
   ·exact d0 y
 refine ⟨z0,λ X hX=>?_⟩;have lx:=hX.lw
 have sc:Sc (N*T) X (crs p q r s):=by
  have gen:∀ {f g n' d':Int},N*N*(N*N)*f=K*N*g->Fr f (xyz P Q R S).2.2 n' d'->n'*(N*T)=ε*g*d':=λ {f g n' d'} hf hF=>by
   have e:=hF.eq;generalize (xyz P Q R S).2.2=z at *
   have m1:N*N*(N*N)*(f*(N*D))=N*N*(N*N)*(g*z):=by
    have:N*N*(N*N)*(f*(N*D))=(N*N*(N*N)*f)*(N*D):=by grind
    rw [this,hf];have:N*N*(N*N)*(g*z)=g*(N*N*(N*N)*z):=by grind
    rw [this,Y3]
    grind
   have m2:=eF (by omega) m1
   have m3:z*(n'*(N*D))=z*(g*d'):=by
    have:z*(n'*(N*D))=(n'*z)*(N*D):=by grind
    rw [this,e];have:f*d'*(N*D)=(f*(N*D))*d':=by grind
    rw [this,m2]
    grind
   have m4:=eF z0 m3;rw [t1];have:n'*(N*(ε*D))=ε*(n'*(N*D)):=by grind
   rw [this,m4]
   grind
  exact ⟨by rw [t2];exact gen Y1 hX.x,by rw [t3];exact gen Y2 hX.y⟩
 have nt:0<N*T:=bc n0 t0;exact ⟨(jS nt (hp.mul T) (hq.mul T) sc F.lp F.lq lx).mpr w1,(jS nt (hr.mul T) (hs.mul T) sc F.lr F.ls lx).mpr w2⟩
end
section
variable {N:Int} {P Q R S:Pt} {p q r s:Z2}
theorem kDH (n0:0<N) (hp:Sc N P p) (hq:Sc N Q q) (hr:Sc N R r) (hs:Sc N S s) (lp:Lw P) (lq:Lw Q) (lr:Lw R) (ls:Lw S):∃ K,0<K /\
  N*N*(N*N)*(xyz P Q R S).1=K*N*((q.y*p.x-q.x*p.y)*(r.x-s.x)-(p.x-q.x)*(s.y*r.x-s.x*r.y)) /\
  N*N*(N*N)*(xyz P Q R S).2.1=K*N*((q.y-p.y)*(s.y*r.x-s.x*r.y)-(q.y*p.x-q.x*p.y)*(s.y-r.y)) /\
  N*N*(N*N)*(xyz P Q R S).2.2=K*N*(N*((q.y-p.y)*(r.x-s.x)-(p.x-q.x)*(s.y-r.y))):=by
 have one:∀ {A:Pt} {a:Z2},Sc N A a->∃ k,k=A.d*A.e/\N*(A.n*A.e)=k*a.x/\N*(A.m*A.d)=k*a.y/\N*(A.d*A.e)=k*N:=λ {A a} ha=>by
  obtain ⟨x,y⟩:=ha;exact ⟨_,rfl,by grind,by grind,by grind⟩
 obtain ⟨kp,ep,p1,p2,p3⟩:=one hp;obtain ⟨kq,eq,q1,q2,q3⟩:=one hq;obtain ⟨kr,er,r1,r2,r3⟩:=one hr;obtain ⟨ks,es,s1,s2,s3⟩:=one hs;obtain ⟨u1,u2,u3⟩:=aL p1 p2 p3 q1 q2 q3;obtain ⟨v1,v2,v3⟩:=aL r1 r2 r3 s1 s2 s3;obtain ⟨X1,X2,X3⟩:=kMH u1 u2 u3 v1 v2 v3;refine ⟨kp*kq*(kr*ks),?_,X1.trans ?_,X2.trans ?_,X3.trans ?_⟩
 ·rw [ep,eq,er,es]
  exact bc (bc (bc lp.d lp.e) (bc lq.d lq.e)) (bc (bc lr.d lr.e) (bc ls.d ls.e))
 ·grind
 ·grind
 ·grind
instance:Nonempty Pt:=⟨⟨0,1,0,1⟩⟩
noncomputable def crP (P Q R S:Pt):Pt:=DV λ X=>CrP P Q R S X
theorem crP_of {X:Pt} (hz:(xyz P Q R S).2.2≠0) (h:CrP P Q R S X):X=crP P Q R S :=
 h.same hz (.inl rfl) (Bm (p:=λ X=>CrP P Q R S X) ⟨X,h⟩)
theorem kMF {n d:Int} (h:d≠0):∃ n' d',Fr n d n' d':=by
 have g:=aA (n:=n) h;rcases wm h with c | c
 ·exact ⟨_,_,mX h (.inr rfl) (jV h (.inr ⟨c,rfl⟩))⟩
 ·exact ⟨_,_,mX h (.inl rfl) (jV h (.inl ⟨c,rfl⟩))⟩
theorem kOK (hz:(xyz P Q R S).2.2≠0):CrP P Q R S (crP P Q R S):=by
 obtain ⟨n,d,h⟩:=kMF (n:=(xyz P Q R S).1) hz;obtain ⟨m,e,k⟩:=kMF (n:=(xyz P Q R S).2.1) hz;have:CrP P Q R S ⟨n,d,m,e⟩:=⟨h,k⟩;rw [crP_of hz this] at this;exact this
theorem opp_ne (n0:0<N) (hp:Sc N P p) (hq:Sc N Q q) (hr:Sc N R r) (hs:Sc N S s) (lp:Lw P) (lq:Lw Q) (lr:Lw R) (ls:Lw S) (h:sgn (det P Q R)*sgn (det P Q S)<0):(q.y-p.y)*(r.x-s.x)-(p.x-q.x)*(s.y-r.y)≠0:=by
 rw [qN n0 hp hq hr lp lq lr,qN n0 hp hq hs lp lq ls,xZ] at h;intro z;have iz:(q.y-p.y)*(r.x-s.x)-(p.x-q.x)*(s.y-r.y)=O p q s-O p q r:=by unfold O;grind
 rw [iz] at z;have e:O p q s=O p q r:=by omega
 rw [e] at h;by_cases c:O p q r=0
 ·rw [c] at h;simp at h
 ·have:=zV c
  omega
theorem law_cross (n0:0<N) (hp:Sc N P p) (hq:Sc N Q q) (hr:Sc N R r) (hs:Sc N S s) (lp:Lw P) (lq:Lw Q) (lr:Lw R) (ls:Lw S) {x0 x1 y0 y1 u0 u1:Int} {X:Pt}
  (hx:Sca.Sc (N*N*N) ((q.y*p.x-q.x*p.y)*(r.x-s.x)-(p.x-q.x)*(s.y*r.x-s.x*r.y)) x0 x1)
  (hy:Sca.Sc (N*N*N) ((q.y-p.y)*(s.y*r.x-s.x*r.y)-(q.y*p.x-q.x*p.y)*(s.y-r.y)) y0 y1)
  (hu:Sca.Sc (N*N) ((q.y-p.y)*(r.x-s.x)-(p.x-q.x)*(s.y-r.y)) u0 u1) (u0n:u0≠0) (fx:Fr (x0*u1) (x1*u0) X.n X.d) (fy:Fr (y0*u1) (y1*u0) X.m X.e):X=crP P Q R S:=by
 obtain ⟨K,K0,a1,a2,a3⟩:=kDH n0 hp hq hr hs lp lq lr ls;generalize (q.y*p.x-q.x*p.y)*(r.x-s.x)-(p.x-q.x)*(s.y*r.x-s.x*r.y)=A at *;generalize (q.y-p.y)*(s.y*r.x-s.x*r.y)-(q.y*p.x-q.x*p.y)*(s.y-r.y)=B at *;generalize (q.y-p.y)*(r.x-s.x)-(p.x-q.x)*(s.y-r.y)=D at *;obtain ⟨x1p,hx⟩:=hx;obtain ⟨y1p,hy⟩:=hy;obtain ⟨u1p,hu⟩:=hu;have nn:0<N*N:=bc n0 n0;have n4:0<N*N*(N*N):=bc nn nn
 have d0:D≠0:=λ z=>by
  rw [z,jy] at hu;rcases eZ.mp hu with y | y
  ·exact u0n y
  ·omega
 have z0:(xyz P Q R S).2.2≠0:=λ z=>by
  rw [z,tx] at a3;rcases eZ.mp a3.symm with y | y
  ·rcases eZ.mp y with y | y<;>omega
  ·rcases eZ.mp y with y | y
   ·omega
   ·exact d0 y
 have C:=kOK z0
 have gen:∀ {f g v0 v1 n' d' n'' d'':Int},N*N*(N*N)*f=K*N*g->0<v1->v0*(N*N*N)=g*v1->Fr (v0*u1) (v1*u0) n' d'->Fr f (xyz P Q R S).2.2 n'' d''->n'=n''/\d'=d'':=λ {f g v0 v1 n' d' n'' d''} hf v1p hv F F2=>by
  refine xY F.pos F2.pos F.co F2.co ?_;have e1:=F.eq;have e2:=F2.eq
  generalize (xyz P Q R S).2.2=z at *
  have m1:f*(N*D)=g*z:=by
   refine eF (show N*N*(N*N)≠0 by omega) ?_;have:N*N*(N*N)*(f*(N*D))=(N*N*(N*N)*f)*(N*D):=by grind
   rw [this,hf];have:N*N*(N*N)*(g*z)=g*(N*N*(N*N)*z):=by grind
   rw [this,a3]
   grind
  have m2:n''*(N*D)=g*d'':=by
   refine eF z0 ?_;have:z*(n''*(N*D))=(n''*z)*(N*D):=by grind
   rw [this,e2];have:f*d''*(N*D)=(f*(N*D))*d'':=by grind
   rw [this,m1]
   grind
  have m3:n'*(N*D)=g*d':=by
   refine eF (a:=v1*u1*(N*N)) (DW (bc (bc v1p u1p) nn)) ?_;have:v1*u1*(N*N)*(n'*(N*D))=(n'*v1)*(N*N*N)*(D*u1):=by grind
   rw [this,<-hu];have:n'*v1*(N*N*N)*(u0*(N*N))=(n'*(v1*u0))*(N*N*N)*(N*N):=by grind
   rw [this,e1];have:v0*u1*d'*(N*N*N)*(N*N)=(v0*(N*N*N))*u1*d'*(N*N):=by grind
   rw [this,hv]
   grind
  have ND:N*D≠0:=λ y=>by
   rcases eZ.mp y with y | y
   ·omega
   ·exact d0 y
  refine eF ND ?_;have:N*D*(n'*d'')=(n'*(N*D))*d'':=by grind
  rw [this,m3];have:N*D*(n''*d')=(n''*(N*D))*d':=by grind
  rw [this,m2]
  grind
 obtain ⟨b1,b2⟩:=gen a1 x1p hx fx C.x;obtain ⟨b3,b4⟩:=gen a2 y1p hy fy C.y;show (⟨X.n,X.d,X.m,X.e⟩ : Pt)=crP P Q R S;rw [b1,b2,b3,b4]
theorem joined (lp:Lw P) (lq:Lw Q) (lr:Lw R) (pq:P≠Q) (pr:P≠R) (qr:Q≠R) (h:sgn (det P Q R)=0):(btwP Q P R || btwP R P Q)=decide (aheadP P Q=aheadP P R):=by
 obtain ⟨N,p,q,r,_,n0,hp,hq,hr,_⟩:=scale4 lp lq lr lr;rw [wZ n0 hp hr hq lp lr lq,wZ n0 hp hq hr lp lq lr,xQ n0 hp hq lp lq,xQ n0 hp hr lp lr];rw [qN n0 hp hq hr lp lq lr,jD] at h;have pq':p≠q:=λ z=>pq ((jU n0 hp hq lp lq).mpr z);have pr':p≠r:=λ z=>pr ((jU n0 hp hr lp lr).mpr z);have qr':q≠r:=λ z=>qr ((jU n0 hq hr lq lr).mpr z);obtain ⟨k,L⟩:=line pq';have np:=fK p q;have nq:=fJ p q;have k1:k p≠k q:=λ z=>pq' (L.eq p q np nq z);have k2:k p≠k r:=λ z=>pr' (L.eq p r np h z);have k3:k q≠k r:=λ z=>qr' (L.eq q r nq h z);have d1:=L.dot p r q np h nq;have d2:=L.dot p q r np nq h;have a1:=L.ah p q np nq;have a2:=L.ah p r np h
 have sg:∀ {a b:Int},a≠0->b≠0->(a*b<0↔(a<0/\0<b)\/(0<a/\b<0)):=λ {a b} ha hb=>by
  constructor
  ·intro z
   rcases wm ha with x | x<;>rcases wm hb with y | y
   ·have:=vk x y;omega
   ·exact .inl ⟨x,y⟩
   ·exact .inr ⟨x,y⟩
   ·have:=bc x y;omega
  ·rintro (⟨x,y⟩ | ⟨x,y⟩)
   ·exact iF x y
   ·exact om x y
 rw [sg (by omega) (by omega)] at d1 d2;rw [iH,zw,decide_eq_true_iff,decide_eq_true_iff,decide_eq_true_iff,decide_eq_decide,d1,d2,a1,a2];omega
theorem aP (P Q:Pt):btwP P P Q=false:=by
 unfold btwP pU;refine decide_eq_false ?_;rw [vg,vg,jy,jy,jy,jy]
 decide
theorem wY (P Q:Pt):btwP P Q P=false:=by
 unfold btwP pU;refine decide_eq_false ?_;rw [vg,vg,tx,tx,jy,jy]
 decide
theorem lap_pp:lapP P Q P S=(btwP Q P S || btwP S P Q):=by
 unfold lapP;rw [aP,aP];simp
theorem lap_qp:lapP P Q Q S=(btwP P Q S || btwP S Q P):=by
 unfold lapP;rw [aP Q S,wY Q P,aO (R:=S) (P:=P)];simp
theorem lap_pq:lapP P Q R P=(btwP Q P R || btwP R P Q):=by
 unfold lapP;rw [wY P R,aP P Q,aO (R:=Q) (P:=R)];simp
theorem lap_qq:lapP P Q R Q=(btwP P Q R || btwP R Q P):=by
 unfold lapP;rw [wY Q R,wY Q P,aO (R:=P) (P:=R),aO (R:=R) (P:=P)];simp
end
end Geo
namespace Tri
open Cyc
end Tri
namespace Tri
open Cyc Rnd
section
variable {W:Rows}
theorem zU (nd:∀ (p:Nat) (row:List Nat),W[p]?=some row->row.Nodup):(qU W).Nodup:=by
 unfold qU;rw [List.nodup_iff_pairwise_ne,List.pairwise_flatMap];refine ⟨λ p hp=>?_,?_⟩
 ·have hl:=uz.mp hp
  have e:W[p]?=some (W.getD p []):=by rw [fg,ao hl];rfl
  have n:=nd p _ e;refine GO _ (λ x y (z:x≠y) e=>z (congrArg Prod.snd e)) n
 ·refine List.nodup_range.imp λ {p q} hpq=>?_
  intro x hx y hy e;obtain ⟨_,_,rfl⟩:=yt.mp hx;obtain ⟨_,_,rfl⟩:=yt.mp hy;exact hpq (congrArg Prod.fst e)
theorem lH:∀ (W:Rows) ,(qU W).length=(W.map ph).sum:=by
 intro W;unfold qU;rw [List.length_flatMap]
 congr 1
 refine List.ext_getElem (by simp) λ i h1 h2=>?_;simp at h1 h2;simp [fg,h1]
end
end Tri
local macro_rules | `(tactic| walk_at "sort_open gallop")=>`(tactic| delta $(Lean.mkIdent (Lean.mkPrivateNameCore `PySem.Builtin.List.W1All `PySem.Builtin.gallop)):ident)
namespace Srt
set_option autoImplicit false
open PySem PyProof.Rows
def zG:Bool->av->Array av->Nat->Nat->Nat->StateT de Sem (Option Nat):=sortPriv% PySem.Builtin.gallop
def aQ (left:Bool) (key:av) (arr:Array av) (base:Nat) (i:Nat):StateT de Sem (Option Bool):=do
 let x <-elem' arr (base+i)
 if left then lt' x key else return (<-lt' key x).map (!·)
section
variable {M:qt} {A:dj} {E:af->aj->Prop} {s:aj}
def kMD (left:Bool) (key:av) (arr:Array av) (base n lo0 hi0:Nat):StateT de Sem (Option Nat):=do
 let mut lo:=lo0
 let mut hi:=hi0
 for _ in [0:n] do
  if lo >= hi then break
  let m:=lo+(hi-lo) / 2
  let some more <-aQ left key arr base m | return none
  if more then lo:=m+1 else hi:=m
 return some hi
variable {left:Bool} {key:av} {arr:Array av} {base n hint:Nat} {Q:Option Nat->de->Prop} {st:de}
theorem lU (b:Nat->Bool) {lo hi:Nat}
  (hb:∀ i,i<n->∀ Q:Option Bool->de->Prop,Q (some (b i)) st->wpS M A E s (aQ left key arr base i) Q st)
  (mono:∀ i j,i<=j->j<n->b j=true->b i=true) (hlh:lo<=hi) (hn:hi<=n) (h1:∀ i,i<lo->b i=true) (h2:∀ i,hi<=i->i<n->b i=false)
  (h:∀ k,k<=n->(∀ i,i<k->b i=true)->(∀ i,k<=i->i<n->b i=false)->Q (some k) st):wpS M A E s (kMD left key arr base n lo hi) Q st:=by
 unfold kMD
 refine bh (qa (iC (I:=λ x c st'=>st'=st/\∃ l r,c=(none,l,r)/\l<=r/\r<=n/\r-l<=n-x/\(∀ i,i<l->b i=true)/\∀ i,r<=i->i<n->b i=false)
  (Q:=λ c st'=>st'=st/\∃ l,c=(none,l,l)/\l<=n/\(∀ i,i<l->b i=true)/\∀ i,l<=i->i<n->b i=false) ?step ?fin ⟨rfl,lo,hi,rfl,hlh,hn,by omega,h1,h2⟩) ?post)
 case post =>
  rintro c st' ⟨rfl,l,rfl,ln,a1,a2⟩;exact cn (h l ln a1 a2)
 case fin =>
  rintro c st' ⟨rfl,l,r,rfl,lr,rn,d,a1,a2⟩;have:l=r:=by omega
  subst this;exact ⟨rfl,l,rfl,rn,a1,a2⟩
 case step =>
  rintro x c st' _ hx ⟨rfl,l,r,rfl,lr,rn,d,a1,a2⟩;dsimp only;by_cases hge:l >= r
  ·rw [if_pos hge]
   have:l=r:=by omega
   subst this;exact cn ⟨rfl,l,rfl,rn,a1,a2⟩
  ·rw [if_neg hge]
   refine bh (hb _ (by omega) _ ?_)
   cases e:b (l+(r-l) / 2)
   case true =>
    simp only [if_true];exact cn ⟨rfl,_,r,rfl,by omega,rn,by omega,λ i hi=>mono i _ (by omega) (by omega) e,a2⟩
   case false =>
    simp only [bj,if_false];refine cn ⟨rfl,l,_,rfl,by omega,by omega,by omega,a1,λ i i1 i2=>?_⟩
    cases z:b i with
    | false=>rfl
    | true=>rw [mono _ i i1 i2 z] at e;cases e
theorem tK (b:Nat->Bool)
  (hb:∀ i,i<n->∀ Q:Option Bool->de->Prop,Q (some (b i)) st->wpS M A E s (aQ left key arr base i) Q st)
  (mono:∀ i j,i<=j->j<n->b j=true->b i=true) (hh:hint<n)
  (h:∀ k,k<=n->(∀ i,i<k->b i=true)->(∀ i,k<=i->i<n->b i=false)->Q (some k) st):wpS M A E s (zG left key arr base n hint) Q st:=by
 unfold zG
 walk_at "sort_open gallop"
 dsimp only
 have nf:∀ {i j:Nat},i<=j->j<n->b i=false->b j=false:=λ {i j} h1 h2 e=>by
  cases z:b j with
  | false=>rfl
  | true=>rw [mono i j h1 h2 z] at e;cases e
 refine bh (hb hint hh _ ?_)
 cases e:b hint
 case true =>
  simp only [if_true]
  refine bh (qa (iC (I:=λ x c st'=>st'=st/\∃ l o,c=(none,l,o)/\l<o/\x+1<=o/\hint+l<n/\b (hint+l)=true)
   (Q:=λ c st'=>st'=st/\∃ l o,c=(none,l,o)/\l<o/\hint+l<n/\b (hint+l)=true/\(n-hint<=o\/(hint+o<n/\b (hint+o)=false))) ?step ?fin ⟨rfl,0,1,rfl,by omega,by omega,by omega,e⟩) ?post)
  case fin =>
   rintro c st' ⟨rfl,l,o,rfl,lo,xo,ln,bl⟩;exact ⟨rfl,l,o,rfl,lo,ln,bl,.inl (by omega)⟩
  case step =>
   rintro x c st' _ hx ⟨rfl,l,o,rfl,lo,xo,ln,bl⟩;dsimp only;by_cases hge:o >= n-hint
   ·rw [if_pos hge]
    exact cn ⟨rfl,l,o,rfl,lo,ln,bl,.inl hge⟩
   ·rw [if_neg hge]
    refine bh (hb _ (by omega) _ ?_)
    cases z:b (hint+o)
    case true =>
     simp only [jl,bj,if_false];exact cn ⟨rfl,o,_,rfl,by omega,by omega,by omega,z⟩
    case false =>
     simp only [Ek,if_true];exact cn ⟨rfl,l,o,rfl,lo,ln,bl,.inr ⟨by omega,z⟩⟩
  case post =>
   rintro c st' ⟨rfl,l,o,rfl,lo,ln,bl,bo⟩;refine lU (lo:=hint+l+1) (hi:=hint+min o (n-hint)) b hb mono (by omega) (by omega) (λ i hi=>mono i (hint+l) (by omega) ln bl) (λ i i1 i2=>?_) h;rcases bo with z | ⟨z1,z2⟩
   ·omega
   ·exact nf (i:=hint+o) (by omega) i2 z2
 case false =>
  simp only [bj,if_false]
  refine bh (qa (iC (I:=λ x c st'=>st'=st/\∃ l o,c=(none,l,o)/\l<o/\x+1<=o/\l<=hint/\b (hint-l)=false)
   (Q:=λ c st'=>st'=st/\∃ l o,c=(none,l,o)/\l<o/\l<=hint/\b (hint-l)=false/\(hint+1<=o\/(o<=hint/\b (hint-o)=true))) ?step ?fin ⟨rfl,0,1,rfl,by omega,by omega,by omega,e⟩) ?post)
  case fin =>
   rintro c st' ⟨rfl,l,o,rfl,lo,xo,ln,bl⟩;exact ⟨rfl,l,o,rfl,lo,ln,bl,.inl (by omega)⟩
  case step =>
   rintro x c st' _ hx ⟨rfl,l,o,rfl,lo,xo,ln,bl⟩;dsimp only;by_cases hge:o >= hint+1
   ·rw [if_pos hge]
    exact cn ⟨rfl,l,o,rfl,lo,ln,bl,.inl hge⟩
   ·rw [if_neg hge]
    refine bh (hb _ (by omega) _ ?_)
    cases z:b (hint-o)
    case false =>
     simp only [bj,if_false];exact cn ⟨rfl,o,_,rfl,by omega,by omega,by omega,z⟩
    case true =>
     simp only [if_true];exact cn ⟨rfl,l,o,rfl,lo,ln,bl,.inr ⟨by omega,z⟩⟩
  case post =>
   rintro c st' ⟨rfl,l,o,rfl,lo,ln,bl,bo⟩;refine lU (lo:=hint+1-min o (hint+1)) (hi:=hint-l) b hb mono (by omega) (by omega) (λ i hi=>?_) (λ i i1 i2=>nf (i:=hint-l) i1 i2 bl) h;rcases bo with z | ⟨z1,z2⟩
   ·omega
   ·exact mono i (hint-o) (by omega) (by omega) z2
end
end Srt
namespace Srt
set_option autoImplicit false
open PySem PyProof.Rows
section
variable {α:Type}
structure Wk (lb:α->α->Bool):Prop where
 irr:∀ a,lb a a=false
 neg:∀ a b c,lb a c=true->lb a b=true\/lb b c=true
 tr:∀ a b c,lb a b=true->lb b c=true->lb a c=true
variable {lb:α->α->Bool}
def le (lb:α->α->Bool) (a b:α):Prop:=lb b a=false
theorem Wk.refl (W:Wk lb) (a:α):le lb a a:=W.irr a
theorem Wk.of_lt (W:Wk lb) {a b:α} (h:lb a b=true):le lb a b:=by
 unfold le
 cases e:lb b a with
 | false=>rfl
 | true=>have:=W.tr _ _ _ h e;rw [W.irr] at this;cases this
theorem Wk.trans (W:Wk lb) {a b c:α} (h:le lb a b) (k:le lb b c):le lb a c:=by
 unfold le at *
 cases e:lb c a with
 | false=>rfl
 | true =>
  rcases W.neg c b a e with z | z
  ·rw [k] at z;cases z
  ·rw [h] at z;cases z
def qT (lb:α->α->Bool) (l:List α):Prop:=l.Pairwise (le lb)
structure Mg (lb:α->α->Bool) (A B:List α) (out ra rb:List α):Prop where
 sa:qT lb (out++ra)
 sb:qT lb (out++rb)
 pm:(out++(ra++rb)).Perm (A++B)
theorem Mg.moveA {A B out c ra rb:List α} (h:Mg lb A B out (c++ra) rb) (hc:∀ x∈c,∀ y∈rb,le lb x y):Mg lb A B (out++c) ra rb:=by
 refine ⟨by rw [eM];exact h.sa,?_,?_⟩
 ·have h1:=dc.mp h.sa
  have h2:=dc.mp h.sb;have h3:=dc.mp h1.2.1;rw [qT,eM];refine dc.mpr ⟨h1.1,dc.mpr ⟨h3.1,h2.2.1,hc⟩,λ x hx y hy=>?_⟩;rcases gf.mp hy with z | z
  ·exact h1.2.2 x hx y (lh _ z)
  ·exact h2.2.2 x hx y z
 ·refine oy ?_ h.pm
  simp only [eM];exact xp _
theorem Mg.swap {A B out ra rb:List α} (h:Mg lb A B out ra rb):Mg lb B A out rb ra :=
 ⟨h.sb,h.sa,((jh).append_left out).trans (h.pm.trans jh)⟩
theorem Mg.moveB {A B out c ra rb:List α} (h:Mg lb A B out ra (c++rb)) (hc:∀ x∈c,∀ y∈ra,le lb x y):Mg lb A B (out++c) ra rb:=(h.swap.moveA hc).swap
def Res (lb:α->α->Bool) (A B r:List α):Prop:=qT lb r/\r.Perm (A++B)
theorem Mg.endA {A B out ra:List α} (h:Mg lb A B out ra []):Res lb A B (out++ra++[]):=⟨by simpa using h.sa,by simpa using h.pm⟩
theorem Mg.endB {A B out rb:List α} (h:Mg lb A B out [] rb):Res lb A B (out++[]++rb):=⟨by simpa using h.sb,by simpa using h.pm⟩
theorem Mg.last {A B out rb:List α} {z:α} (h:Mg lb A B out [z] rb) (hz:∀ y∈rb,le lb y z):Res lb A B (out++rb++[z]):=by
 refine ⟨?_,?_⟩
 ·have h1:=dc.mp h.sa
  have h2:=dc.mp h.sb;refine dc.mpr ⟨h.sb,je _ _,λ x hx y hy=>?_⟩;have:y=z:=by simpa using hy
  subst this;rcases gf.mp hx with w | w
  ·exact h1.2.2 x w y (by simp)
  ·exact hz x w
 ·refine oy ?_ h.pm
  rw [eM];exact jh.append_left out
end
def fU:Array av->Array av->StateT de Sem (Array av):=sortPriv% PySem.Builtin.mergeLo
def jO:Nat->StateT de Sem Unit:=sortPriv% PySem.Builtin.setMinGallop
abbrev yM (st:de) (g:Nat):de:=Bn (kindOf st) (cm st) (ck st) g (qb st)
theorem setMinGallop'_eq (g:Nat):jO g=modify λ s=>yM s g:=rfl
end Srt
local macro_rules | `(tactic| walk_at "sort_open mergeLo")=>`(tactic| delta $(Lean.mkIdent (Lean.mkPrivateNameCore `PySem.Builtin.List.W1All `PySem.Builtin.mergeLo)):ident)
namespace Srt
set_option autoImplicit false
open PySem PyProof.Rows
section
variable {M:qt} {A:dj} {E:af->aj->Prop} {s:aj} {lb:av->av->Bool} {D:av->Prop} {kd:iw}
def wQ (M:qt) (A:dj) (E:af->aj->Prop) (s:aj) (lb:av->av->Bool) (D:av->Prop) (kd:iw):Prop :=
 ∀ x y,D x->D y->∀ (st:de) (Q:Option Bool->de->Prop),kindOf st=kd->Q (some (lb x y)) st->wpS M A E s (lt' x y) Q st
theorem qD {arr:Array av} {i:Nat} {p:av} {Q:av->de->Prop} {st:de} (h:arr[i]?=some p) (q:Q p st):wpS M A E s (elem' arr i) Q st:=by
 rw [elem'_eq,h];exact cn q
def Sm (st st':de):Prop:=kindOf st'=kindOf st/\cm st'=cm st/\ck st'=ck st/\qb st'=qb st
theorem Sm.refl (st:de):Sm st st:=⟨rfl,rfl,rfl,rfl⟩
theorem Sm.gal {st st':de} (h:Sm st st') (g:Nat):Sm st (yM st' g):=h
theorem yP {x:String} {Q:Unit->de->Prop} {st:de} (q:Q () st):wpS M A E s (liftM (rule x):StateT de Sem Unit) Q st:=wpS_lift (uo ⟨rfl,q⟩)
theorem tM (hL:wQ M A E s lb D kd) {left:Bool} {key x:av} {arr:Array av} {base i:Nat} {Q:Option Bool->de->Prop} {st:de} (hk:kindOf st=kd) (hx:arr[base+i]?=some x) (dk:D key) (dx:D x)
  (q:Q (some (if left then lb x key else !lb key x)) st):wpS M A E s (aQ left key arr base i) Q st:=by
 unfold aQ;refine bh (qD hx ?_)
 cases left with
 | true =>
  simp only [if_true] at q ⊢;exact hL _ _ dx dk st _ hk q
 | false =>
  simp only [bj,if_false] at q ⊢;exact bh (hL _ _ dk dx st _ hk (cn q))
theorem wR (W:Wk lb) (hL:wQ M A E s lb D kd) {left:Bool} {key:av} {arr:Array av} {base n hint:Nat} {Q:Option Nat->de->Prop} {st:de} (hk:kindOf st=kd) (dk:D key) (da:∀ x∈arr.toList,D x)
  (hn:base+n<=arr.size) (hs:∀ i j (hi:i<=j) (hj:j<n),le lb (arr[base+i]'(by omega)) (arr[base+j]'(by omega))) (hh:hint<n)
  (h:∀ k,k<=n->(∀ i (hi:i<k) (hin:i<n),if left then lb (arr[base+i]'(by omega)) key=true else le lb (arr[base+i]'(by omega)) key) ->
   (∀ i (hi:k<=i) (hin:i<n),if left then le lb key (arr[base+i]'(by omega)) else lb key (arr[base+i]'(by omega))=true)->Q (some k) st):wpS M A E s (zG left key arr base n hint) Q st:=by
 have g:∀ i,i<n->arr[base+i]?=some (arr.getD (base+i) key):=λ i hi=>by
  rw [getElem?_pos arr (base+i) (by omega)]
  congr 1
  simp [GK,show base+i<arr.size by omega]
 have ge:∀ i (hi:i<n),arr.getD (base+i) key=arr[base+i]'(by omega):=λ i hi=>by simp [GK,show base+i<arr.size by omega]
 refine tK (λ i=>if left then lb (arr.getD (base+i) key) key else !lb key (arr.getD (base+i) key)) (λ i hi Q q=>tM hL hk (g i hi) dk (by rw [ge i hi];exact da _ (by simp)) q) (λ i j hi hj e=>?_) hh (λ k kn h1 h2=>h k kn (λ i hi hin=>?_) (λ i hi hin=>?_))
 ·have:=hs i j hi hj
  rw [ge i (by omega)];rw [ge j hj] at e
  cases left with
  | true =>
   simp only [if_true] at e ⊢;rcases W.neg _ (arr[base+i]'(by omega)) _ e with z | z
   ·rw [show lb _ _=false from this] at z;cases z
   ·exact z
  | false =>
   simp only [bj,if_false,DX] at e ⊢;exact W.trans (lb:=lb) this (show le lb _ _ from e)
 ·have:=h1 i hi
  rw [ge i hin] at this
  cases left with
  | true=>simpa using this
  | false=>simp only [bj,if_false,DX] at this ⊢;exact this
 ·have:=h2 i hi hin
  rw [ge i hin] at this
  cases left with
  | true=>simp only [if_true] at this ⊢;exact this
  | false=>simp only [bj,if_false,Bool.not_eq_false'] at this ⊢;exact this
abbrev LS:=Option (Array av)×Array av×Nat×Nat×Nat×Nat×Nat
section
variable (a b:Array av)
def pC (out:Array av) (ia ib g k k1:Nat):StateT de Sem (ForInStep LS):=do
 let x <-elem' a ia
 if (ia+1+1 == a.size)=true then pure (.done (some (out.push x++b.extract ib++a.extract (ia+1)),out.push x,ia+1,ib,g,k,k1))
 else if (decide (k<7) && decide (k1<7))=true then pure (.done (none,out.push x,ia+1,ib,g,k,k1)) else pure (.yield (none,out.push x,ia+1,ib,g,k,k1))
def pB (out:Array av) (ia ib g k ob:Nat):StateT de Sem (ForInStep LS):=do
 let y <-elem' b ib
 if (ib+1 == b.size)=true then pure (.done (some (out.push y++a.extract ia++b.extract (ib+1)),out.push y,ia,ib+1,g,k,ob))
 else do
  let x <-elem' a ia
  let r <-zG true x b (ib+1) (b.size-(ib+1)) 0
  match r with
  | some k1 =>
   if k1>0 then
    if (ib+1+k1 == b.size)=true then pure (.done (some (out.push y++b.extract (ib+1) (ib+1+k1)++a.extract ia++b.extract (ib+1+k1)),out.push y++b.extract (ib+1) (ib+1+k1),ia,ib+1+k1,g,k,k1))
    else pC a b (out.push y++b.extract (ib+1) (ib+1+k1)) ia (ib+1+k1) g k k1
   else pC a b (out.push y) ia (ib+1) g k k1
  | x=>pure (.done (some (out.push y++a.extract ia++b.extract (ib+1)),out.push y,ia,ib+1,g,k,ob))
def pA (out:Array av) (ia ib g oa ob:Nat):StateT de Sem (ForInStep LS):=do
 jO g
 let y <-elem' b ib
 let r <-zG false y a ia (a.size-ia) 0
 match r with
 | some k =>
  if k>0 then
   if (ia+k+1 == a.size)=true then pure (.done (some (out++a.extract ia (ia+k)++b.extract ib++a.extract (ia+k)),out++a.extract ia (ia+k),ia+k,ib,g,k,ob))
   else if (ia+k == a.size)=true then pure (.done (some (out++a.extract ia (ia+k)++a.extract (ia+k)++b.extract ib),out++a.extract ia (ia+k),ia+k,ib,g,k,ob))
   else pB a b (out++a.extract ia (ia+k)) (ia+k) ib g k ob
  else pB a b out ia ib g k ob
 | x=>pure (.done (some (out++a.extract ia++b.extract ib),out,ia,ib,g,oa,ob))
abbrev LS1:=Option (Array av)×Array av×Nat×Nat×Nat×Nat
def p1 (mg:Nat) (c:LS1):StateT de Sem (ForInStep LS1):=do
 let y <-elem' b c.2.2.2.1
 let x <-elem' a c.2.2.1
 let r <-lt' y x
 match r with
 | some bw =>
  if bw=true then do
   let y <-elem' b c.2.2.2.1
   if (c.2.2.2.1+1 == b.size)=true then pure (.done (some (c.2.1.push y++a.extract c.2.2.1++b.extract (c.2.2.2.1+1)),c.2.1.push y,c.2.2.1,c.2.2.2.1+1,0,c.2.2.2.2.2+1))
   else if c.2.2.2.2.2+1 >= mg then pure (.done (none,c.2.1.push y,c.2.2.1,c.2.2.2.1+1,0,c.2.2.2.2.2+1))
   else pure (.yield (none,c.2.1.push y,c.2.2.1,c.2.2.2.1+1,0,c.2.2.2.2.2+1))
  else do
   let x <-elem' a c.2.2.1
   if (c.2.2.1+1+1 == a.size)=true then pure (.done (some (c.2.1.push x++b.extract c.2.2.2.1++a.extract (c.2.2.1+1)),c.2.1.push x,c.2.2.1+1,c.2.2.2.1,c.2.2.2.2.1+1,0))
   else if c.2.2.2.2.1+1 >= mg then pure (.done (none,c.2.1.push x,c.2.2.1+1,c.2.2.2.1,c.2.2.2.2.1+1,0))
   else pure (.yield (none,c.2.1.push x,c.2.2.1+1,c.2.2.2.1,c.2.2.2.2.1+1,0))
 | x=>pure (.done (some (c.2.1++a.extract c.2.2.1++b.extract c.2.2.2.1),c.2.1,c.2.2.1,c.2.2.2.1,c.2.2.2.2.1,c.2.2.2.2.2))
abbrev LS0:=Option (Array av)×Array av×Nat×Nat×Nat
def p0 (c:LS0):StateT de Sem (ForInStep LS0):=do
 let d <-forIn [:a.size+b.size] ((none,c.2.1,c.2.2.1,c.2.2.2.1,0,0):LS1) λ x d=>p1 a b c.2.2.2.2 d
 match d.1 with
 | some r=>pure (.done (some r,d.2.1,d.2.2.1,d.2.2.2.1,c.2.2.2.2))
 | none=>do
  liftM (rule "list.sort.gallop")
  let f <-forIn [:a.size+b.size] ((none,d.2.1,d.2.2.1,d.2.2.2.1,c.2.2.2.2+1,d.2.2.2.2.1,d.2.2.2.2.2):LS) λ x f =>
   if f.2.2.2.2.1>1 then pA a b f.2.1 f.2.2.1 f.2.2.2.1 (f.2.2.2.2.1-1) f.2.2.2.2.2.1 f.2.2.2.2.2.2 else pA a b f.2.1 f.2.2.1 f.2.2.2.1 f.2.2.2.2.1 f.2.2.2.2.2.1 f.2.2.2.2.2.2
  match f.1 with
  | some r=>pure (.done (some r,f.2.1,f.2.2.1,f.2.2.2.1,f.2.2.2.2.1))
  | none=>do
   jO (f.2.2.2.2.1+1)
   pure (.yield (none,f.2.1,f.2.2.1,f.2.2.2.1,f.2.2.2.2.1+1))
theorem mergeLo'_parts:fU a b=(do
  liftM (rule "list.sort.merge-lo")
  let y <-elem' b 0
  if (1 == b.size)=true then pure (#[y]++a.extract 0++b.extract 1)
  else if (0+1 == a.size)=true then pure (#[y]++b.extract 1++a.extract 0)
  else do
   let st <-get
   let c <-forIn [:a.size+b.size] ((none,#[y],0,1,gallopOf st):LS0) λ x c=>p0 a b c
   match c.1 with
   | some r=>pure r
   | none=>unsupported "internal:list.sort.merge-bound"):=by
 unfold fU
 walk_at "sort_open mergeLo"
 dsimp only;refine congrArg _ (funext λ _=>?_);refine congrArg _ (funext λ y=>?_);refine congrArg _ ?_;refine congrArg _ ?_;refine congrArg _ (funext λ st=>?_);refine congr (congrArg _ (congrArg _ (funext λ x=>funext λ c=>?_))) (funext λ c=>by cases c.1<;>rfl);unfold p0;refine congr (congrArg _ (congrArg _ (funext λ x=>funext λ d=>?_))) (funext λ d=>?_)
 ·unfold p1
  refine congrArg _ (funext λ _=>?_);refine congrArg _ (funext λ _=>?_);refine congrArg _ (funext λ r=>?_);cases r<;>rfl
 ·cases d.1 with
  | some r=>rfl
  | none =>
   dsimp only;refine congrArg _ (funext λ _=>?_);refine congr (congrArg _ (congrArg _ (funext λ x=>funext λ f=>?_))) (funext λ f=>by cases f.1<;>rfl);have tail:∀ (out:Array av) (ia ib g k ob:Nat),True:=λ _ _ _ _ _ _=>trivial;refine ite_congr rfl (λ _=>?_) (λ _=>?_)
   all_goals
    unfold pA;refine congrArg _ (funext λ _=>?_);refine congrArg _ (funext λ y=>?_);refine congrArg _ (funext λ r=>?_)
    cases r with
    | none=>rfl
    | some k =>
     dsimp only;refine ite_congr rfl (λ _=>ite_congr rfl (λ _=>rfl) (λ _=>ite_congr rfl (λ _=>rfl) (λ _=>?_))) (λ _=>?_)
     all_goals
      unfold pB;refine congrArg _ (funext λ y=>?_);refine ite_congr rfl (λ _=>rfl) (λ _=>?_);refine congrArg _ (funext λ x=>?_);refine congrArg _ (funext λ r=>?_);cases r<;>rfl
end
end
end Srt
namespace Srt
set_option autoImplicit false
open PySem PyProof.Rows
section
variable {α:Type}
theorem yZ (a:Array α) (i:Nat):(a.extract i).toList=a.toList.drop i:=by
 rw [qc,jv];exact fb (by simp)
theorem jM (a:Array α) (i k:Nat):(a.extract i (i+k)).toList=(a.toList.drop i).take k:=by
 rw [qc,jv]
 congr 1
 omega
theorem jP {a:Array α} {i:Nat} (h:i<a.size):a.toList.drop i=[a[i]]++a.toList.drop (i+1):=by
 rw [As (by simpa using h)]
 rfl
theorem kAX (l:List α) (i k:Nat):l.drop i=(l.drop i).take k++l.drop (i+k):=by
 conv=>lhs;rw [<-iT k (l.drop i)]
 rw [Af]
end
section
variable {M:qt} {A:dj} {E:af->aj->Prop} {s:aj} {lb:av->av->Bool} {D:av->Prop} {kd:iw} {a b:Array av}
structure Hy (M:qt) (A:dj) (E:af->aj->Prop) (s:aj) (lb:av->av->Bool) (D:av->Prop) (kd:iw) (a b:Array av):Prop where
 W:Wk lb
 L:wQ M A E s lb D kd
 da:∀ x∈a.toList,D x
 db:∀ x∈b.toList,D x
 sa:qT lb a.toList
 sb:qT lb b.toList
 last:∀ (h:0<a.size),∀ y∈b.toList,le lb y a[a.size-1]
def MI (lb:av->av->Bool) (a b:Array av) (out:Array av) (ia ib:Nat):Prop :=
 Mg lb a.toList b.toList out.toList (a.toList.drop ia) (b.toList.drop ib)/\ia+1<a.size/\ib<b.size/\out.size=ia+ib
def Yd (lb:av->av->Bool) (a b:Array av) (n:Nat) {γ:Type} (c:Option (Array av)×Array av×Nat×Nat×γ):Prop:=c.1=none/\MI lb a b c.2.1 c.2.2.1 c.2.2.2.1/\n<=c.2.1.size
def Dn (lb:av->av->Bool) (a b:Array av) (n:Nat) {γ:Type} (c:Option (Array av)×Array av×Nat×Nat×γ):Prop:=(∃ r,c.1=some r/\Res lb a.toList b.toList r.toList)\/Yd lb a b n c
def RR (lb:av->av->Bool) (a b:Array av) (n:Nat) {γ:Type}:ForInStep (Option (Array av)×Array av×Nat×Nat×γ)->Prop
 | .done c=>Dn lb a b n c
 | .yield c=>Yd lb a b n c
theorem yL (W:Wk lb) {a:Array av} (h:qT lb a.toList) {i j:Nat} (hij:i<=j) (hj:j<a.size):le lb (a[i]'(by omega)) a[j]:=by
 by_cases e:i=j
 ·subst e;exact W.refl _
 ·have:=oo.mp h i j (by simp;omega) (by simp;omega) (by omega)
  simpa using this
theorem xI {a:Array av} {i:Nat} {x:av} (h:x∈a.toList.drop i):∃ j,∃ hj:j<a.size,i<=j/\x=a[j]:=by
 obtain ⟨k,hk,e⟩:=iR.mp h;rw [fh] at hk;refine ⟨i+k,by simp at hk;omega,by omega,?_⟩;rw [<-e,BB];simp
theorem kCV {out:Array av} {ia ib:Nat} (h:Mg lb a.toList b.toList out.toList (a.toList.drop ia) (b.toList.drop ib)) (e:ib=b.size):Res lb a.toList b.toList (out++a.extract ia++b.extract ib).toList:=by
 rw [eN,eN,yZ,yZ];have z:b.toList.drop ib=[]:=ig (by simp;omega);rw [z] at h ⊢;exact h.endA
theorem kQU {out:Array av} {ia ib:Nat} (h:Mg lb a.toList b.toList out.toList (a.toList.drop ia) (b.toList.drop ib)) (e:ia=a.size):Res lb a.toList b.toList (out++a.extract ia++b.extract ib).toList:=by
 rw [eN,eN,yZ,yZ];have z:a.toList.drop ia=[]:=ig (by simp;omega);rw [z] at h ⊢;exact h.endB
theorem aJ (H:Hy M A E s lb D kd a b) {out:Array av} {ia ib:Nat} (h:Mg lb a.toList b.toList out.toList (a.toList.drop ia) (b.toList.drop ib)) (e:ia+1=a.size):Res lb a.toList b.toList (out++b.extract ib++a.extract ia).toList:=by
 rw [eN,eN,yZ,yZ]
 have z:a.toList.drop ia=[a[a.size-1]'(by omega)]:=by
  rw [jP (show ia<a.size by omega),ig (by simp;omega)];simp only [jq]
  congr 2
  omega
 rw [z] at h ⊢;exact h.last λ y hy=>H.last (by omega) y (List.mem_of_mem_drop hy)
theorem tT (H:Hy M A E s lb D kd a b) {out:Array av} {ia ib:Nat} (ha:ia<a.size) (hb:ib<b.size) (h:Mg lb a.toList b.toList out.toList (a.toList.drop ia) (b.toList.drop ib)) (c:le lb b[ib] a[ia]):Mg lb a.toList b.toList (out.push b[ib]).toList (a.toList.drop ia) (b.toList.drop (ib+1)):=by
 rw [jP hb] at h;rw [qf];refine h.moveB λ x hx y hy=>?_;have:x=b[ib]:=by simpa using hx
 subst this;obtain ⟨j,hj,ij,rfl⟩:=xI hy;exact H.W.trans c (yL H.W H.sa ij hj)
theorem kFW (H:Hy M A E s lb D kd a b) {out:Array av} {ia ib:Nat} (ha:ia<a.size) (h:Mg lb a.toList b.toList out.toList (a.toList.drop ia) (b.toList.drop ib)) (c:∀ y∈b.toList.drop ib,le lb a[ia] y):Mg lb a.toList b.toList (out.push a[ia]).toList (a.toList.drop (ia+1)) (b.toList.drop ib):=by
 rw [jP ha] at h;rw [qf];refine h.moveA λ x hx y hy=>?_;have:x=a[ia]:=by simpa using hx
 subst this;exact c y hy
theorem kRB (H:Hy M A E s lb D kd a b) {ib:Nat} {x:av} (hb:ib<b.size) (c:le lb x b[ib]):∀ y∈b.toList.drop ib,le lb x y:=λ y hy=>by
 obtain ⟨j,hj,ij,rfl⟩:=xI hy;exact H.W.trans c (yL H.W H.sb ij hj)
theorem kML (H:Hy M A E s lb D kd a b) {st:de} (hk:kindOf st=kd) {out:Array av} {ia ib u v mg:Nat} (h:MI lb a b out ia ib) {Q:ForInStep LS1->de->Prop}
  (q:∀ r,RR lb a b (out.size+1) r->Q r st):wpS M A E s (p1 a b mg (none,out,ia,ib,u,v)) Q st:=by
 obtain ⟨m,h1,h2,h3⟩:=h;have ha:ia<a.size:=by omega
 unfold p1;dsimp only;refine bh (qD (getElem?_pos b ib h2) ?_);refine bh (qD (getElem?_pos a ia ha) ?_);refine bh (H.L _ _ (H.db _ (by simp)) (H.da _ (by simp)) st _ hk ?_)
 cases e:lb b[ib] a[ia]
 case true =>
  simp only [if_true];refine bh (qD (getElem?_pos b ib h2) ?_);have m':=tT H ha h2 m (H.W.of_lt e);by_cases c:ib+1=b.size
  ·rw [if_pos (by simpa using c)]
   exact cn (q _ (.inl ⟨_,rfl,kCV m' c⟩))
  ·rw [if_neg (by simpa using c)]
   have y:Yd lb a b (out.size+1) (none,out.push b[ib],ia,ib+1,(0,v+1)):=⟨rfl,⟨m',h1,by show ib+1<b.size;omega,by show (out.push b[ib]).size=ia+(ib+1);rw [fw];omega⟩,by show out.size+1<=(out.push b[ib]).size;rw [fw];omega⟩
   split
   ·exact cn (q _ (.inr y))
   ·exact cn (q _ y)
 case false =>
  simp only [bj,if_false];refine bh (qD (getElem?_pos a ia ha) ?_);have m':=kFW H ha m (kRB H h2 e);by_cases c:ia+1+1=a.size
  ·rw [if_pos (by simpa using c)]
   exact cn (q _ (.inl ⟨_,rfl,aJ H m' c⟩))
  ·rw [if_neg (by simpa using c)]
   have y:Yd lb a b (out.size+1) (none,out.push a[ia],ia+1,ib,(u+1,0)):=⟨rfl,⟨m',by show ia+1+1<a.size;omega,h2,by show (out.push a[ia]).size=ia+1+ib;rw [fw];omega⟩,by show out.size+1<=(out.push a[ia]).size;rw [fw];omega⟩
   split
   ·exact cn (q _ (.inr y))
   ·exact cn (q _ y)
end
end Srt
namespace Srt
set_option autoImplicit false
open PySem PyProof.Rows
section
variable {M:qt} {A:dj} {E:af->aj->Prop} {s:aj} {lb:av->av->Bool} {D:av->Prop} {kd:iw} {a b:Array av}
theorem yG {a:Array av} {i k:Nat} {x:av} (h:x∈(a.toList.drop i).take k):∃ j,∃ hj:i+j<a.size,j<k/\x=a[i+j]:=by
 obtain ⟨j,hj,e⟩:=iR.mp h;rw [gw,fh] at hj;refine ⟨j,by simp at hj;omega,by omega,?_⟩;rw [<-e,DY,BB];simp
theorem kKW {out:Array av} {ia ib k:Nat} (h:Mg lb a.toList b.toList out.toList (a.toList.drop ia) (b.toList.drop ib)) (c:∀ x∈(b.toList.drop ib).take k,∀ y∈a.toList.drop ia,le lb x y):Mg lb a.toList b.toList (out++b.extract ib (ib+k)).toList (a.toList.drop ia) (b.toList.drop (ib+k)):=by
 rw [eN,jM];rw [kAX b.toList ib k] at h;exact h.moveB c
theorem kKX {out:Array av} {ia ib k:Nat} (h:Mg lb a.toList b.toList out.toList (a.toList.drop ia) (b.toList.drop ib)) (c:∀ x∈(a.toList.drop ia).take k,∀ y∈b.toList.drop ib,le lb x y):Mg lb a.toList b.toList (out++a.extract ia (ia+k)).toList (a.toList.drop (ia+k)) (b.toList.drop ib):=by
 rw [eN,jM];rw [kAX a.toList ia k] at h;exact h.moveA c
theorem kFE (H:Hy M A E s lb D kd a b) {st:de} {out:Array av} {ia ib g k k1 n:Nat} (h:MI lb a b out ia ib) (hn:n<=out.size+1) (c:∀ (hh:ia<a.size),∀ y∈b.toList.drop ib,le lb a[ia] y) {Q:ForInStep LS->de->Prop}
  (q:∀ r,RR lb a b n r->Q r st):wpS M A E s (pC a b out ia ib g k k1) Q st:=by
 obtain ⟨m,h1,h2,h3⟩:=h;have ha:ia<a.size:=by omega
 unfold pC;refine bh (qD (getElem?_pos a ia ha) ?_);have m':=kFW H ha m (c ha);by_cases e:ia+1+1=a.size
 ·rw [if_pos (by simpa using e)]
  exact cn (q _ (.inl ⟨_,rfl,aJ H m' e⟩))
 ·rw [if_neg (by simpa using e)]
  have y:Yd lb a b n (none,out.push a[ia],ia+1,ib,(g,k,k1)):=⟨rfl,⟨m',by show ia+1+1<a.size;omega,h2,by show (out.push a[ia]).size=ia+1+ib;rw [fw];omega⟩,by show n<=(out.push a[ia]).size;rw [fw];omega⟩
  split
  ·exact cn (q _ (.inr y))
  ·exact cn (q _ y)
theorem kFF (H:Hy M A E s lb D kd a b) {st:de} (hk:kindOf st=kd) {out:Array av} {ia ib g k ob n:Nat} (h:MI lb a b out ia ib) (hn:n<=out.size+1) (c:∀ (ha:ia<a.size) (hb:ib<b.size),le lb b[ib] a[ia]) {Q:ForInStep LS->de->Prop}
  (q:∀ r,RR lb a b n r->Q r st):wpS M A E s (pB a b out ia ib g k ob) Q st:=by
 obtain ⟨m,h1,h2,h3⟩:=h;have ha:ia<a.size:=by omega
 unfold pB;refine bh (qD (getElem?_pos b ib h2) ?_);have m':=tT H ha h2 m (c ha h2);have sz:(out.push b[ib]).size=ia+(ib+1):=by rw [fw];omega
 by_cases e:ib+1=b.size
 ·rw [if_pos (by simpa using e)]
  exact cn (q _ (.inl ⟨_,rfl,kCV m' e⟩))
 ·rw [if_neg (by simpa using e)]
  refine bh (qD (getElem?_pos a ia ha) ?_);refine bh (wR H.W H.L hk (H.da _ (by simp)) H.db (by omega) (λ i j hi hj=>yL H.W H.sb (by omega) (by omega)) (by omega) λ k1 kn g1 g2=>?_);simp only [if_true] at g1 g2
  have rest:∀ y∈b.toList.drop (ib+1+k1),le lb a[ia] y:=λ y hy=>by
   obtain ⟨j,hj,ij,rfl⟩:=xI hy;have:=g2 (j-(ib+1)) (by omega) (by omega);simp only [show ib+1+(j-(ib+1))=j by omega] at this;exact this
  dsimp only;by_cases k0:k1>0
  ·rw [if_pos k0]
   have m2:=kKW (k:=k1) m' λ x hx y hy=>by
    obtain ⟨j,hj,jk,rfl⟩:=yG hx;obtain ⟨i,hi,ii,rfl⟩:=xI hy;exact H.W.trans (H.W.of_lt (g1 j jk (by omega))) (yL H.W H.sa ii hi)
   have sz2:(out.push b[ib]++b.extract (ib+1) (ib+1+k1)).size=ia+(ib+1+k1):=by
    rw [uk,sz,iG];omega
   by_cases e2:ib+1+k1=b.size
   ·rw [if_pos (by simpa using e2)]
    exact cn (q _ (.inl ⟨_,rfl,kCV m2 e2⟩))
   ·rw [if_neg (by simpa using e2)]
    exact kFE H ⟨m2,h1,by omega,sz2⟩ (by omega) (λ _=>rest) q
  ·rw [if_neg k0]
   have:k1=0:=by omega
   subst this;exact kFE H ⟨m',h1,by omega,sz⟩ (by omega) (λ _=>rest) q
theorem kMK (H:Hy M A E s lb D kd a b) {st:de} (hk:kindOf st=kd) {out:Array av} {ia ib g oa ob n:Nat} (h:MI lb a b out ia ib) (hn:n<=out.size+1) {Q:ForInStep LS->de->Prop}
  (q:∀ r,RR lb a b n r->Q r (yM st g)):wpS M A E s (pA a b out ia ib g oa ob) Q st:=by
 obtain ⟨m,h1,h2,h3⟩:=id h;have ha:ia<a.size:=by omega
 unfold pA;rw [setMinGallop'_eq];refine bh (jf ?_);refine bh (qD (getElem?_pos b ib h2) ?_);refine bh (wR (st:=yM st g) H.W H.L hk (H.db _ (by simp)) H.da (by omega) (λ i j hi hj=>yL H.W H.sa (by omega) (by omega)) (by omega) λ k kn g1 g2=>?_);simp only [bj,if_false] at g1 g2;dsimp only;by_cases k0:k>0
 ·rw [if_pos k0]
  have m2:=kKX (k:=k) m λ x hx y hy=>by
   obtain ⟨j,hj,jk,rfl⟩:=yG hx;obtain ⟨i,hi,ii,rfl⟩:=xI hy;exact H.W.trans (g1 j jk (by omega)) (yL H.W H.sb ii hi)
  have sz2:(out++a.extract ia (ia+k)).size=ia+k+ib:=by
   rw [uk,iG];omega
  by_cases e1:ia+k+1=a.size
  ·rw [if_pos (by simpa using e1)]
   exact cn (q _ (.inl ⟨_,rfl,aJ H m2 e1⟩))
  ·rw [if_neg (by simpa using e1)]
   by_cases e2:ia+k=a.size
   ·rw [if_pos (by simpa using e2)]
    exact cn (q _ (.inl ⟨_,rfl,kQU m2 e2⟩))
   ·rw [if_neg (by simpa using e2)]
    exact kFF (st:=yM st g) H hk ⟨m2,by omega,h2,sz2⟩ (by omega) (λ _ _=>H.W.of_lt (g2 k (by omega) (by omega))) q
 ·rw [if_neg k0]
  have:k=0:=by omega
  subst this;exact kFF (st:=yM st g) H hk h hn (λ _ _=>H.W.of_lt (g2 0 (by omega) (by omega))) q
end
end Srt
namespace Srt
set_option autoImplicit false
open PySem PyProof.Rows
section
variable {M:qt} {A:dj} {E:af->aj->Prop} {s:aj} {lb:av->av->Bool} {D:av->Prop} {kd:iw} {a b:Array av}
theorem Yd.mono {n n':Nat} {γ:Type} {c:Option (Array av)×Array av×Nat×Nat×γ} (h:Yd lb a b n c) (k:n'<=n):Yd lb a b n' c:=⟨h.1,h.2.1,gk k h.2.2⟩
theorem Dn.mono {n n':Nat} {γ:Type} {c:Option (Array av)×Array av×Nat×Nat×γ} (h:Dn lb a b n c) (k:n'<=n):Dn lb a b n' c:=h.imp id λ z=>z.mono k
theorem kMM (H:Hy M A E s lb D kd a b) {st:de} (hk:kindOf st=kd) {out:Array av} {ia ib g:Nat} (h:MI lb a b out ia ib) {Q:ForInStep LS0->de->Prop}
  (qd:∀ r c st',Sm st st'->Res lb a.toList b.toList r.toList->Q (.done (some r,c)) st') (qy:∀ c st',Sm st st'->Yd lb a b (out.size+1) c->Q (.yield c) st'):wpS M A E s (p0 a b (none,out,ia,ib,g)) Q st:=by
 unfold p0;dsimp only;have tot:0<a.size+b.size:=by have:=h.2.2.1;omega
 refine bh (qa (iC (I:=λ x d st'=>st'=st/\Yd lb a b (out.size+x) d) (Q:=λ d st'=>st'=st/\Dn lb a b (out.size+1) d) ?step ?fin ⟨rfl,rfl,h,ba _⟩) ?post)
 case fin =>
  rintro d st' ⟨rfl,y⟩;exact ⟨rfl,.inr (y.mono (by omega))⟩
 case step =>
  rintro x ⟨r,o,i,j,u,v⟩ st' _ _ ⟨rfl,e,mi,le⟩
  cases (show r=none from e)
  have le:out.size+x<=o.size:=le;refine kML H hk mi λ r hr=>?_
  cases r with
  | done c=>exact ⟨rfl,Dn.mono hr (by omega)⟩
  | yield c=>exact ⟨rfl,Yd.mono hr (by omega)⟩
 case post =>
  rintro ⟨r,o,i,j,u,v⟩ st' ⟨rfl,hd⟩
  cases r with
  | some r =>
   dsimp only;rcases hd with ⟨r',e,res⟩ | ⟨e,_⟩
   ·cases e
    exact cn (qd _ _ _ (Sm.refl _) res)
   ·cases e
  | none =>
   dsimp only
   have y:Yd lb a b (out.size+1) (none,o,i,j,(u,v)):=by
    rcases hd with ⟨r',e,res⟩ | y
    ·cases e
    ·exact y
   refine bh (yP ?_);refine bh (qa (iC (I:=λ x f st2=>Sm st' st2/\Yd lb a b (out.size+1) f) (Q:=λ f st2=>Sm st' st2/\Dn lb a b (out.size+1) f) ?step2 ?fin2 ⟨Sm.refl _,y⟩) ?post2)
   case fin2 =>
    rintro f st2 ⟨sm,y⟩;exact ⟨sm,.inr y⟩
   case step2 =>
    rintro x ⟨r,o,i,j,g2,u,v⟩ st2 _ _ ⟨sm,e,mi,le⟩
    cases (show r=none from e)
    have le:out.size+1<=o.size:=le;dsimp only
    split
    all_goals
     refine kMK (n:=out.size+1) H (sm.1.trans hk) mi (by omega) λ r hr=>?_
     cases r with
     | done c=>exact ⟨sm.gal _,hr⟩
     | yield c=>exact ⟨sm.gal _,hr⟩
   case post2 =>
    rintro ⟨r,o,i,j,g2,u,v⟩ st2 ⟨sm,hd⟩
    cases r with
    | some r =>
     dsimp only;rcases hd with ⟨r',e,res⟩ | ⟨e,_⟩
     ·cases e
      exact cn (qd _ _ _ sm res)
     ·cases e
    | none =>
     dsimp only;rcases hd with ⟨r',e,res⟩ | y
     ·cases e
     ·rw [setMinGallop'_eq]
      exact bh (jf (cn (qy _ _ (sm.gal _) y)))
theorem pY (H:Hy M A E s lb D kd a b) {st:de} (hk:kindOf st=kd) (a0:0<a.size) (b0:0<b.size) (first:le lb b[0] a[0]) {Q:Array av->de->Prop}
  (q:∀ r st',Sm st st'->Res lb a.toList b.toList r.toList->Q r st'):wpS M A E s (fU a b) Q st:=by
 rw [mergeLo'_parts];refine bh (yP ?_);refine bh (qD (getElem?_pos b 0 b0) ?_);have m0:Mg lb a.toList b.toList (#[]:Array av).toList (a.toList.drop 0) (b.toList.drop 0):=⟨H.sa,H.sb,xp _⟩;have m1:Mg lb a.toList b.toList (#[b[0]]:Array av).toList (a.toList.drop 0) (b.toList.drop 1):=tT H a0 b0 m0 first;by_cases e1:1=b.size
 ·rw [if_pos (by simpa using e1)]
  exact cn (q _ _ (Sm.refl _) (kCV m1 e1))
 rw [if_neg (by simpa using e1)];by_cases e2:0+1=a.size
 ·rw [if_pos (by simpa using e2)]
  exact cn (q _ _ (Sm.refl _) (aJ H m1 e2))
 rw [if_neg (by simpa using e2)];refine bh (xq ?_);refine bh (qa (iC (I:=λ x c st'=>Sm st st'/\Yd lb a b (1+x) c) (Q:=λ c st'=>Sm st st'/\∃ r,c.1=some r/\Res lb a.toList b.toList r.toList) ?step ?fin ⟨Sm.refl _,rfl,⟨m1,by show 0+1<a.size;omega,by show 1<b.size;omega,rfl⟩,ba _⟩) ?post)
 case post =>
  rintro ⟨r,c⟩ st' ⟨sm,r',e,res⟩;cases e
  exact cn (q _ _ sm res)
 case fin =>
  rintro ⟨r,o,i,j,g⟩ st' ⟨sm,e,⟨_,h1,h2,h3⟩,le⟩;have h3:o.size=i+j:=h3;have le:1+max 0 (a.size+b.size)<=o.size:=le;have h1:i+1<a.size:=h1;have h2:j<b.size:=h2;omega
 case step =>
  rintro x ⟨r,o,i,j,g⟩ st' _ _ ⟨sm,e,mi,le⟩
  cases (show r=none from e)
  have le:1+x<=o.size:=le;exact kMM H (sm.1.trans hk) mi (λ r c st2 sm2 res=>⟨⟨sm2.1.trans sm.1,sm2.2.1.trans sm.2.1,sm2.2.2.1.trans sm.2.2.1,sm2.2.2.2.trans sm.2.2.2⟩,r,rfl,res⟩) λ c st2 sm2 y=>⟨⟨sm2.1.trans sm.1,sm2.2.1.trans sm.2.1,sm2.2.2.1.trans sm.2.2.1,sm2.2.2.2.trans sm.2.2.2⟩,y.mono (by omega)⟩
end
end Srt
local macro_rules | `(tactic| walk_at "sort_open mergeHi")=>`(tactic| delta $(Lean.mkIdent (Lean.mkPrivateNameCore `PySem.Builtin.List.W1All `PySem.Builtin.mergeHi)):ident)
namespace Srt
set_option autoImplicit false
open PySem PyProof.Rows
def fV:Array av->Array av->StateT de Sem (Array av):=sortPriv% PySem.Builtin.mergeHi
abbrev KS:=Option (Array av)×Nat×Nat×Array av×Nat×Nat×Nat
abbrev KS1:=Option (Array av)×Nat×Nat×Array av×Nat×Nat
abbrev KS0:=Option (Array av)×Nat×Nat×Array av×Nat
section
variable (a b:Array av)
def hDn (na nb:Nat) (out:Array av):Array av:=a.extract 0 na++b.extract 0 nb++out.reverse
def hFb (na nb:Nat) (out:Array av):Array av:=b.extract 0 nb++a.extract 0 na++out.reverse
def hC (na nb:Nat) (out:Array av) (g k k1:Nat):StateT de Sem (ForInStep KS):=do
 let x <-elem' a (na-1)
 if (na-1 == 0)=true then pure (.done (some (hDn a b (na-1) nb (out.push x)),na-1,nb,out.push x,g,k,k1))
 else if (decide (k<7) && decide (k1<7))=true then pure (.done (none,na-1,nb,out.push x,g,k,k1)) else pure (.yield (none,na-1,nb,out.push x,g,k,k1))
def hB (na nb:Nat) (out:Array av) (g k ob:Nat):StateT de Sem (ForInStep KS):=do
 let y <-elem' b (nb-1)
 if (nb-1 == 1)=true then pure (.done (some (hFb a b na (nb-1) (out.push y)),na,nb-1,out.push y,g,k,ob))
 else do
  let x <-elem' a (na-1)
  let r <-zG true x b 0 (nb-1) (nb-1-1)
  match r with
  | some p =>
   if nb-1-p>0 then
    if (p == 1)=true then pure (.done (some (hFb a b na p (out.push y++(b.extract p (nb-1)).reverse)),na,p,out.push y++(b.extract p (nb-1)).reverse,g,k,nb-1-p))
    else if (p == 0)=true then pure (.done (some (hDn a b na p (out.push y++(b.extract p (nb-1)).reverse)),na,p,out.push y++(b.extract p (nb-1)).reverse,g,k,nb-1-p))
    else hC a b na p (out.push y++(b.extract p (nb-1)).reverse) g k (nb-1-p)
   else hC a b na (nb-1) (out.push y) g k (nb-1-p)
  | x=>pure (.done (some (hDn a b na (nb-1) (out.push y)),na,nb-1,out.push y,g,k,ob))
def hA (na nb:Nat) (out:Array av) (g oa ob:Nat):StateT de Sem (ForInStep KS):=do
 jO g
 let y <-elem' b (nb-1)
 let r <-zG false y a 0 na (na-1)
 match r with
 | some p =>
  if na-p>0 then
   if (p == 0)=true then pure (.done (some (hDn a b p nb (out++(a.extract p na).reverse)),p,nb,out++(a.extract p na).reverse,g,na-p,ob))
   else hB a b p nb (out++(a.extract p na).reverse) g (na-p) ob
  else hB a b na nb out g (na-p) ob
 | x=>pure (.done (some (hDn a b na nb out),na,nb,out,g,oa,ob))
def h1 (mg:Nat) (c:KS1):StateT de Sem (ForInStep KS1):=do
 let y <-elem' b (c.2.2.1-1)
 let x <-elem' a (c.2.1-1)
 let r <-lt' y x
 match r with
 | some aw =>
  if aw=true then do
   let x <-elem' a (c.2.1-1)
   if (c.2.1-1 == 0)=true then pure (.done (some (hDn a b (c.2.1-1) c.2.2.1 (c.2.2.2.1.push x)),c.2.1-1,c.2.2.1,c.2.2.2.1.push x,c.2.2.2.2.1+1,0))
   else if c.2.2.2.2.1+1 >= mg then pure (.done (none,c.2.1-1,c.2.2.1,c.2.2.2.1.push x,c.2.2.2.2.1+1,0))
   else pure (.yield (none,c.2.1-1,c.2.2.1,c.2.2.2.1.push x,c.2.2.2.2.1+1,0))
  else do
   let y <-elem' b (c.2.2.1-1)
   if (c.2.2.1-1 == 1)=true then pure (.done (some (hFb a b c.2.1 (c.2.2.1-1) (c.2.2.2.1.push y)),c.2.1,c.2.2.1-1,c.2.2.2.1.push y,0,c.2.2.2.2.2+1))
   else if c.2.2.2.2.2+1 >= mg then pure (.done (none,c.2.1,c.2.2.1-1,c.2.2.2.1.push y,0,c.2.2.2.2.2+1))
   else pure (.yield (none,c.2.1,c.2.2.1-1,c.2.2.2.1.push y,0,c.2.2.2.2.2+1))
 | x=>pure (.done (some (hDn a b c.2.1 c.2.2.1 c.2.2.2.1),c.2.1,c.2.2.1,c.2.2.2.1,c.2.2.2.2.1,c.2.2.2.2.2))
def h0 (c:KS0):StateT de Sem (ForInStep KS0):=do
 let d <-forIn [:a.size+b.size] ((none,c.2.1,c.2.2.1,c.2.2.2.1,0,0):KS1) λ x d=>h1 a b c.2.2.2.2 d
 match d.1 with
 | some r=>pure (.done (some r,d.2.1,d.2.2.1,d.2.2.2.1,c.2.2.2.2))
 | none=>do
  liftM (rule "list.sort.gallop")
  let f <-forIn [:a.size+b.size] ((none,d.2.1,d.2.2.1,d.2.2.2.1,c.2.2.2.2+1,d.2.2.2.2.1,d.2.2.2.2.2):KS) λ x f =>
   if f.2.2.2.2.1>1 then hA a b f.2.1 f.2.2.1 f.2.2.2.1 (f.2.2.2.2.1-1) f.2.2.2.2.2.1 f.2.2.2.2.2.2 else hA a b f.2.1 f.2.2.1 f.2.2.2.1 f.2.2.2.2.1 f.2.2.2.2.2.1 f.2.2.2.2.2.2
  match f.1 with
  | some r=>pure (.done (some r,f.2.1,f.2.2.1,f.2.2.2.1,f.2.2.2.2.1))
  | none=>do
   jO (f.2.2.2.2.1+1)
   pure (.yield (none,f.2.1,f.2.2.1,f.2.2.2.1,f.2.2.2.2.1+1))
theorem mergeHi'_parts:fV a b=(do
  liftM (rule "list.sort.merge-hi")
  let y <-elem' a (a.size-1)
  if (a.size-1 == 0)=true then pure (hDn a b (a.size-1) b.size #[y])
  else if (b.size == 1)=true then pure (hFb a b (a.size-1) b.size #[y])
  else do
   let st <-get
   let c <-forIn [:a.size+b.size] ((none,a.size-1,b.size,#[y],gallopOf st):KS0) λ x c=>h0 a b c
   match c.1 with
   | some r=>pure r
   | none=>unsupported "internal:list.sort.merge-bound"):=by
 unfold fV
 walk_at "sort_open mergeHi"
 dsimp only;refine congrArg _ (funext λ _=>?_);refine congrArg _ (funext λ y=>?_);refine ite_congr rfl (λ _=>rfl) (λ _=>ite_congr rfl (λ _=>rfl) (λ _=>?_));refine congrArg _ (funext λ st=>?_);refine congr (congrArg _ (congrArg _ (funext λ x=>funext λ c=>?_))) (funext λ c=>by cases c.1<;>rfl);unfold h0;refine congr (congrArg _ (congrArg _ (funext λ x=>funext λ d=>?_))) (funext λ d=>?_)
 ·unfold h1
  refine congrArg _ (funext λ _=>?_);refine congrArg _ (funext λ _=>?_);refine congrArg _ (funext λ r=>?_);cases r<;>rfl
 ·cases d.1 with
  | some r=>rfl
  | none =>
   dsimp only;refine congrArg _ (funext λ _=>?_);refine congr (congrArg _ (congrArg _ (funext λ x=>funext λ f=>?_))) (funext λ f=>by cases f.1<;>rfl);refine ite_congr rfl (λ _=>?_) (λ _=>?_)
   all_goals
    unfold hA;refine congrArg _ (funext λ _=>?_);refine congrArg _ (funext λ y=>?_);refine congrArg _ (funext λ r=>?_)
    cases r with
    | none=>rfl
    | some k =>
     dsimp only;refine ite_congr rfl (λ _=>ite_congr rfl (λ _=>rfl) (λ _=>?_)) (λ _=>?_)
     all_goals
      unfold hB;refine congrArg _ (funext λ y=>?_);refine ite_congr rfl (λ _=>rfl) (λ _=>?_);refine congrArg _ (funext λ x=>?_);refine congrArg _ (funext λ r=>?_);cases r<;>rfl
end
end Srt
namespace Srt
set_option autoImplicit false
open PySem PyProof.Rows
section
variable {α:Type} {lb:α->α->Bool}
structure Mh (lb:α->α->Bool) (A B:List α) (w ra rb:List α):Prop where
 sa:qT lb (ra++w)
 sb:qT lb (rb++w)
 pm:(ra++(rb++w)).Perm (A++B)
theorem Mh.moveA {A B w c ra rb:List α} (h:Mh lb A B w (ra++c) rb) (hc:∀ x∈rb,∀ y∈c,le lb x y):Mh lb A B (c++w) ra rb:=by
 refine ⟨by rw [<-eM];exact h.sa,?_,?_⟩
 ·have h1:=dc.mp h.sa
  have h2:=dc.mp h.sb;have h3:=dc.mp h1.1;refine dc.mpr ⟨h2.1,dc.mpr ⟨h3.2.1,h1.2.1,λ x hx y hy=>h1.2.2 x (eg _ hx) y hy⟩,λ x hx y hy=>?_⟩;rcases gf.mp hy with z | z
  ·exact hc x hx y z
  ·exact h2.2.2 x hx y z
 ·refine oy ?_ h.pm
  rw [eM];refine uf ra ?_;rw [<-eM,<-eM];exact tz w jh
theorem Mh.swap {A B w ra rb:List α} (h:Mh lb A B w ra rb):Mh lb B A w rb ra:=by
 refine ⟨h.sb,h.sa,?_⟩;refine oy ?_ (h.pm.trans jh);rw [<-eM,<-eM];exact tz w jh
theorem Mh.moveB {A B w c ra rb:List α} (h:Mh lb A B w ra (rb++c)) (hc:∀ x∈ra,∀ y∈c,le lb x y):Mh lb A B (c++w) ra rb:=(h.swap.moveA hc).swap
theorem dB {a:Array α} {n:Nat} (h0:0<n) (h:n<=a.size):a.toList.take n=a.toList.take (n-1)++[a[n-1]'(by omega)]:=by
 obtain ⟨m,rfl⟩ : ∃ m,n=m+1:=⟨n-1,by omega⟩;rw [List.take_succ_eq_append_getElem (by simp;omega)];simp
theorem aI (a:Array α) (n:Nat):(a.extract 0 n).toList=a.toList.take n:=by
 rw [qc,jv];simp
theorem tR (a:Array α) {p n:Nat} (h:p<=n):a.toList.take n=a.toList.take p++(a.extract p n).toList:=by
 rw [qc,jv,<-El]
 conv=>lhs;rw [<-iT p (a.toList.take n)]
 rw [Em,ju h]
end
section
variable {M:qt} {A:dj} {E:af->aj->Prop} {s:aj} {lb:av->av->Bool} {D:av->Prop} {kd:iw} {a b:Array av}
structure Hz (M:qt) (A:dj) (E:af->aj->Prop) (s:aj) (lb:av->av->Bool) (D:av->Prop) (kd:iw) (a b:Array av):Prop where
 W:Wk lb
 L:wQ M A E s lb D kd
 da:∀ x∈a.toList,D x
 db:∀ x∈b.toList,D x
 sa:qT lb a.toList
 sb:qT lb b.toList
 first:∀ (h:0<b.size),∀ y∈a.toList,le lb b[0] y
abbrev MM (lb:av->av->Bool) (a b:Array av) (na nb:Nat) (out:Array av):Prop:=Mh lb a.toList b.toList out.toList.reverse (a.toList.take na) (b.toList.take nb)
def MH (lb:av->av->Bool) (a b:Array av) (na nb:Nat) (out:Array av):Prop:=MM lb a b na nb out/\0<na/\na<=a.size/\1<nb/\nb<=b.size/\out.size+na+nb=a.size+b.size
def Zd (lb:av->av->Bool) (a b:Array av) (n:Nat) {γ:Type} (c:Option (Array av)×Nat×Nat×Array av×γ):Prop:=c.1=none/\MH lb a b c.2.1 c.2.2.1 c.2.2.2.1/\n<=c.2.2.2.1.size
def En (lb:av->av->Bool) (a b:Array av) (n:Nat) {γ:Type} (c:Option (Array av)×Nat×Nat×Array av×γ):Prop:=(∃ r,c.1=some r/\Res lb a.toList b.toList r.toList)\/Zd lb a b n c
def TT (lb:av->av->Bool) (a b:Array av) (n:Nat) {γ:Type}:ForInStep (Option (Array av)×Nat×Nat×Array av×γ)->Prop
 | .done c=>En lb a b n c
 | .yield c=>Zd lb a b n c
theorem Zd.mono {n n':Nat} {γ:Type} {c:Option (Array av)×Nat×Nat×Array av×γ} (h:Zd lb a b n c) (k:n'<=n):Zd lb a b n' c:=⟨h.1,h.2.1,gk k h.2.2⟩
theorem En.mono {n n':Nat} {γ:Type} {c:Option (Array av)×Nat×Nat×Array av×γ} (h:En lb a b n c) (k:n'<=n):En lb a b n' c:=h.imp id λ z=>z.mono k
theorem uU {a:Array av} {n:Nat} {x:av} (h:x∈a.toList.take n):∃ j,∃ hj:j<a.size,j<n/\x=a[j]:=by
 have:=yG (a:=a) (i:=0) (k:=n) (x:=x) (by simpa using h);obtain ⟨j,hj,jk,e⟩:=this;exact ⟨j,by omega,jk,by simpa using e⟩
theorem qS {a:Array av} {p n:Nat} {x:av} (h:x∈(a.extract p n).toList):∃ j,∃ hj:j<a.size,p<=j/\j<n/\x=a[j]:=by
 rw [qc,jv] at h;obtain ⟨j,hj,jk,e⟩:=yG h;exact ⟨p+j,hj,by omega,by omega,e⟩
theorem sY (na nb:Nat) (out:Array av):(hDn a b na nb out).toList=a.toList.take na++(b.toList.take nb++out.toList.reverse):=by
 unfold hDn;rw [eN,eN,aI,aI,ux,eM]
theorem kIE (na nb:Nat) (out:Array av):(hFb a b na nb out).toList=b.toList.take nb++(a.toList.take na++out.toList.reverse):=by
 unfold hFb;rw [eN,eN,aI,aI,ux,eM]
theorem pJ {na nb:Nat} {out:Array av} (m:MM lb a b na nb out) (e:na=0):Res lb a.toList b.toList (hDn a b na nb out).toList:=by
 subst e;rw [sY];exact ⟨by simpa using m.sb,m.pm⟩
theorem kOG {na nb:Nat} {out:Array av} (m:MM lb a b na nb out) (e:nb=0):Res lb a.toList b.toList (hDn a b na nb out).toList:=by
 subst e;rw [sY];exact ⟨by simpa using m.sa,m.pm⟩
theorem pI (H:Hz M A E s lb D kd a b) {na nb:Nat} {out:Array av} (m:MM lb a b na nb out) (e:nb=1) (hb:0<b.size):Res lb a.toList b.toList (hFb a b na nb out).toList:=by
 subst e;rw [kIE];have t:b.toList.take 1=[b[0]]:=by rw [dB (by decide) hb];simp
 have sb:=m.sb;rw [t] at sb ⊢;refine ⟨?_,?_⟩
 ·refine dc.mpr ⟨je _ _,m.sa,λ x hx y hy=>?_⟩
  have:x=b[0]:=by simpa using hx
  subst this;rcases gf.mp hy with z | z
  ·exact H.first hb y (CN z)
  ·exact (dc.mp sb).2.2 _ (by simp) y z
 ·have pm:=m.pm
  rw [t] at pm;refine oy ?_ pm;rw [<-eM,<-eM];exact tz _ jh
theorem kFV (H:Hz M A E s lb D kd a b) {na nb:Nat} {out:Array av} (m:MM lb a b na nb out) (n0:0<na) (hn:na<=a.size) (c:∀ x∈b.toList.take nb,le lb x (a[na-1]'(by omega))):MM lb a b (na-1) nb (out.push (a[na-1]'(by omega))):=by
 have m:Mh lb a.toList b.toList out.toList.reverse (a.toList.take na) (b.toList.take nb):=m;rw [dB n0 hn] at m;show Mh lb _ _ (out.push _).toList.reverse _ _;rw [qf,vo];refine m.moveA λ x hx y hy=>?_;have:y=a[na-1]'(by omega):=by simpa using hy
 rw [this];exact c x hx
theorem kLJ (H:Hz M A E s lb D kd a b) {na nb:Nat} {out:Array av} (m:MM lb a b na nb out) (n0:0<nb) (hn:nb<=b.size) (c:∀ x∈a.toList.take na,le lb x (b[nb-1]'(by omega))):MM lb a b na (nb-1) (out.push (b[nb-1]'(by omega))):=by
 have m:Mh lb a.toList b.toList out.toList.reverse (a.toList.take na) (b.toList.take nb):=m;rw [dB n0 hn] at m;show Mh lb _ _ (out.push _).toList.reverse _ _;rw [qf,vo];refine m.moveB λ x hx y hy=>?_;have:y=b[nb-1]'(by omega):=by simpa using hy
 rw [this];exact c x hx
theorem kRA {na nb p:Nat} {out:Array av} (m:MM lb a b na nb out) (hp:p<=na) (c:∀ x∈b.toList.take nb,∀ y∈(a.extract p na).toList,le lb x y):MM lb a b p nb (out++(a.extract p na).reverse):=by
 have m:Mh lb a.toList b.toList out.toList.reverse (a.toList.take na) (b.toList.take nb):=m;rw [tR a hp] at m;show Mh lb _ _ (out++_).toList.reverse _ _;rw [eN,ux,vo,CO];exact m.moveA c
theorem kQZ {na nb p:Nat} {out:Array av} (m:MM lb a b na nb out) (hp:p<=nb) (c:∀ x∈a.toList.take na,∀ y∈(b.extract p nb).toList,le lb x y):MM lb a b na p (out++(b.extract p nb).reverse):=by
 have m:Mh lb a.toList b.toList out.toList.reverse (a.toList.take na) (b.toList.take nb):=m;rw [tR b hp] at m;show Mh lb _ _ (out++_).toList.reverse _ _;rw [eN,ux,vo,CO];exact m.moveB c
theorem kDK (W:Wk lb) {a:Array av} (sa:qT lb a.toList) {n:Nat} {y:av} (n0:0<n) (hn:n<=a.size) (c:le lb (a[n-1]'(by omega)) y):∀ x∈a.toList.take n,le lb x y:=λ x hx=>by
 obtain ⟨j,hj,jn,rfl⟩:=uU hx;exact W.trans (yL W sa (show j<=n-1 by omega) (by omega)) c
theorem kMO (H:Hz M A E s lb D kd a b) {st:de} (hk:kindOf st=kd) {out:Array av} {na nb u v mg:Nat} (h:MH lb a b na nb out) {Q:ForInStep KS1->de->Prop}
  (q:∀ r,TT lb a b (out.size+1) r->Q r st):wpS M A E s (h1 a b mg (none,na,nb,out,u,v)) Q st:=by
 obtain ⟨m,a1,a2,b1,b2,sz⟩:=h;unfold h1;dsimp only;refine bh (qD (getElem?_pos b (nb-1) (by omega)) ?_);refine bh (qD (getElem?_pos a (na-1) (by omega)) ?_);refine bh (H.L _ _ (H.db _ (by simp)) (H.da _ (by simp)) st _ hk ?_)
 cases e:lb (b[nb-1]'(by omega)) (a[na-1]'(by omega))
 case true =>
  simp only [if_true];refine bh (qD (getElem?_pos a (na-1) (by omega)) ?_);have m':=kFV H m a1 a2 (kDK H.W H.sb (by omega) b2 (H.W.of_lt e));by_cases c:na-1=0
  ·rw [if_pos (by simpa using c)]
   exact cn (q _ (.inl ⟨_,rfl,pJ m' c⟩))
  ·rw [if_neg (by simpa using c)]
   have z:Zd lb a b (out.size+1) (none,na-1,nb,out.push (a[na-1]'(by omega)),(u+1,0)):=⟨rfl,⟨m',by show 0<na-1;omega,by show na-1<=a.size;omega,b1,b2,by show (out.push _).size+(na-1)+nb=_;rw [fw];omega⟩,by show out.size+1<=(out.push _).size;rw [fw];omega⟩
   split
   ·exact cn (q _ (.inr z))
   ·exact cn (q _ z)
 case false =>
  simp only [bj,if_false];refine bh (qD (getElem?_pos b (nb-1) (by omega)) ?_);have m':=kLJ H m (by omega) b2 (kDK H.W H.sa a1 a2 e);by_cases c:nb-1=1
  ·rw [if_pos (by simpa using c)]
   exact cn (q _ (.inl ⟨_,rfl,pI H m' c (by omega)⟩))
  ·rw [if_neg (by simpa using c)]
   have z:Zd lb a b (out.size+1) (none,na,nb-1,out.push (b[nb-1]'(by omega)),(0,v+1)):=⟨rfl,⟨m',a1,a2,by show 1<nb-1;omega,by show nb-1<=b.size;omega,by show (out.push _).size+na+(nb-1)=_;rw [fw];omega⟩,by show out.size+1<=(out.push _).size;rw [fw];omega⟩
   split
   ·exact cn (q _ (.inr z))
   ·exact cn (q _ z)
end
end Srt
namespace Srt
set_option autoImplicit false
open PySem PyProof.Rows
section
variable {M:qt} {A:dj} {E:af->aj->Prop} {s:aj} {lb:av->av->Bool} {D:av->Prop} {kd:iw} {a b:Array av}
theorem kFG (H:Hz M A E s lb D kd a b) {st:de} {out:Array av} {na nb g k k1 n:Nat} (m:MM lb a b na nb out) (a1:0<na) (a2:na<=a.size) (b1:1<nb) (b2:nb<=b.size) (sz:out.size+na+nb=a.size+b.size) (hn:n<=out.size+1)
  (c:∀ x∈b.toList.take nb,le lb x (a[na-1]'(by omega))) {Q:ForInStep KS->de->Prop} (q:∀ r,TT lb a b n r->Q r st):wpS M A E s (hC a b na nb out g k k1) Q st:=by
 unfold hC;refine bh (qD (getElem?_pos a (na-1) (by omega)) ?_);have m':=kFV H m a1 a2 c;by_cases e:na-1=0
 ·rw [if_pos (by simpa using e)]
  exact cn (q _ (.inl ⟨_,rfl,pJ m' e⟩))
 ·rw [if_neg (by simpa using e)]
  have z:Zd lb a b n (none,na-1,nb,out.push (a[na-1]'(by omega)),(g,k,k1)):=⟨rfl,⟨m',by show 0<na-1;omega,by show na-1<=a.size;omega,b1,b2,by show (out.push _).size+(na-1)+nb=_;rw [fw];omega⟩,by show n<=(out.push _).size;rw [fw];omega⟩
  split
  ·exact cn (q _ (.inr z))
  ·exact cn (q _ z)
theorem kFH (H:Hz M A E s lb D kd a b) {st:de} (hk:kindOf st=kd) {out:Array av} {na nb g k ob n:Nat} (h:MH lb a b na nb out) (hn:n<=out.size+1)
  (c:∀ (ha:na-1<a.size) (hb:nb-1<b.size),le lb a[na-1] b[nb-1]) {Q:ForInStep KS->de->Prop} (q:∀ r,TT lb a b n r->Q r st):wpS M A E s (hB a b na nb out g k ob) Q st:=by
 obtain ⟨m,a1,a2,b1,b2,sz⟩:=h;unfold hB;refine bh (qD (getElem?_pos b (nb-1) (by omega)) ?_);have m':=kLJ H m (by omega) b2 (kDK H.W H.sa a1 a2 (c (by omega) (by omega)));have sz':(out.push (b[nb-1]'(by omega))).size+na+(nb-1)=a.size+b.size:=by rw [fw];omega
 have gr:out.size+1=(out.push (b[nb-1]'(by omega))).size:=by rw [fw]
 by_cases e:nb-1=1
 ·rw [if_pos (by simpa using e)]
  exact cn (q _ (.inl ⟨_,rfl,pI H m' e (by omega)⟩))
 ·rw [if_neg (by simpa using e)]
  refine bh (qD (getElem?_pos a (na-1) (by omega)) ?_);refine bh (wR H.W H.L hk (H.da _ (by simp)) H.db (by omega) (λ i j hi hj=>yL H.W H.sb (by omega) (by omega)) (by omega) λ p kn g1 g2=>?_);simp only [if_true,Fk] at g1 g2
  have rest:∀ x∈b.toList.take p,le lb x (a[na-1]'(by omega)):=λ x hx=>by
   obtain ⟨j,hj,jp,rfl⟩:=uU hx;exact H.W.of_lt (g1 j jp (by omega))
  dsimp only;by_cases k0:nb-1-p>0
  ·rw [if_pos k0]
   have m2:=kQZ (p:=p) m' (by omega) λ x hx y hy=>by
    obtain ⟨j,hj,pj,jn,rfl⟩:=qS hy;exact kDK H.W H.sa a1 a2 (g2 j pj jn) x hx
   have sz2:(out.push (b[nb-1]'(by omega))++(b.extract p (nb-1)).reverse).size+na+p=a.size+b.size:=by
    rw [uk,DA,iG];omega
   by_cases e1:p=1
   ·rw [if_pos (by simpa using e1)]
    exact cn (q _ (.inl ⟨_,rfl,pI H m2 e1 (by omega)⟩))
   ·rw [if_neg (by simpa using e1)]
    by_cases e2:p=0
    ·rw [if_pos (by simpa using e2)]
     exact cn (q _ (.inl ⟨_,rfl,kOG m2 e2⟩))
    ·rw [if_neg (by simpa using e2)]
     exact kFG H m2 a1 a2 (by omega) (by omega) sz2 (by omega) rest q
  ·rw [if_neg k0]
   have e3:p=nb-1:=by omega
   rw [e3] at rest;exact kFG H m' a1 a2 (by omega) (by omega) sz' (by omega) rest q
theorem kMN (H:Hz M A E s lb D kd a b) {st:de} (hk:kindOf st=kd) {out:Array av} {na nb g oa ob n:Nat} (h:MH lb a b na nb out) (hn:n<=out.size+1) {Q:ForInStep KS->de->Prop}
  (q:∀ r,TT lb a b n r->Q r (yM st g)):wpS M A E s (hA a b na nb out g oa ob) Q st:=by
 obtain ⟨m,a1,a2,b1,b2,sz⟩:=id h;unfold hA;rw [setMinGallop'_eq];refine bh (jf ?_);refine bh (qD (getElem?_pos b (nb-1) (by omega)) ?_);refine bh (wR (st:=yM st g) H.W H.L hk (H.db _ (by simp)) H.da (by omega) (λ i j hi hj=>yL H.W H.sa (by omega) (by omega)) (by omega) λ p kn g1 g2=>?_);simp only [bj,if_false,Fk] at g1 g2;dsimp only;by_cases k0:na-p>0
 ·rw [if_pos k0]
  have m2:=kRA (p:=p) m (by omega) λ x hx y hy=>by
   obtain ⟨j,hj,pj,jn,rfl⟩:=qS hy;exact kDK H.W H.sb (by omega) b2 (H.W.of_lt (g2 j pj jn)) x hx
  have sz2:(out++(a.extract p na).reverse).size+p+nb=a.size+b.size:=by
   rw [uk,DA,iG];omega
  by_cases e1:p=0
  ·rw [if_pos (by simpa using e1)]
   exact cn (q _ (.inl ⟨_,rfl,pJ m2 e1⟩))
  ·rw [if_neg (by simpa using e1)]
   exact kFH (st:=yM st g) H hk ⟨m2,by omega,by omega,b1,b2,sz2⟩ (by omega) (λ _ _=>g1 (p-1) (by omega) (by omega)) q
 ·rw [if_neg k0]
  have e3:p=na:=by omega
  exact kFH (st:=yM st g) H hk h hn (λ _ _=>g1 (na-1) (by omega) (by omega)) q
theorem kMP (H:Hz M A E s lb D kd a b) {st:de} (hk:kindOf st=kd) {out:Array av} {na nb g:Nat} (h:MH lb a b na nb out) {Q:ForInStep KS0->de->Prop}
  (qd:∀ r c st',Sm st st'->Res lb a.toList b.toList r.toList->Q (.done (some r,c)) st') (qy:∀ c st',Sm st st'->Zd lb a b (out.size+1) c->Q (.yield c) st'):wpS M A E s (h0 a b (none,na,nb,out,g)) Q st:=by
 unfold h0;dsimp only;have tot:0<a.size+b.size:=by have:=h.2.2.1;have:=h.2.1;omega
 refine bh (qa (iC (I:=λ x d st'=>st'=st/\Zd lb a b (out.size+x) d) (Q:=λ d st'=>st'=st/\En lb a b (out.size+1) d) ?step ?fin ⟨rfl,rfl,h,ba _⟩) ?post)
 case fin =>
  rintro d st' ⟨rfl,y⟩;exact ⟨rfl,.inr (y.mono (by omega))⟩
 case step =>
  rintro x ⟨r,i,j,o,u,v⟩ st' _ _ ⟨rfl,e,mi,le⟩
  cases (show r=none from e)
  have le:out.size+x<=o.size:=le;refine kMO H hk mi λ r hr=>?_
  cases r with
  | done c=>exact ⟨rfl,En.mono hr (by omega)⟩
  | yield c=>exact ⟨rfl,Zd.mono hr (by omega)⟩
 case post =>
  rintro ⟨r,i,j,o,u,v⟩ st' ⟨rfl,hd⟩
  cases r with
  | some r =>
   dsimp only;rcases hd with ⟨r',e,res⟩ | ⟨e,_⟩
   ·cases e
    exact cn (qd _ _ _ (Sm.refl _) res)
   ·cases e
  | none =>
   dsimp only
   have y:Zd lb a b (out.size+1) (none,i,j,o,(u,v)):=by
    rcases hd with ⟨r',e,res⟩ | y
    ·cases e
    ·exact y
   refine bh (yP ?_);refine bh (qa (iC (I:=λ x f st2=>Sm st' st2/\Zd lb a b (out.size+1) f) (Q:=λ f st2=>Sm st' st2/\En lb a b (out.size+1) f) ?step2 ?fin2 ⟨Sm.refl _,y⟩) ?post2)
   case fin2 =>
    rintro f st2 ⟨sm,y⟩;exact ⟨sm,.inr y⟩
   case step2 =>
    rintro x ⟨r,i,j,o,g2,u,v⟩ st2 _ _ ⟨sm,e,mi,le⟩
    cases (show r=none from e)
    have le:out.size+1<=o.size:=le;dsimp only
    split
    all_goals
     refine kMN (n:=out.size+1) H (sm.1.trans hk) mi (by omega) λ r hr=>?_
     cases r with
     | done c=>exact ⟨sm.gal _,hr⟩
     | yield c=>exact ⟨sm.gal _,hr⟩
   case post2 =>
    rintro ⟨r,i,j,o,g2,u,v⟩ st2 ⟨sm,hd⟩
    cases r with
    | some r =>
     dsimp only;rcases hd with ⟨r',e,res⟩ | ⟨e,_⟩
     ·cases e
      exact cn (qd _ _ _ sm res)
     ·cases e
    | none =>
     dsimp only;rcases hd with ⟨r',e,res⟩ | y
     ·cases e
     ·rw [setMinGallop'_eq]
      exact bh (jf (cn (qy _ _ (sm.gal _) y)))
theorem pZ (H:Hz M A E s lb D kd a b) {st:de} (hk:kindOf st=kd) (a0:0<a.size) (b0:0<b.size) (last:le lb (b[b.size-1]'(by omega)) (a[a.size-1]'(by omega))) {Q:Array av->de->Prop}
  (q:∀ r st',Sm st st'->Res lb a.toList b.toList r.toList->Q r st'):wpS M A E s (fV a b) Q st:=by
 rw [mergeHi'_parts];refine bh (yP ?_);refine bh (qD (getElem?_pos a (a.size-1) (by omega)) ?_);have ta:a.toList.take a.size=a.toList:=fb (by simp);have tb:b.toList.take b.size=b.toList:=fb (by simp)
 have m0:MM lb a b a.size b.size #[]:=by
  show Mh lb _ _ (#[]:Array av).toList.reverse _ _;rw [ta,tb];exact ⟨by simpa using H.sa,by simpa using H.sb,by simp⟩
 have m1:MM lb a b (a.size-1) b.size #[a[a.size-1]'(by omega)]:=kFV H m0 a0 (ba _) (kDK H.W H.sb b0 (ba _) last);by_cases e1:a.size-1=0
 ·rw [if_pos (by simpa using e1)]
  exact cn (q _ _ (Sm.refl _) (pJ m1 e1))
 rw [if_neg (by simpa using e1)];by_cases e2:b.size=1
 ·rw [if_pos (by simpa using e2)]
  exact cn (q _ _ (Sm.refl _) (pI H m1 e2 b0))
 rw [if_neg (by simpa using e2)];refine bh (xq ?_);refine bh (qa (iC (I:=λ x c st'=>Sm st st'/\Zd lb a b (1+x) c) (Q:=λ c st'=>Sm st st'/\∃ r,c.1=some r/\Res lb a.toList b.toList r.toList) ?step ?fin ⟨Sm.refl _,rfl,⟨m1,by show 0<a.size-1;omega,by show a.size-1<=a.size;omega,by show 1<b.size;omega,ba _,by show 1+(a.size-1)+b.size=_;omega⟩,ba _⟩) ?post)
 case post =>
  rintro ⟨r,c⟩ st' ⟨sm,r',e,res⟩;cases e
  exact cn (q _ _ sm res)
 case fin =>
  rintro ⟨r,i,j,o,g⟩ st' ⟨sm,e,⟨_,h1,h2,h3,h4,h5⟩,le⟩;have h5:o.size+i+j=a.size+b.size:=h5;have le:1+max 0 (a.size+b.size)<=o.size:=le;omega
 case step =>
  rintro x ⟨r,i,j,o,g⟩ st' _ _ ⟨sm,e,mi,le⟩
  cases (show r=none from e)
  have le:1+x<=o.size:=le;exact kMP H (sm.1.trans hk) mi (λ r c st2 sm2 res=>⟨⟨sm2.1.trans sm.1,sm2.2.1.trans sm.2.1,sm2.2.2.1.trans sm.2.2.1,sm2.2.2.2.trans sm.2.2.2⟩,r,rfl,res⟩) λ c st2 sm2 y=>⟨⟨sm2.1.trans sm.1,sm2.2.1.trans sm.2.1,sm2.2.2.1.trans sm.2.2.1,sm2.2.2.2.trans sm.2.2.2⟩,y.mono (by omega)⟩
end
end Srt
namespace Srt
set_option autoImplicit false
open PySem PyProof.Rows
section
variable {α:Type} {lb:α->α->Bool}
theorem kDS (l:List α) (i:Nat) (x:α) (h:i<l.length):l.set i x=l.take i++x::l.drop (i+1):=by
 rw [List.set_eq_take_append_cons_drop,if_pos h]
theorem wr:∀ (xs:List α) (k:Nat) (arr:Array α) (lo:Nat),lo+k+xs.length<=arr.size->((xs.zipIdx k).foldl (λ a (p:α×Nat)=>a.setIfInBounds (lo+p.2) p.1) arr).toList=arr.toList.take (lo+k)++(xs++arr.toList.drop (lo+k+xs.length))
 | [],k,arr,lo,h=>by simp
 | x::xs,k,arr,lo,h=>by
  rw [gy] at h;rw [List.zipIdx_cons,wd];have ih:=wr xs (k+1) (arr.setIfInBounds (lo+k) x) lo (by rw [BL];omega);rw [ih,Ag,kDS _ _ _ (by simp;omega)];have e:(arr.toList.take (lo+k)).length=lo+k:=by simp;omega
  have t1:(arr.toList.take (lo+k)++x::arr.toList.drop (lo+k+1)).take (lo+(k+1))=arr.toList.take (lo+k)++[x]:=by
   rw [List.take_append,e,show lo+(k+1)-(lo+k)=1 by omega,fb (by rw [e];omega)]
   rfl
  have t2:(arr.toList.take (lo+k)++x::arr.toList.drop (lo+k+1)).drop (lo+(k+1)+xs.length)=arr.toList.drop (lo+k+(x::xs).length):=by
   rw [yn,e,ig (by rw [e];omega),Ah,show lo+(k+1)+xs.length-(lo+k)=xs.length+1 by omega,List.drop_succ_cons,Af,gy]
   congr 1
   omega
  rw [t1,t2];simp
theorem kEM (W:Wk lb) {X1 X2 Y1 Y2 Mm:List α} (sx:qT lb (X1++X2)) (sy:qT lb (Y1++Y2)) (h1:∀ x∈X1,∀ y∈Y1++Y2,le lb x y) (h2:∀ x∈X2,∀ y∈Y2,le lb x y) (r:Res lb X2 Y1 Mm) :
  qT lb (X1++(Mm++Y2))/\(X1++(Mm++Y2)).Perm ((X1++X2)++(Y1++Y2)):=by
 have a1:=dc.mp sx;have a2:=dc.mp sy;have mem:∀ z∈Mm,z∈X2\/z∈Y1:=λ z hz=>gf.mp ((r.2.mem_iff).mp hz);refine ⟨dc.mpr ⟨a1.1,dc.mpr ⟨r.1,a2.2.1,λ x hx y hy=>?_⟩,λ x hx y hy=>?_⟩,?_⟩
 ·rcases mem x hx with z | z
  ·exact h2 x z y hy
  ·exact a2.2.2 x z y hy
 ·rcases gf.mp hy with z | z
  ·rcases mem y z with w | w
   ·exact a1.2.2 x hx y w
   ·exact h1 x hx y (lh _ w)
  ·exact h1 x hx y (eg _ z)
 ·rw [eM]
  refine uf X1 ?_;rw [<-eM];exact r.2.append_right Y2
end
end Srt
local macro_rules | `(tactic| walk_at "sort_open mergeAt")=>`(tactic| delta $(Lean.mkIdent (Lean.mkPrivateNameCore `PySem.Builtin.List.W1All `PySem.Builtin.mergeAt)):ident)
namespace Srt
set_option autoImplicit false
open PySem PyProof.Rows
section
variable {M:qt} {A:dj} {E:af->aj->Prop} {s:aj} {lb:av->av->Bool} {D:av->Prop} {kd:iw} {arr:Array av}
theorem kJA {st st':de} {Q:PUnit->de->Prop} (h:Q ⟨⟩ st'):wpS M A E s (set st':StateT de Sem PUnit) Q st:=by
 unfold wpS;rw [StateT.run_set];exact aq ⟨rfl,h⟩
theorem yY {i m j:Nat} (h1:i<=m) (h2:m<=j):(arr.extract i j).toList=(arr.extract i m).toList++(arr.extract m j).toList:=by
 rw [<-eN,Array.extract_append_extract,ju h1,Nat.max_eq_right h2]
theorem tX (W:Wk lb) {lo n:Nat} (h:qT lb (arr.extract lo (lo+n)).toList) (hn:lo+n<=arr.size) (i j:Nat) (hi:i<=j) (hj:j<n):le lb (arr[lo+i]'(by omega)) (arr[lo+j]'(by omega)):=by
 have:=yL W h hi (show j<(arr.extract lo (lo+n)).size by rw [iG];omega);simpa using this
def Joined (lb:av->av->Bool) (arr arr':Array av) (lo n:Nat):Prop:=∃ m:List av,arr'.toList=arr.toList.take lo++(m++arr.toList.drop (lo+n))/\qT lb m/\m.Perm (arr.extract lo (lo+n)).toList
theorem zK {lo n:Nat} (h:lo+n<=arr.size):arr.toList=arr.toList.take lo++((arr.extract lo (lo+n)).toList++arr.toList.drop (lo+n)):=by
 rw [jM,<-Af,iT,iT]
theorem rA (W:Wk lb) (hL:wQ M A E s lb D kd) {st:de} (hk:kindOf st=kd) (hf:qb st=none) (dd:∀ x∈(cm st).toList,D x) {i sa na nb pa pb:Nat} (hi:(ck st)[i]?=some (sa,na,pa)) (hj:(ck st)[i+1]?=some (sa+na,nb,pb))
  (na0:0<na) (nb0:0<nb) (hn:sa+na+nb<=(cm st).size) (sx:qT lb ((cm st).extract sa (sa+na)).toList) (sy:qT lb ((cm st).extract (sa+na) (sa+na+nb)).toList) {Q:Bool->de->Prop}
  (q:∀ st',kindOf st'=kd->qb st'=none->ck st'=((ck st).setIfInBounds i (sa,na+nb,pa)).eraseIdxIfInBounds (i+1)->Joined lb (cm st) (cm st') sa (na+nb)->Q true st'):wpS M A E s (mergeAt' i) Q st:=by
 unfold mergeAt'
 walk_at "sort_open mergeAt"
 dsimp only;refine bh (xq ?_);rw [hi,hj];dsimp only;refine bh (kJA ?_);generalize hP:((ck st).setIfInBounds i (sa,na+nb,pa)).eraseIdxIfInBounds (i+1)=PP at *;have dx:∀ {j:Nat} (h:j<(cm st).size),D (cm st)[j]:=λ h=>dd _ (by simp);have z1:sa+na<(cm st).size:=by omega
 have z2:sa+na-1<(cm st).size:=by omega
 have z3:sa+na<=(cm st).size:=by omega
 refine bh (qD (arr:=cm st) (getElem?_pos (cm st) (sa+na) z1) ?_);refine bh (wR (arr:=cm st) (st:=setPending st PP) W hL hk (dx z1) dd z3 (tX (arr:=cm st) W sx z3) na0 λ k kn g1 g2=>?_);simp only [bj,if_false] at g1 g2;dsimp only;have spX:=yY (arr:=cm st) (i:=sa) (m:=sa+k) (j:=sa+na) (by omega) (by omega);have spW:=yY (arr:=cm st) (i:=sa) (m:=sa+na) (j:=sa+na+nb) (by omega) (by omega);have iy:=tX W sy (by omega);have ix:=tX W sx (by omega);have same:∀ {X:List av},X=((cm st).extract sa (sa+(na+nb))).toList->qT lb X->Joined lb (cm st) (cm st) sa (na+nb):=λ {X} e h=>⟨X,by rw [e];exact zK (by omega),h,by rw [e]⟩
 have low:∀ x∈((cm st).extract sa (sa+k)).toList,∀ y∈((cm st).extract (sa+na) (sa+na+nb)).toList,le lb x y:=λ x hx y hy=>by
  obtain ⟨j,hj,j1,j2,rfl⟩:=qS hx;obtain ⟨j',hj',j1',j2',rfl⟩:=qS hy;have e1:=g1 (j-sa) (by omega) (by omega);have e2:=iy 0 (j'-(sa+na)) (by omega) (by omega);simp only [show sa+(j-sa)=j by omega,show sa+na+(j'-(sa+na))=j' by omega,DZ] at e1 e2;exact W.trans e1 e2
 by_cases e:na-k=0
 ·rw [if_pos (by simpa using e)]
  have ek:sa+k=sa+na:=by omega
  rw [ek] at low;exact cn (q _ hk hf rfl (same (by rw [<-jm];exact spW.symm) (dc.mpr ⟨sx,sy,low⟩)))
 rw [if_neg (by simpa using e)];have eL:sa+k+(na-k)-1=sa+na-1:=by omega
 rw [eL];refine bh (qD (arr:=cm st) (getElem?_pos (cm st) (sa+na-1) z2) ?_);refine bh (wR (arr:=cm st) (st:=setPending st PP) W hL hk (dx z2) dd hn iy (by omega) λ p pn f1 f2=>?_);simp only [if_true] at f1 f2;dsimp only
 have toLast:∀ x∈((cm st).extract sa (sa+na)).toList,le lb x ((cm st)[sa+na-1]'(by omega)):=λ x hx=>by
  obtain ⟨j,hj,j1,j2,rfl⟩:=qS hx;have e1:=ix (j-sa) (na-1) (by omega) (by omega);simp only [show sa+(j-sa)=j by omega,show sa+(na-1)=sa+na-1 by omega] at e1;exact e1
 have high:∀ y∈((cm st).extract (sa+na+p) (sa+na+nb)).toList,le lb ((cm st)[sa+na-1]'(by omega)) y:=λ y hy=>by
  obtain ⟨j,hj,j1,j2,rfl⟩:=qS hy;have e1:=f2 (j-(sa+na)) (by omega) (by omega);simp only [show sa+na+(j-(sa+na))=j by omega] at e1;exact e1
 by_cases e0:p=0
 ·rw [if_pos (by simpa using e0)]
  rw [e0,DZ] at high;exact cn (q _ hk hf rfl (same (by rw [<-jm];exact spW.symm) (dc.mpr ⟨sx,sy,λ x hx y hy=>W.trans (toLast x hx) (high y hy)⟩)))
 rw [if_neg (by simpa using e0)];have spY:=yY (arr:=cm st) (i:=sa+na) (m:=sa+na+p) (j:=sa+na+nb) (by omega) (by omega);have sx':=sx;rw [spX] at sx';have sy':=sy;rw [spY] at sy'
 have mx:∀ {u v:Nat},∀ x∈((cm st).extract u v).toList,D x:=λ x hx=>by
  obtain ⟨j,hj,_,_,rfl⟩:=qS hx;exact dx hj
 have szx:((cm st).extract (sa+k) (sa+na)).size=na-k:=by rw [iG];omega
 have szy:((cm st).extract (sa+na) (sa+na+p)).size=p:=by rw [iG];omega
 have x0:∀ (h:0<((cm st).extract (sa+k) (sa+na)).size),((cm st).extract (sa+k) (sa+na))[0]=(cm st)[sa+k]'(by omega):=λ h=>by simp
 have xl:∀ (h:0<((cm st).extract (sa+k) (sa+na)).size),((cm st).extract (sa+k) (sa+na))[((cm st).extract (sa+k) (sa+na)).size-1]'(by omega)=(cm st)[sa+na-1]'(by omega):=λ h=>by
  rw [Array.getElem_extract]
  congr 1
  omega
 have y0:∀ (h:0<((cm st).extract (sa+na) (sa+na+p)).size),((cm st).extract (sa+na) (sa+na+p))[0]=(cm st)[sa+na]'(by omega):=λ h=>by simp
 have below:∀ y∈((cm st).extract (sa+na) (sa+na+p)).toList,le lb y ((cm st)[sa+na-1]'(by omega)):=λ y hy=>by
  obtain ⟨j,hj,j1,j2,rfl⟩:=qS hy;have e1:=f1 (j-(sa+na)) (by omega) (by omega);simp only [show sa+na+(j-(sa+na))=j by omega] at e1;exact W.of_lt e1
 have above:∀ y∈((cm st).extract (sa+k) (sa+na)).toList,le lb ((cm st)[sa+na]'(by omega)) y:=λ y hy=>by
  obtain ⟨j,hj,j1,j2,rfl⟩:=qS hy;have e1:=g2 (j-sa) (by omega) (by omega);simp only [show sa+(j-sa)=j by omega] at e1;exact W.of_lt e1
 have fin:∀ (r:Array av) (st':de),Sm (setPending st PP) st'->Res lb ((cm st).extract (sa+k) (sa+na)).toList ((cm st).extract (sa+na) (sa+na+p)).toList r.toList ->
   wpS M A E s (do modify λ s=>setArr s (r.toList.zipIdx.foldl (λ a (p,j)=>a.setIfInBounds (sa+k+j) p) (cm s));let __do_lift <-get;pure (qb __do_lift).isNone) Q st':=λ r st' sm res=>by
  refine bh (jf (bh (xq ?_)));have ef:qb st'=none:=sm.2.2.2.trans hf;have ea:cm st'=cm st:=sm.2.1;refine cn ?_;show Q (qb st').isNone _;rw [ef];refine q _ (sm.1.trans hk) ef sm.2.2.1 ?_;show Joined lb (cm st) (r.toList.zipIdx.foldl (λ a (p:av×Nat)=>a.setIfInBounds (sa+k+p.2) p.1) (cm st')) sa (na+nb);rw [ea];obtain ⟨j1,j2⟩:=kEM W sx' sy' (by rw [<-spY];exact low) (λ x hx y hy=>W.trans (toLast x (by rw [spX];exact eg _ hx)) (high y hy)) res;rw [<-spX,<-spY,<-spW] at j2;refine ⟨_,?_,j1,by rw [<-jm];exact j2⟩
  have len:r.toList.length=na-k+p:=by
   have:=res.2.length_eq;rw [du] at this;simp only [eI,szx,szy] at this;simpa using this
  rw [wr r.toList 0 (cm st) (sa+k) (by rw [len];omega),len];have t1:(cm st).toList.take (sa+k+0)=(cm st).toList.take sa++((cm st).extract sa (sa+k)).toList:=tR (cm st) (by omega)
  have t2:(cm st).toList.drop (sa+k+0+(na-k+p))=((cm st).extract (sa+na+p) (sa+na+nb)).toList++(cm st).toList.drop (sa+(na+nb)):=by
   rw [show sa+k+0+(na-k+p)=sa+na+p by omega,show sa+na+nb=sa+na+p+(nb-p) by omega,jM,show sa+(na+nb)=sa+na+p+(nb-p) by omega];exact kAX _ _ _
  rw [t1,t2];simp only [eM]
 have mx0:(cm st)[sa+k]'(by omega)∈((cm st).extract (sa+k) (sa+na)).toList:=by
  rw [<-x0 (by omega),yz];exact Az _
 have myl:((cm st).extract (sa+na) (sa+na+p))[((cm st).extract (sa+na) (sa+na+p)).size-1]'(by omega)∈((cm st).extract (sa+na) (sa+na+p)).toList:=by
  rw [yz];exact Az _
 by_cases c:na-k<=p
 ·rw [if_pos c]
  refine bh ?_;exact pY (st:=setPending st PP) ⟨W,hL,mx,mx,(dc.mp sx').2.1,(dc.mp sy').1,λ h y hy=>by rw [xl h];exact below y hy⟩ hk (by omega) (by omega) (by rw [x0 (by omega),y0 (by omega)];exact above _ mx0) fin
 ·rw [if_neg c]
  refine bh ?_;exact pZ (st:=setPending st PP) ⟨W,hL,mx,mx,(dc.mp sx').2.1,(dc.mp sy').1,λ h y hy=>by rw [y0 h];exact above y hy⟩ hk (by omega) (by omega) (by rw [xl (by omega)];exact below _ myl) fin
end
end Srt
namespace Srt
theorem oO {α:Type} {R:α->α->Prop}:∀ {l:List α},l.length<=1->l.Pairwise R
 | [],_=>Ay
 | [_],_=>je _ _
set_option autoImplicit false
open PySem PyProof.Rows
section
variable {α:Type}
theorem kFU (arr:Array α) {Q R:List α} {y x:α} (h:arr.toList=Q++y::x::R):(arr.swapIfInBounds (Q.length+1) Q.length).toList=Q++x::y::R:=by
 have sz:arr.size=Q.length+(R.length+2):=by
  have:=congrArg ph h;simpa using this
 have g:∀ k,arr[k]?=(Q++y::x::R)[k]?:=λ k=>by rw [<-h,ik]
 refine Da λ k=>?_;have e:=getElem?_swapIB (xs:=arr) (i:=Q.length+1) (j:=Q.length) (by omega) (by omega) k;rw [show (arr.swapIfInBounds (Q.length+1) Q.length).toList[k]?=(arr.swapIfInBounds (Q.length+1) Q.length)[k]? by simp,e,g,g,g];rcases vc k Q.length with c | c
 ·rw [if_neg (by omega),if_neg (by omega),dw c,dw c]
 ·obtain ⟨j,rfl⟩ : ∃ j,k=Q.length+j:=⟨k-Q.length,by omega⟩
  rw [bu (by omega),bu (by omega),bu (by omega),bu (by omega)];rw [show Q.length+j-Q.length=j by omega,show Q.length+1-Q.length=1 by omega,Dc]
  match j with
  | 0=>simp
  | 1=>simp
  | j+2 =>
   rw [if_neg (by omega),if_neg (by omega)];simp
theorem cE:∀ (m2 m1 T:List α) (x:α) (arr:Array α),arr.toList=m1++(m2++x::T)->(bubble arr (m1.length+m2.length) m2.length).toList=m1++(x::(m2++T))
 | [],m1,T,x,arr,h=>h
 | y::m2,m1,T,x,arr,h=>by
  have ih:=cE m2 (m1++[y]) T x arr (by rw [h];simp);rw [gy,bubble_succ];rw [du,jg,show m1.length+1+m2.length=m1.length+(m2.length+1) by omega] at ih;have e:=kFU (bubble arr (m1.length+(m2.length+1)) m2.length) (Q:=m1) (y:=y) (x:=x) (R:=m2++T) (by rw [ih];simp);rw [show m1.length+(m2.length+1)-m2.length=m1.length+1 by omega,show m1.length+1-1=m1.length by omega];rw [e];simp
end
section
variable {M:qt} {A:dj} {E:af->aj->Prop} {s:aj} {lb:av->av->Bool} {D:av->Prop} {kd:iw}
theorem uA (hL:wQ M A E s lb D kd) {st:de} (hk:kindOf st=kd) {i j:Nat} {x y:av} (hx:(cm st)[i]?=some x) (hy:(cm st)[j]?=some y) (dx:D x) (dy:D y) {Q:Option Bool->de->Prop} (q:Q (some (lb x y)) st):wpS M A E s (ltAt' i j) Q st:=by
 rw [ltAt'_eq];refine bh (xq ?_);exact bh (qD hx (bh (qD hy (hL _ _ dx dy st _ hk q))))
def Sa (st st':de):Prop:=kindOf st'=kindOf st/\ck st'=ck st/\qb st'=qb st
theorem kKO (W:Wk lb) {m1 m2:List av} {x:av} (h:qT lb (m1++m2)) (h1:∀ y∈m1,le lb y x) (h2:∀ y∈m2,le lb x y):qT lb (m1++x::m2):=by
 have a:=dc.mp h;refine dc.mpr ⟨a.1,Ai.mpr ⟨h2,a.2.1⟩,λ y hy z hz=>?_⟩;rcases gu.mp hz with rfl | w
 ·exact h1 y hy
 ·exact a.2.2 y hy z w
theorem tL (W:Wk lb) (hL:wQ M A E s lb D kd) {st:de} (hk:kindOf st=kd) (dd:∀ x∈(cm st).toList,D x) {lo n ok:Nat} (hok:ok<=n) (hn:lo+n<=(cm st).size) (hs:qT lb ((cm st).extract lo (lo+ok)).toList) {Q:Bool->de->Prop}
  (q:∀ st',Sa st st'->Joined lb (cm st) (cm st') lo n->Q true st'):wpS M A E s (binarySort' lo n ok) Q st:=by
 rw [binarySort'_eq];refine bh (qa (iC (I:=λ k c st'=>c=(none,())/\Sa st st'/\Joined lb (cm st) (cm st') lo (min k n)) (Q:=λ c st'=>c=(none,())/\Sa st st'/\Joined lb (cm st) (cm st') lo n) ?step ?fin ?init) ?post)
 case post =>
  rintro c st' ⟨rfl,sm,j⟩;exact cn (q st' sm j)
 case fin =>
  rintro c st' ⟨rfl,sm,j⟩;refine ⟨rfl,sm,?_⟩;rwa [show min (max (max ok 1) n) n=n by omega] at j
 case init =>
  refine ⟨rfl,⟨rfl,rfl,rfl⟩,_,zK (by omega),?_,xp _⟩;by_cases o:ok=0
  ·have:((cm st).extract lo (lo+min (max ok 1) n)).toList.length<=1:=by
    rw [eI,iG];omega
   generalize ((cm st).extract lo (lo+min (max ok 1) n)).toList=l at *;exact oO this
  ·rwa [show min (max ok 1) n=ok by omega]
 case step =>
  rintro k c st' _ hkn ⟨rfl,sm,m,e,sr,pm⟩;rw [show min k n=k by omega] at e pm;have lm:m.length=k:=by rw [pm.length_eq,eI,iG];omega
  have lp:((cm st).toList.take lo).length=lo:=by simp;omega
  have kz:lo+k<(cm st).size:=by omega
  rw [jP kz] at e
  have ax:(cm st')[lo+k]?=some ((cm st)[lo+k]):=by
   rw [<-ik,e,bu (by omega),lp,bu (by omega),lm,show lo+k-lo-k=0 by omega]
   rfl
  have am:∀ j (h:j<m.length),(cm st')[lo+j]?=some m[j]:=λ j h=>by
   rw [<-ik,e,bu (by omega),lp,dw (by omega),show lo+j-lo=j by omega];exact ao h
  have dx:D (cm st)[lo+k]:=dd _ (by simp)
  have dm:∀ j (h:j<m.length),D m[j]:=λ j h=>by
   obtain ⟨i,hi,_,_,ei⟩:=qS (pm.mem_iff.mp (si h));rw [ei];exact dd _ (by simp)
  have mono:∀ i j (h:i<=j) (hj:j<m.length),le lb (m[i]'(by omega)) m[j]:=λ i j h hj=>by
   by_cases z:i=j
   ·subst z;exact W.refl _
   ·exact oo.mp sr i j (by omega) hj (by omega)
  refine bh (qa (iC (I:=λ x c st2=>st2=st'/\∃ l r,c=(none,l,r)/\l<=r/\r<=k/\r-l<=k-x/\(∀ i (h:i<m.length),i<l->le lb m[i] (cm st)[lo+k])/\(∀ i (h:i<m.length),r<=i->le lb (cm st)[lo+k] m[i]))
   (Q:=λ c st2=>st2=st'/\∃ l r,c=(none,l,r)/\l<=k/\(∀ i (h:i<m.length),i<l->le lb m[i] (cm st)[lo+k])/\(∀ i (h:i<m.length),l<=i->le lb (cm st)[lo+k] m[i])) ?istep ?ifin ?iinit) ?ipost)
  case iinit=>exact ⟨rfl,0,k,rfl,by omega,by omega,by omega,λ i _ hi=>by omega,λ i h1 h2=>by omega⟩
  case ifin =>
   rintro c st2 ⟨rfl,l,r,rfl,lr,rk,d,a1,a2⟩;have:l=r:=by omega
   subst this;exact ⟨rfl,l,l,rfl,rk,a1,a2⟩
  case istep =>
   rintro x c st2 _ _ ⟨rfl,l,r,rfl,lr,rk,d,a1,a2⟩;dsimp only;by_cases hge:l >= r
   ·rw [if_pos hge]
    have:l=r:=by omega
    subst this;exact cn ⟨rfl,l,l,rfl,rk,a1,a2⟩
   ·rw [if_neg hge]
    have hm:(l+r) / 2<m.length:=by omega
    refine bh (uA hL (sm.1.trans hk) ax (am _ hm) dx (dm _ hm) ?_)
    cases z:lb (cm st)[lo+k] m[(l+r) / 2]
    case true =>
     simp only [if_true];exact cn ⟨rfl,l,_,rfl,by omega,by omega,by omega,a1,λ i h hi=>W.trans (W.of_lt z) (mono _ i hi h)⟩
    case false =>
     simp only [bj,if_false];exact cn ⟨rfl,_,r,rfl,by omega,by omega,by omega,λ i h hi=>W.trans (mono i _ (by omega) hm) z,a2⟩
  case ipost =>
   rintro c st2 ⟨rfl,l,r,rfl,lk,a1,a2⟩;show wpS _ _ _ _ (do moveDown' (lo+k) (lo+l);pure (gj (none,()))) _ _;rw [moveDown'_eq];refine bh (jf (cn ⟨rfl,sm,?_⟩));rw [show min (k+1) n=k+1 by omega];show Joined lb (cm st) (bubble (cm st2) (lo+k) (lo+k-(lo+l))) lo (k+1)
   have b:=cE (m.drop l) ((cm st).toList.take lo++m.take l) ((cm st).toList.drop (lo+k+1)) ((cm st)[lo+k]) (cm st2) (by
    rw [e]
    conv=>lhs;rw [<-iT l m]
    simp only [eM,List.singleton_append])
   have l1:((cm st).toList.take lo++m.take l).length+(m.drop l).length=lo+k:=by
    rw [du,lp,gw,fh];omega
   have l2:(m.drop l).length=lo+k-(lo+l):=by rw [fh];omega
   rw [l1,l2] at b;refine ⟨m.take l++(cm st)[lo+k]::m.drop l,?_,kKO W (by rw [iT];exact sr) (λ y hy=>?_) (λ y hy=>?_),?_⟩
   ·rw [b,<-jm]
    simp only [eM,List.cons_append]
   ·obtain ⟨i,hi,rfl⟩:=iR.mp hy
    rw [gw] at hi;rw [DY];exact a1 i (by omega) (by omega)
   ·obtain ⟨i,hi,rfl⟩:=iR.mp hy
    rw [fh] at hi;rw [BB];exact a2 _ (by omega) (by omega)
   ·refine oy EB ?_
    rw [iT,yY (i:=lo) (m:=lo+k) (j:=lo+(k+1)) (by omega) (by omega)]
    have:((cm st).extract (lo+k) (lo+(k+1))).toList=[(cm st)[lo+k]]:=by
     rw [<-jm,jM,jP kz]
     rfl
    rw [this];exact (jh (l₁:=[(cm st)[lo+k]]) (l₂:=m)).trans (pm.append_right _)
end
end Srt
namespace Srt
set_option autoImplicit false
open PySem PyProof.Rows
section
variable {α:Type}
theorem sR (arr:Array α) {P m T:List α} {i j:Nat} (h:arr.toList=P++(m++T)) (hi:i=P.length) (hj:j=P.length+m.length):(mirror arr i j ((j-i) / 2)).toList=P++(m.reverse++T):=by
 subst hi hj
 have sz:arr.size=P.length+(m.length+T.length):=by
  have:=congrArg ph h;simpa using this
 have g:∀ k,arr[k]?=(P++(m++T))[k]?:=λ k=>by rw [<-h,ik]
 refine Da λ k=>?_;rw [ik,getElem?_mirror_all (by omega),g,g];rcases vc k P.length with c | c
 ·rw [if_neg (by omega),dw c,dw c]
 ·rcases vc k (P.length+m.length) with c2 | c2
  ·rw [if_pos ⟨c,c2⟩,bu (by omega),bu c,dw (by omega),dw (by rw [qv];omega),Bz (by omega)]
   congr 1
   omega
  ·rw [if_neg (by omega),bu c,bu c,bu (by omega),bu (by rw [qv];omega),qv]
end
section
variable {α:Type} {lb:α->α->Bool}
def Fal (lb:α->α->Bool) (l:List α):Prop:=l.Pairwise λ a b=>le lb b a
theorem Fal.rev {l:List α} (h:Fal lb l):qT lb l.reverse:=ye.mpr h
theorem Fal.tail {u t:List α} (h:Fal lb (u++t)) (e:qT lb t):Fal lb (u++t.reverse):=by
 have a:=dc.mp h;refine dc.mpr ⟨a.1,ye.mpr e,λ x hx y hy=>a.2.2 x hx y (BY.mp hy)⟩
end
end Srt
namespace Srt
set_option autoImplicit false
open PySem PyProof.Rows
section
variable {M:qt} {A:dj} {E:af->aj->Prop} {s:aj} {lb:av->av->Bool} {D:av->Prop} {kd:iw}
structure Rn (arr0 arr:Array av) (lo n:Nat) (m:List av):Prop where
 eq:arr.toList=arr0.toList.take lo++(m++arr0.toList.drop (lo+n))
 pm:m.Perm (arr0.extract lo (lo+n)).toList
 hn:lo+n<=arr0.size
variable {arr0 arr:Array av} {lo n:Nat} {m:List av}
theorem Rn.len (h:Rn arr0 arr lo n m):m.length=n:=by
 have:=h.hn;rw [h.pm.length_eq,eI,iG];omega
theorem Rn.joined (h:Rn arr0 arr lo n m) (sr:qT lb m):Joined lb arr0 arr lo n:=⟨m,h.eq,sr,h.pm⟩
theorem Rn.start (h:lo+n<=arr0.size):Rn arr0 arr0 lo n (arr0.extract lo (lo+n)).toList:=⟨zK h,xp _,h⟩
theorem Rn.lp (h:Rn arr0 arr lo n m):(arr0.toList.take lo).length=lo:=by have:=h.hn;simp;omega
theorem Rn.at (h:Rn arr0 arr lo n m) {j:Nat} (hj:j<m.length):arr[lo+j]?=some m[j]:=by
 rw [<-ik,h.eq,bu (by rw [h.lp];omega),h.lp,dw (by omega),show lo+j-lo=j by omega];exact ao hj
theorem Rn.next (h:Rn arr0 arr lo n m) (hk:lo+n<arr0.size):arr[lo+n]?=some arr0[lo+n]:=by
 rw [<-ik,h.eq,bu (by rw [h.lp];omega),h.lp,bu (by rw [h.len];omega),h.len,jP hk,show lo+n-lo-n=0 by omega]
 rfl
theorem Rn.more (h:Rn arr0 arr lo n m) (hk:lo+n<arr0.size):Rn arr0 arr lo (n+1) (m++[arr0[lo+n]]):=by
 refine ⟨?_,?_,by omega⟩
 ·rw [h.eq,jP hk,eM]
  rfl
 ·rw [yY (i:=lo) (m:=lo+n) (j:=lo+(n+1)) (by omega) (by omega)]
  have:(arr0.extract (lo+n) (lo+(n+1))).toList=[arr0[lo+n]]:=by
   rw [<-jm,jM,jP hk]
   rfl
  rw [this];exact h.pm.append_right _
theorem Rn.dom (h:Rn arr0 arr lo n m) (dd:∀ x∈arr0.toList,D x):∀ x∈m,D x:=λ x hx=>by
 obtain ⟨i,hi,_,_,ei⟩:=qS (h.pm.mem_iff.mp hx);rw [ei];exact dd _ (by simp)
theorem Rn.turn {u v t:List av} (h:Rn arr0 arr lo n (u++(v++t))) {i j:Nat} (hi:i=lo+u.length) (hj:j=lo+u.length+v.length):Rn arr0 (mirror arr i j ((j-i) / 2)) lo n (u++(v.reverse++t)):=by
 have lp:=h.lp;refine ⟨?_,oy (uf u (tz t (Dd v))) h.pm,h.hn⟩;have e:=sR arr (P:=arr0.toList.take lo++u) (m:=v) (T:=t++arr0.toList.drop (lo+n)) (i:=i) (j:=j) (by rw [h.eq];simp only [eM]) (by rw [du,lp];exact hi) (by rw [du,lp];exact hj);rw [e];simp only [eM]
theorem kCR (W:Wk lb) {m:List av} {x:av} (sr:qT lb m) (h:m.length-1<m.length) (c:le lb m[m.length-1] x):qT lb (m++[x]):=by
 refine dc.mpr ⟨sr,je _ _,λ y hy z hz=>?_⟩;have:z=x:=by simpa using hz
 subst this;obtain ⟨i,hi,rfl⟩:=iR.mp hy;by_cases e:i=m.length-1
 ·subst e;exact c
 ·exact W.trans (oo.mp sr i (m.length-1) hi h (by omega)) c
abbrev AS:=Option (Option Nat)×Nat
def kBA (lo a nrem:Nat):StateT de Sem AS :=
 forIn [a:nrem] ((none,a):AS) λ _ c=>do
  let r <-ltAt' (lo+c.2) (lo+c.2-1)
  match r with
  | some smaller=>if smaller=true then pure (uw (none,c.2)) else pure (gj (none,c.2+1))
  | _=>pure (uw (some none,c.2))
theorem rB (W:Wk lb) (hL:wQ M A E s lb D kd) {st:de} (hk:kindOf st=kd) (dd:∀ x∈arr0.toList,D x) {nrem:Nat} (hn:lo+nrem<=arr0.size) (n1:1<=n) (nn:n<=nrem) (h:Rn arr0 (cm st) lo n m) (sr:qT lb m) {Q:AS->de->Prop}
  (q:∀ k m',n<=k->k<=nrem->Rn arr0 (cm st) lo k m'->qT lb m'->(k=nrem\/∃ (h1:lo+k<arr0.size) (h2:m'.length-1<m'.length),lb arr0[lo+k] m'[m'.length-1]=true)->Q (none,k) st):wpS M A E s (kBA lo n nrem) Q st:=by
 unfold kBA;refine iC (I:=λ x c st'=>st'=st/\c=(none,x)/\∃ m',Rn arr0 (cm st) lo x m'/\qT lb m') ?step ?fin ⟨rfl,rfl,m,h,sr⟩
 case fin =>
  rintro c st' ⟨rfl,rfl,m',h',sr'⟩;rw [show max n nrem=nrem by omega] at h' ⊢;exact q nrem m' nn (ba _) h' sr' (.inl rfl)
 case step =>
  rintro x c st' hx1 hx2 ⟨rfl,rfl,m',h',sr'⟩;dsimp only;have lm:=h'.len;have hz:lo+x<arr0.size:=by omega
  have hl:m'.length-1<m'.length:=by omega
  have al:=h'.at hl;rw [show lo+(m'.length-1)=lo+x-1 by omega] at al;refine bh (uA hL hk (h'.next hz) al (dd _ (by simp)) (h'.dom dd _ (si hl)) ?_)
  cases e:lb arr0[lo+x] m'[m'.length-1]
  case true =>
   simp only [if_true];exact cn (q x m' hx1 (by omega) h' sr' (.inr ⟨hz,hl,e⟩))
  case false =>
   simp only [bj,if_false];exact cn ⟨rfl,rfl,_,h'.more hz,kCR W sr' hl e⟩
end
end Srt
namespace Srt
set_option autoImplicit false
open PySem PyProof.Rows
section
variable {M:qt} {A:dj} {E:af->aj->Prop} {s:aj} {lb:av->av->Bool} {D:av->Prop} {kd:iw}
variable {arr0 arr:Array av} {lo n:Nat} {m:List av}
abbrev DS:=Option (Option Nat)×Nat×Nat
def tG (lo n nrem:Nat):StateT de Sem DS :=
 forIn [n:nrem] ((none,n,0):DS) λ _ c=>do
  let r <-ltAt' (lo+c.2.1) (lo+c.2.1-1)
  match r with
  | some smaller =>
   if smaller=true then
    if c.2.2>0 then do
     reverseSlice' (lo+c.2.1-(c.2.2+1)) (lo+c.2.1)
     pure (gj (none,c.2.1+1,0))
    else pure (gj (none,c.2.1+1,0))
   else do
    let r <-ltAt' (lo+c.2.1-1) (lo+c.2.1)
    match r with
    | some larger=>if larger=true then pure (uw (none,c.2.1,c.2.2)) else pure (gj (none,c.2.1+1,c.2.2+1))
    | _=>pure (uw (some none,c.2.1,c.2.2))
  | _=>pure (uw (some none,c.2.1,c.2.2))
structure Fl (lb:av->av->Bool) (arr0 arr:Array av) (lo n neq:Nat) (u t:List av) (z:av):Prop where
 rn:Rn arr0 arr lo n (u++(t++[z]))
 fal:Fal lb (u++(t++[z]))
 srt:qT lb (t++[z])
 len:t.length=neq
theorem Fl.last {neq:Nat} {u t:List av} {z:av} (h:Fl lb arr0 arr lo n neq u t z) (n0:0<n):arr[lo+n-1]?=some z:=by
 have l:=h.rn.len;rw [du,du,jg] at l;have:=h.rn.at (j:=n-1) (by rw [du,du,jg];omega);rw [show lo+(n-1)=lo+n-1 by omega] at this;rw [this,<-ao,bu (by omega),bu (by omega),show n-1-u.length-t.length=0 by omega]
 rfl
theorem Fl.low (W:Wk lb) {neq:Nat} {u t:List av} {z x:av} (h:Fl lb arr0 arr lo n neq u t z) (c:le lb x z):∀ y∈u++(t++[z]),le lb x y:=λ y hy=>by
 have f:=h.fal;rw [Fal,<-eM] at f;rw [<-eM] at hy;rcases gf.mp hy with w | w
 ·exact W.trans c ((dc.mp f).2.2 y w z (by simp))
 ·have:y=z:=by simpa using w
  rw [this];exact c
theorem aH {l:List av} {x:av} (h:Fal lb l) (c:∀ y∈l,le lb x y):Fal lb (l++[x]):=by
 refine dc.mpr ⟨h,je _ _,λ y hy w hw=>?_⟩;have:w=x:=by simpa using hw
 rw [this];exact c y hy
theorem Fl.turned {neq:Nat} {u t:List av} {z:av} (h:Fl lb arr0 arr lo n neq u t z):Rn arr0 (mirror arr (lo+n-(neq+1)) (lo+n) ((lo+n-(lo+n-(neq+1))) / 2)) lo n (u++(t++[z]).reverse)/\Fal lb (u++(t++[z]).reverse):=by
 have l:=h.rn.len;have ll:=h.len;rw [du,du,jg] at l;refine ⟨?_,h.fal.tail h.srt⟩;have:=Rn.turn (u:=u) (v:=t++[z]) (t:=[]) (by simpa using h.rn) (i:=lo+n-(neq+1)) (j:=lo+n) (by omega) (by rw [du,jg];omega);simpa using this
theorem kDI (W:Wk lb) (hL:wQ M A E s lb D kd) {st:de} (hk:kindOf st=kd) (dd:∀ x∈arr0.toList,D x) {nrem:Nat} (hn:lo+nrem<=arr0.size) (n1:1<=n) (nn:n<=nrem) {u:List av} {z:av} (h:Fl lb arr0 (cm st) lo n 0 u [] z) {Q:DS->de->Prop}
  (q:∀ k neq st' u t z,Sa st st'->n<=k->k<=nrem->Fl lb arr0 (cm st') lo k neq u t z->Q (none,k,neq) st'):wpS M A E s (tG lo n nrem) Q st:=by
 unfold tG;refine iC (I:=λ x c st'=>Sa st st'/\∃ neq u t z,c=(none,x,neq)/\Fl lb arr0 (cm st') lo x neq u t z) ?step ?fin ⟨⟨rfl,rfl,rfl⟩,0,u,[],z,rfl,h⟩
 case fin =>
  rintro c st' ⟨sm,neq,u,t,z,rfl,f⟩;rw [show max n nrem=nrem by omega] at f ⊢;exact q _ _ _ _ _ _ sm nn (ba _) f
 case step =>
  rintro x c st' hx1 hx2 ⟨sm,neq,u,t,z,rfl,f⟩;dsimp only;have hz:lo+x<arr0.size:=by omega
  have dz:D z:=f.rn.dom dd z (by simp);have dx:D arr0[lo+x]:=dd _ (by simp);refine bh (uA hL (sm.1.trans hk) (f.rn.next hz) (f.last (by omega)) dx dz ?_)
  cases e:lb arr0[lo+x] z
  case true =>
   simp only [if_true];have lw:=f.low W (W.of_lt e);by_cases k0:neq>0
   ·rw [if_pos k0,yo]
    obtain ⟨r1,r2⟩:=f.turned;refine bh (jf (cn ⟨sm,0,_,[],_,rfl,⟨r1.more hz,aH r2 λ y hy=>lw y ?_,je _ _,rfl⟩⟩));rcases gf.mp hy with w | w
    ·exact lh _ w
    ·exact eg _ (BY.mp w)
   ·rw [if_neg k0]
    exact cn ⟨sm,0,_,[],_,rfl,⟨f.rn.more hz,aH f.fal lw,je _ _,rfl⟩⟩
  case false =>
   simp only [bj,if_false];refine bh (uA hL (sm.1.trans hk) (f.last (by omega)) (f.rn.next hz) dz dx ?_)
   cases e2:lb z arr0[lo+x]
   case true =>
    simp only [if_true];exact cn (q _ _ _ _ _ _ sm hx1 (by omega) f)
   case false =>
    simp only [bj,if_false];refine cn ⟨sm,neq+1,u,t++[z],arr0[lo+x],rfl,⟨by have:=f.rn.more hz;simpa using this,by have:=aH f.fal (f.low W e2);simpa using this,?_,by rw [du,f.len];rfl⟩⟩;refine kCR W f.srt (by rw [du,jg];omega) ?_;have:(t++[z])[(t++[z]).length-1]'(by rw [du,jg];omega)=z:=by simp
    rw [this];exact e
end
end Srt
namespace Srt
set_option autoImplicit false
open PySem PyProof.Rows
def lX (lo n nrem:Nat):StateT de Sem (Option Nat):=do
 reverseSlice' lo (lo+n)
 let c <-kBA lo n nrem
 match c.1 with
 | some r=>pure r
 | none=>pure (some c.2)
def bT (lo n nrem:Nat):StateT de Sem (Option Nat):=do
 liftM (rule "list.sort.descending-run")
 let c <-tG lo (n+1) nrem
 match c.1 with
 | some r=>pure r
 | none =>
  if c.2.2>0 then do
   reverseSlice' (lo+c.2.1-(c.2.2+1)) (lo+c.2.1)
   lX lo c.2.1 nrem
  else lX lo c.2.1 nrem
theorem gR (lo nrem:Nat):countRun' lo nrem=(do
  let c <-kBA lo 1 nrem
  match c.1 with
  | some r=>pure r
  | none =>
   if (c.2 == nrem)=true then pure (some c.2)
   else if c.2>1 then do
    let r <-ltAt' lo (lo+c.2-1)
    match r with
    | some rose =>
     if rose=true then pure (some c.2)
     else do
      reverseSlice' lo (lo+c.2)
      bT lo c.2 nrem
    | _=>pure none
   else bT lo c.2 nrem):=by
 rw [countRun'_eq];dsimp only;unfold kBA;refine congr (congrArg _ (congrArg _ (funext λ x=>funext λ c=>congrArg _ (funext λ r=>by cases r<;>rfl)))) (funext λ c=>?_);have part:∀ n:Nat,bT lo n nrem=bT lo n nrem:=λ _=>rfl
 cases c.1 with
 | some r=>rfl
 | none =>
  dsimp only;refine ite_congr rfl (λ _=>rfl) (λ _=>ite_congr rfl (λ _=>congrArg _ (funext λ r=>?_)) (λ _=>?_))
  ·cases r with
   | none=>rfl
   | some rose =>
    dsimp only;refine ite_congr rfl (λ _=>rfl) (λ _=>congrArg _ (funext λ _=>?_));unfold bT tG;refine congrArg _ (funext λ _=>congr (congrArg _ (congrArg _ (funext λ x=>funext λ d=>congrArg _ (funext λ r=>?_)))) (funext λ d=>?_))
    ·cases r with
     | none=>rfl
     | some b=>exact ite_congr rfl (λ _=>rfl) (λ _=>congrArg _ (funext λ r=>by cases r<;>rfl))
    ·cases d.1 with
     | some r=>rfl
     | none =>
      unfold lX kBA;refine ite_congr rfl (λ _=>congrArg _ (funext λ _=>?_)) (λ _=>?_)
      all_goals exact congrArg _ (funext λ _=>congr (congrArg _ (congrArg _ (funext λ x=>funext λ c=>congrArg _ (funext λ r=>by cases r<;>rfl)))) (funext λ c=>by cases c.1<;>rfl))
  ·unfold bT tG
   refine congrArg _ (funext λ _=>congr (congrArg _ (congrArg _ (funext λ x=>funext λ d=>congrArg _ (funext λ r=>?_)))) (funext λ d=>?_))
   ·cases r with
    | none=>rfl
    | some b=>exact ite_congr rfl (λ _=>rfl) (λ _=>congrArg _ (funext λ r=>by cases r<;>rfl))
   ·cases d.1 with
    | some r=>rfl
    | none =>
     unfold lX kBA;refine ite_congr rfl (λ _=>congrArg _ (funext λ _=>?_)) (λ _=>?_)
     all_goals exact congrArg _ (funext λ _=>congr (congrArg _ (congrArg _ (funext λ x=>funext λ c=>congrArg _ (funext λ r=>by cases r<;>rfl)))) (funext λ c=>by cases c.1<;>rfl))
section
variable {M:qt} {A:dj} {E:af->aj->Prop} {s:aj} {lb:av->av->Bool} {D:av->Prop} {kd:iw}
variable {arr0 arr:Array av} {lo n:Nat} {m:List av}
theorem lS (W:Wk lb) (hL:wQ M A E s lb D kd) {st:de} (hk:kindOf st=kd) (dd:∀ x∈arr0.toList,D x) {nrem:Nat} (hn:lo+nrem<=arr0.size) (n1:1<=n) (nn:n<=nrem) (h:Rn arr0 (cm st) lo n m) (fa:Fal lb m) {Q:Option Nat->de->Prop}
  (q:∀ k st',Sa st st'->1<=k->k<=nrem->Joined lb arr0 (cm st') lo k->Q (some k) st'):wpS M A E s (lX lo n nrem) Q st:=by
 unfold lX;rw [yo];refine bh (jf ?_);have t:=Rn.turn (u:=[]) (v:=m) (t:=[]) (by simpa using h) (i:=lo) (j:=lo+n) (by simp) (by rw [h.len];simp);simp only [Ah,jq] at t;refine bh (rB (st:=setArr st (mirror (cm st) lo (lo+n) ((lo+n-lo) / 2))) W hL hk dd hn n1 nn t fa.rev λ k m' k1 k2 r' sr' _=>?_);exact cn (q k _ ⟨rfl,rfl,rfl⟩ (by omega) k2 (r'.joined sr'))
theorem lT (W:Wk lb) (hL:wQ M A E s lb D kd) {st:de} (hk:kindOf st=kd) (dd:∀ x∈arr0.toList,D x) {nrem:Nat} (hn:lo+nrem<=arr0.size) (n1:1<=n) (nn:n<nrem) (h:Rn arr0 (cm st) lo n m) (fa:Fal lb m) (hz:lo+n<arr0.size) (lw:∀ y∈m,le lb arr0[lo+n] y) {Q:Option Nat->de->Prop}
  (q:∀ k st',Sa st st'->1<=k->k<=nrem->Joined lb arr0 (cm st') lo k->Q (some k) st'):wpS M A E s (bT lo n nrem) Q st:=by
 unfold bT;refine bh (yP ?_);refine bh (kDI W hL hk dd hn (by omega) (by omega) (u:=m) (z:=arr0[lo+n]) ⟨h.more hz,aH fa lw,je _ _,rfl⟩ λ k neq st' u t z sm k1 k2 f=>?_);dsimp only;have tr:∀ k st2,Sa st' st2->1<=k->k<=nrem->Joined lb arr0 (cm st2) lo k->Q (some k) st2:=λ k st2 s2=>q k st2 ⟨s2.1.trans sm.1,s2.2.1.trans sm.2.1,s2.2.2.trans sm.2.2⟩;by_cases k0:neq>0
 ·rw [if_pos k0,yo]
  obtain ⟨r1,r2⟩:=f.turned;refine bh (jf ?_);exact lS (st:=setArr st' (mirror (cm st') (lo+k-(neq+1)) (lo+k) ((lo+k-(lo+k-(neq+1))) / 2))) W hL (sm.1.trans hk) dd hn (by omega) k2 r1 r2 tr
 ·rw [if_neg k0]
  exact lS W hL (sm.1.trans hk) dd hn (by omega) k2 f.rn f.fal tr
theorem nS (W:Wk lb) (hL:wQ M A E s lb D kd) {st:de} (hk:kindOf st=kd) (dd:∀ x∈(cm st).toList,D x) {nrem:Nat} (hn:lo+nrem<=(cm st).size) (n1:1<=nrem) {Q:Option Nat->de->Prop}
  (q:∀ k st',Sa st st'->1<=k->k<=nrem->Joined lb (cm st) (cm st') lo k->Q (some k) st'):wpS M A E s (countRun' lo nrem) Q st:=by
 rw [gR];have r0:=Rn.start (arr0:=cm st) (lo:=lo) (n:=1) (by omega)
 have s0:qT lb ((cm st).extract lo (lo+1)).toList:=by
  have:=r0.len;generalize ((cm st).extract lo (lo+1)).toList=l at *;exact oO (DQ this)
 refine bh (rB W hL hk dd hn (by omega) n1 r0 s0 λ k m k1 k2 r sr c=>?_);dsimp only;have lm:=r.len;by_cases e:k=nrem
 ·rw [if_pos (by simpa using e)]
  exact cn (q k st ⟨rfl,rfl,rfl⟩ k1 k2 (r.joined sr))
 ·rw [if_neg (by simpa using e)]
  obtain ⟨hz,hl,lt⟩ : ∃ (h1:lo+k<(cm st).size) (h2:m.length-1<m.length),lb (cm st)[lo+k] m[m.length-1]=true:=by
   rcases c with c | c
   ·exact absurd c e
   ·exact c
  by_cases g:k>1
  ·rw [if_pos g]
   have a0:=r.at (j:=0) (by omega);have al:=r.at hl;rw [DZ] at a0;rw [show lo+(m.length-1)=lo+k-1 by omega] at al;refine bh (uA hL hk a0 al (r.dom dd _ (si _)) (r.dom dd _ (si _)) ?_)
   cases e2:lb (m[0]'(by omega)) m[m.length-1]
   case true =>
    simp only [if_true];exact cn (q k st ⟨rfl,rfl,rfl⟩ k1 k2 (r.joined sr))
   case false =>
    simp only [bj,if_false];rw [yo];refine bh (jf ?_);have t:=Rn.turn (u:=[]) (v:=m) (t:=[]) (by simpa using r) (i:=lo) (j:=lo+k) (by simp) (by rw [lm];simp);simp only [Ah,jq] at t;refine lT (st:=setArr st (mirror (cm st) lo (lo+k) ((lo+k-lo) / 2))) W hL hk dd hn k1 (by omega) t (show List.Pairwise _ _ from ye.mpr sr) hz (λ y hy=>?_) λ k' st' sm=>q k' st' sm;obtain ⟨i,hi,rfl⟩:=iR.mp (BY.mp hy)
    have f0:le lb (m[0]'(by omega)) m[i]:=by
     by_cases z:0=i
     ·subst z;exact W.refl _
     ·exact oo.mp sr 0 i (by omega) hi (by omega)
    exact W.trans (W.of_lt lt) (W.trans e2 f0)
  ·rw [if_neg g]
   have k1':k=1:=by omega
   subst k1'
   exact lT W hL hk dd hn (by omega) (by omega) r (oO (by omega)) hz (λ y hy=>by
    obtain ⟨i,hi,rfl⟩:=iR.mp hy;have e3:i=m.length-1:=by omega
    simp only [e3];exact W.of_lt lt) λ k' st' sm=>q k' st' sm
end
end Srt
namespace Srt
set_option autoImplicit false
open PySem PyProof.Rows
abbrev Pn:=Nat×Nat×Nat
def Tiles:List Pn->Nat->Nat->Prop
 | [],a,b=>a=b
 | x::r,a,b=>x.1=a/\0<x.2.1/\Tiles r (a+x.2.1) b
theorem Tiles.le:∀ {l:List Pn} {a b:Nat},Tiles l a b->a<=b
 | [],a,b,h=>by rw [show a=b from h];exact ba _
 | x::r,a,b,h=>by have:=Tiles.le h.2.2;omega
theorem Tiles.app:∀ {l r:List Pn} {a b:Nat},Tiles (l++r) a b↔∃ c,Tiles l a c/\Tiles r c b
 | [],r,a,b=>⟨λ h=>⟨a,rfl,h⟩,λ ⟨c,h1,h2⟩=>by rw [show a=c from h1];exact h2⟩
 | x::l,r,a,b=>by
  constructor
  ·rintro ⟨h1,h2,h3⟩
   obtain ⟨c,h4,h5⟩:=Tiles.app.mp h3;exact ⟨c,⟨h1,h2,h4⟩,h5⟩
  ·rintro ⟨c,⟨h1,h2,h3⟩,h4⟩
   exact ⟨h1,h2,Tiles.app.mpr ⟨c,h3,h4⟩⟩
theorem Tiles.join {l r:List Pn} {a b s n s' n' p p':Nat} (h:Tiles (l++(s,n,p)::(s',n',p')::r) a b):s'=s+n/\0<n/\0<n'/\s+n+n'<=b/\Tiles l a s/\Tiles r (s+n+n') b/\Tiles (l++(s,n+n',p)::r) a b:=by
 obtain ⟨c,h1,h2,h3,h4,h5,h6⟩:=Tiles.app.mp h;have h2:s=c:=h2;have h4:s'=c+n:=h4;have h3:0<n:=h3;have h5:0<n':=h5;have h6:Tiles r (c+n+n') b:=h6;subst h2;refine ⟨h4,h3,h5,h6.le,h1,h6,Tiles.app.mpr ⟨s,h1,rfl,by show 0<n+n';omega,?_⟩⟩;show Tiles r (s+(n+n')) b;rw [<-jm];exact h6
theorem kAF {P:Array Pn} {l r:List Pn} {x y z:Pn} (h:P.toList=l++x::y::r):((P.setIfInBounds l.length z).eraseIdxIfInBounds (l.length+1)).toList=l++z::r:=by
 have sz:P.size=l.length+(r.length+2):=by
  have:=congrArg ph h;simpa using this
 unfold Array.eraseIdxIfInBounds;rw [dif_pos (by rw [BL];omega),Array.toList_eraseIdx,Ag,h];rw [List.set_append_right _ _ (ba _),Dc,List.eraseIdx_append_of_length_le (by omega),show l.length+1-l.length=1 by omega]
 rfl
section
variable {lb:av->av->Bool} {arr arr':Array av} {lo n:Nat}
theorem Joined.low (h:Joined lb arr arr' lo n) (hn:lo+n<=arr.size) {a k:Nat} (c:a+k<=lo):(arr'.extract a (a+k)).toList=(arr.extract a (a+k)).toList:=by
 obtain ⟨m,e,_,pm⟩:=h;have lp:(arr.toList.take lo).length=lo:=by simp;omega
 rw [jM,jM,e,List.drop_append_of_le_length (by omega),zd (by rw [fh];omega),El,Em,ju (by omega)]
theorem Joined.high (h:Joined lb arr arr' lo n) (hn:lo+n<=arr.size) {a k:Nat} (c:lo+n<=a):(arr'.extract a (a+k)).toList=(arr.extract a (a+k)).toList:=by
 obtain ⟨m,e,_,pm⟩:=h
 have l:m.length=n:=by
  rw [pm.length_eq,jM,gw,fh,eI];omega
 have lp:(arr.toList.take lo).length=lo:=by simp;omega
 rw [jM,jM,e,yn,lp,ig (by omega),Ah,yn,ig (by omega),Ah,Af]
 congr 2
 omega
theorem Joined.here (h:Joined lb arr arr' lo n) (hn:lo+n<=arr.size):qT lb (arr'.extract lo (lo+n)).toList:=by
 obtain ⟨m,e,sr,pm⟩:=h
 have l:m.length=n:=by
  rw [pm.length_eq,jM,gw,fh,eI];omega
 have lp:(arr.toList.take lo).length=lo:=by simp;omega
 rw [jM,e,yn,lp,ig (by omega),Ah,Dc,CK,zd (by omega),fb (by omega)];exact sr
theorem Joined.perm (h:Joined lb arr arr' lo n) (hn:lo+n<=arr.size):arr'.toList.Perm arr.toList:=by
 obtain ⟨m,e,sr,pm⟩:=h;rw [e];exact (uf _ (pm.append_right _)).trans (List.Perm.of_eq (zK hn).symm)
end
end Srt
namespace Srt
set_option autoImplicit false
open PySem PyProof.Rows
section
variable {M:qt} {A:dj} {E:af->aj->Prop} {s:aj} {lb:av->av->Bool} {D:av->Prop} {kd:iw}
structure SI (lb:av->av->Bool) (kd:iw) (a0:Array av) (st:de) (lo:Nat):Prop where
 kind:kindOf st=kd
 failed:qb st=none
 perm:(cm st).toList.Perm a0.toList
 tiles:Tiles (ck st).toList 0 lo
 top:lo<=a0.size
 runs:∀ x∈(ck st).toList,qT lb ((cm st).extract x.1 (x.1+x.2.1)).toList
theorem SI.size {a0:Array av} {st:de} {lo:Nat} (h:SI lb kd a0 st lo):(cm st).size=a0.size:=by simpa using h.perm.length_eq
theorem Tiles.in:∀ {l:List Pn} {a b:Nat},Tiles l a b->∀ x∈l,a<=x.1/\x.1+x.2.1<=b
 | y::l,a,b,h,x,hx=>by
  rcases gu.mp hx with rfl | z
  ·have:=h.2.2.le
   have:=h.1;omega
  ·have:=Tiles.in h.2.2 x z
   omega
theorem vM (W:Wk lb) (hL:wQ M A E s lb D kd) {a0:Array av} (dd:∀ x∈a0.toList,D x) {st:de} {lo:Nat} (h:SI lb kd a0 st lo) {i:Nat} (hi:i+1<(ck st).size) {Q:Bool->de->Prop}
  (q:∀ st',SI lb kd a0 st' lo->(ck st').size+1=(ck st).size->(∀ a k,lo<=a->((cm st').extract a (a+k)).toList=((cm st).extract a (a+k)).toList)->Q true st'):wpS M A E s (mergeAt' i) Q st:=by
 have sp:(ck st).toList=(ck st).toList.take i++(ck st)[i]::(ck st)[i+1]::(ck st).toList.drop (i+2):=by
  conv=>lhs;rw [<-iT i (ck st).toList]
  rw [jP (show i<(ck st).size by omega),jP hi]
  rfl
 have li:((ck st).toList.take i).length=i:=by simp;omega
 have e1:=getElem?_pos (ck st) i (by omega);have e2:=getElem?_pos (ck st) (i+1) hi;have r1:=h.runs _ (by simp:(ck st)[i]∈(ck st).toList);have r2:=h.runs _ (by simp:(ck st)[i+1]∈(ck st).toList);have ti:=h.tiles;have ru:=h.runs;rw [sp] at ti ru;generalize hx:(ck st)[i]=x at *;generalize hy:(ck st)[i+1]=y at *;obtain ⟨sa,na,pa⟩:=x;obtain ⟨sb,nb,pb⟩:=y;obtain ⟨eb,na0,nb0,le,tl,tr,tj⟩:=ti.join;subst eb;have top:=h.top;have sz:=h.size;refine rA W hL h.kind h.failed (λ x hx=>dd x (h.perm.mem_iff.mp hx)) e1 e2 na0 nb0 (by omega) r1 r2 λ st' k' f' p' j'=>?_;have hn:sa+(na+nb)<=(cm st).size:=by omega
 have pl:(ck st').toList=(ck st).toList.take i++(sa,na+nb,pa)::(ck st).toList.drop (i+2):=by
  have:=kAF (z:=(sa,na+nb,pa)) sp;rw [li] at this;rw [p',this]
 refine q st' ⟨k',f',(j'.perm hn).trans h.perm,by rw [pl];exact tj,top,λ z hz=>?_⟩ ?_ (λ a k hak=>j'.high hn (by omega))
 ·rw [pl] at hz
  rcases gf.mp hz with w | w
  ·have:=tl.in z w
   rw [j'.low hn (by omega)];exact ru z (lh _ w)
  ·rcases gu.mp w with rfl | w
   ·exact j'.here hn
   ·have:=tr.in z w
    rw [j'.high hn (by omega)];exact ru z (eg _ (eY _ (eY _ w)))
 ·have l1:=congrArg ph pl
  have l2:=congrArg ph sp;simp only [eI,du,gy] at l1 l2;omega
end
end Srt
namespace Srt
set_option autoImplicit false
open PySem PyProof.Rows
theorem Tiles.snoc {l:List Pn} {a b:Nat} {x:Pn} (h:Tiles l a b) (e:x.1=b) (n:0<x.2.1):Tiles (l++[x]) a (b+x.2.1) :=
 Tiles.app.mpr ⟨b,h,e,n,rfl⟩
theorem Tiles.repl:∀ {l:List Pn} {a b:Nat} (k:Nat) (f:Pn->Pn),(∀ x,(f x).1=x.1/\(f x).2.1=x.2.1)->Tiles l a b->Tiles (l.modify k f) a b
 | [],a,b,k,f,hf,h=>by simpa using h
 | x::r,a,b,0,f,hf,h=>by
  obtain ⟨h1,h2,h3⟩:=h;have:=hf x;rw [List.modify_zero_cons];exact ⟨this.1.trans h1,by rw [this.2];exact h2,by rw [this.2];exact h3⟩
 | x::r,a,b,k+1,f,hf,h=>by
  obtain ⟨h1,h2,h3⟩:=h;rw [List.modify_succ_cons];exact ⟨h1,h2,Tiles.repl k f hf h3⟩
theorem kKI {l:List Pn} {k:Nat} {f:Pn->Pn} {x:Pn} (h:x∈l.modify k f):∃ y∈l,x=y\/x=f y:=by
 obtain ⟨i,hi,rfl⟩:=iR.mp h;rw [List.getElem_modify];have hi':i<l.length:=by simpa using hi
 split
 ·exact ⟨l[i],si _,.inr rfl⟩
 ·exact ⟨l[i],si _,.inl rfl⟩
theorem Tiles.one:∀ {l:List Pn} {a b:Nat},Tiles l a b->a<b->l.length<=1->∃ p,l=[(a,b-a,p)]
 | [],a,b,h,c,_=>by have:a=b:=h;omega
 | [(s,n,p)],a,b,h,c,_=>by
  obtain ⟨h1,h2,h3⟩:=h;have h1:s=a:=h1;have h3:a+n=b:=h3;refine ⟨p,?_⟩;rw [h1,show n=b-a by omega]
 | _::_::_,a,b,h,c,z=>by simp at z
section
variable {M:qt} {A:dj} {E:af->aj->Prop} {s:aj} {lb:av->av->Bool} {D:av->Prop} {kd:iw}
theorem SI.len {a0:Array av} {st:de} {lo:Nat} (h:SI lb kd a0 st lo):(ck st).size<=lo:=by
 have:∀ (l:List Pn) (a b:Nat),Tiles l a b->a+l.length<=b:=by
  intro l
  induction l with
  | nil=>intro a b h;rw [show a=b from h];simp
  | cons x r ih =>
   intro a b h;have:=ih _ _ h.2.2;have:=h.2.1;rw [gy];omega
 have:=this _ _ _ h.tiles;simpa using this
theorem SI.push {a0:Array av} {st:de} {lo n:Nat} (h:SI lb kd a0 st lo) (n0:0<n) (hn:lo+n<=a0.size) (sr:qT lb ((cm st).extract lo (lo+n)).toList) :
  SI lb kd a0 (setPending st ((ck st).push (lo,n,0))) (lo+n):=by
 refine ⟨h.kind,h.failed,h.perm,?_,hn,?_⟩
 ·show Tiles ((ck st).push (lo,n,0)).toList 0 (lo+n)
  rw [qf];exact h.tiles.snoc rfl n0
 ·intro x hx
  have hx:x∈((ck st).push (lo,n,0)).toList:=hx;rw [qf] at hx;rcases gf.mp hx with z | z
  ·exact h.runs x z
  ·have:x=(lo,n,0):=by simpa using z
   rw [this];exact sr
theorem SI.mod {a0:Array av} {st:de} {lo:Nat} (h:SI lb kd a0 st lo) (k pw:Nat):SI lb kd a0 (setPending st ((ck st).modify k λ (x:Pn)=>(x.1,x.2.1,pw))) lo:=by
 refine ⟨h.kind,h.failed,h.perm,?_,h.top,?_⟩
 ·show Tiles ((ck st).modify k _).toList 0 lo
  rw [Cc];exact Tiles.repl k _ (λ x=>⟨rfl,rfl⟩) h.tiles
 ·intro x hx
  have hx:x∈((ck st).modify k λ (x:Pn)=>(x.1,x.2.1,pw)).toList:=hx;rw [Cc] at hx;obtain ⟨y,hy,e⟩:=kKI hx;have r:=h.runs y hy;rcases e with rfl | rfl
  ·exact r
  ·exact r
theorem SI.tail {a0:Array av} {st st':de} {lo n:Nat} (h:SI lb kd a0 st lo) (sa:Sa st st') (hn:lo+n<=a0.size) (j:Joined lb (cm st) (cm st') lo n):SI lb kd a0 st' lo:=by
 have sz:=h.size;refine ⟨sa.1.trans h.kind,sa.2.2.trans h.failed,(j.perm (by omega)).trans h.perm,by rw [sa.2.1];exact h.tiles,h.top,λ x hx=>?_⟩;rw [sa.2.1] at hx;have:=h.tiles.in x hx;rw [j.low (by omega) (by omega)];exact h.runs x hx
end
end Srt
namespace Srt
set_option autoImplicit false
open PySem PyProof.Rows
section
variable {M:qt} {A:dj} {E:af->aj->Prop} {s:aj} {lb:av->av->Bool} {D:av->Prop} {kd:iw}
theorem pX (W:Wk lb) (hL:wQ M A E s lb D kd) {st:de} (hk:kindOf st=kd) (hf:qb st=none) (hp:ck st = #[]) (dd:∀ x∈(cm st).toList,D x) {Q:Unit->de->Prop}
  (h:∀ st',(cm st').toList.Perm (cm st).toList->qb st'=none->qT lb (cm st').toList->Q () st'):wpS M A E s sortRuns' Q st:=by
 rw [sortRuns'_eq];refine bh (xq ?_);dsimp only;generalize hsz:(cm st).size=size;generalize hmr:minRun' size size 0=mr
 refine bh (qa (iC
  (I:=λ x c st'=>∃ lo,c=(none,lo)/\SI lb kd (cm st) st' lo/\(x<=lo\/lo=size))
  (Q:=λ c st'=>c=(none,size)/\SI lb kd (cm st) st' size) ?step ?fin ⟨0,rfl,⟨hk,hf,xp _,by rw [hp];rfl,iA _,by rw [hp];simp⟩,.inl (ba _)⟩) ?post)
 case fin =>
  rintro c st' ⟨lo,rfl,hI,hx⟩
  have:lo=size:=by
   rcases hx with hx | hx
   ·have:=hI.top;omega
   ·exact hx
  subst this;exact ⟨rfl,hI⟩
 case step =>
  rintro x c st' _ hx ⟨lo,rfl,hI,hx'⟩;dsimp only;have top:=hI.top;have sz':=hI.size;by_cases hge:lo >= size
  ·rw [if_pos hge]
   have:lo=size:=by omega
   subst this;exact cn ⟨rfl,hI⟩
  rw [if_neg hge];have dd':∀ {st2:de},SI lb kd (cm st) st2 lo->∀ x∈(cm st2).toList,D x:=λ h x hx=>dd x (h.perm.mem_iff.mp hx);refine bh (nS W hL hI.kind (dd' hI) (by omega) (by omega) λ m st2 sa2 m1 m2 j2=>?_);dsimp only;have hI2:=hI.tail sa2 (by omega) j2;have sr2:=j2.here (by omega);have sz2:=hI2.size;have bin:∀ n,n=min (size-lo) mr->m<mr->m<=n/\0<n/\lo+n<=size:=λ n e h=>by omega
  by_cases hlt:m<mr
  ·rw [if_pos hlt]
   refine bh (yP ?_);generalize hn:min (size-lo) mr=n;obtain ⟨mn,n0,hnl⟩:=bin n hn.symm hlt;refine bh (tL W hL hI2.kind (dd' hI2) mn (by omega) sr2 λ st3 sa3 j3=>?_);simp only [jl,bj,if_false];have hI3:=hI2.tail sa3 (by omega) j3;have sr3:=j3.here (by omega);clear sr2 hI2 j2 sa2 j3 sa3 sz2 m1 m2 mn hlt hn bin;clear m st2;refine bh (xq ?_)
   cases hb:(ck st3).back? with
   | none =>
    dsimp only;exact bh (jf (cn ⟨lo+n,rfl,hI3.push n0 (by omega) sr3,by omega⟩))
   | some z =>
    obtain ⟨s1,n1,z1⟩:=z;dsimp only;generalize power' size (2*s1+n1) (2*s1+n1+n1+n) size=pw
    refine bh (qa (iC (I:=λ _ c st'=>c=(none,())/\SI lb kd (cm st) st' lo/\qT lb ((cm st').extract lo (lo+n)).toList)
     (Q:=λ c st'=>c=(none,())/\SI lb kd (cm st) st' lo/\qT lb ((cm st').extract lo (lo+n)).toList) ?_ (λ _ _ hh=>hh) ⟨rfl,hI3,sr3⟩) ?_)
    ·rintro y c st4 _ hy ⟨rfl,hI4,sr4⟩
     refine bh (xq ?_);by_cases h1:(ck st4).size>1
     ·rw [if_pos h1,getElem?_pos (ck st4) ((ck st4).size-2) (by omega)]
      generalize (ck st4)[(ck st4).size-2]'(by omega)=zz;obtain ⟨y1,y2,y3⟩:=zz;dsimp only;by_cases h2:y3<=pw
      ·rw [if_pos h2]
       exact cn ⟨rfl,hI4,sr4⟩
      ·rw [if_neg h2]
       refine bh (vM W hL dd hI4 (by omega) λ st5 hI5 h5 e5=>?_);simp only [jl,bj,if_false];exact cn ⟨rfl,hI5,by rw [e5 _ _ (ba _)];exact sr4⟩
     ·rw [if_neg h1]
      exact cn ⟨rfl,hI4,sr4⟩
    ·rintro c st4 ⟨rfl,hI4,sr4⟩
     dsimp only;refine bh (jf ?_);have hI5:=hI4.mod ((ck st4).size-1) pw;exact bh (jf (cn ⟨lo+n,rfl,hI5.push n0 (by omega) sr4,by omega⟩))
  ·rw [if_neg hlt]
   have hnl:lo+m<=size:=by omega
   have n0:0<m:=by omega
   clear bin hlt m2 m1 j2 sz2 sa2;refine bh (xq ?_)
   cases hb:(ck st2).back? with
   | none =>
    dsimp only;exact bh (jf (cn ⟨lo+m,rfl,hI2.push n0 (by omega) sr2,by omega⟩))
   | some z =>
    obtain ⟨s1,n1,z1⟩:=z;dsimp only;generalize power' size (2*s1+n1) (2*s1+n1+n1+m) size=pw
    refine bh (qa (iC (I:=λ _ c st'=>c=(none,())/\SI lb kd (cm st) st' lo/\qT lb ((cm st').extract lo (lo+m)).toList)
     (Q:=λ c st'=>c=(none,())/\SI lb kd (cm st) st' lo/\qT lb ((cm st').extract lo (lo+m)).toList) ?_ (λ _ _ hh=>hh) ⟨rfl,hI2,sr2⟩) ?_)
    ·rintro y c st4 _ hy ⟨rfl,hI4,sr4⟩
     refine bh (xq ?_);by_cases h1:(ck st4).size>1
     ·rw [if_pos h1,getElem?_pos (ck st4) ((ck st4).size-2) (by omega)]
      generalize (ck st4)[(ck st4).size-2]'(by omega)=zz;obtain ⟨y1,y2,y3⟩:=zz;dsimp only;by_cases h2:y3<=pw
      ·rw [if_pos h2]
       exact cn ⟨rfl,hI4,sr4⟩
      ·rw [if_neg h2]
       refine bh (vM W hL dd hI4 (by omega) λ st5 hI5 h5 e5=>?_);simp only [jl,bj,if_false];exact cn ⟨rfl,hI5,by rw [e5 _ _ (ba _)];exact sr4⟩
     ·rw [if_neg h1]
      exact cn ⟨rfl,hI4,sr4⟩
    ·rintro c st4 ⟨rfl,hI4,sr4⟩
     dsimp only;refine bh (jf ?_);have hI5:=hI4.mod ((ck st4).size-1) pw;exact bh (jf (cn ⟨lo+m,rfl,hI5.push n0 (by omega) sr4,by omega⟩))
 case post =>
  rintro c st' ⟨rfl,hI⟩;dsimp only
  have fin:∀ st',SI lb kd (cm st) st' size->(ck st').size<=1->Q () st':=λ st' hI hl=>by
   refine h st' hI.perm hI.failed ?_;by_cases z:0<size
   ·obtain ⟨p,e⟩:=hI.tiles.one z (by simpa using hl)
    have r:=hI.runs (0,size-0,p) (by rw [e];simp);have r:qT lb ((cm st').extract 0 (0+(size-0))).toList:=r;have e1:=hI.size;rw [show 0+(size-0)=(cm st').size by omega,Array.extract_size] at r;exact r
   ·have:(cm st').toList=[]:=wx.mp (by rw [eI];have:=hI.size;omega)
    rw [this];exact Ay
  refine bh (qa (iC (I:=λ x c st'=>c=(none,())/\SI lb kd (cm st) st' size/\(ck st').size+x<=max (size+1) (1+x))
   (Q:=λ c st'=>c=(none,())/\SI lb kd (cm st) st' size/\(ck st').size<=1) ?_ ?_ ⟨rfl,hI,by have:=hI.len;omega⟩) ?_)
  ·rintro x c st' _ hx ⟨rfl,hI,hb⟩
   refine bh (xq ?_);by_cases h1:(ck st').size<=1
   ·rw [if_pos h1]
    exact cn ⟨rfl,hI,h1⟩
   rw [if_neg h1];have hg:∀ b:Bool,(if b=true then (ck st').size-2-1 else (ck st').size-2)+1<(ck st').size:=λ b=>by split<;>omega
   replace hg:=hg (Option.any (λ x=>decide (x<((ck st')[(ck st').size-2+1]?.elim 0 λ x=>x.snd.fst))) (if (ck st').size-2>0 then Eo (λ x=>x.snd.fst) (ck st')[(ck st').size-2-1]? else none))
   generalize (if (if (ck st').size-2>0 then Eo (λ x=>x.snd.fst) (ck st')[(ck st').size-2-1]? else none).any _=true then (ck st').size-2-1 else (ck st').size-2)=i at hg ⊢;refine bh (vM W hL dd hI hg λ st2 hI2 h2 _=>?_);simp only [jl,bj,if_false];exact cn ⟨rfl,hI2,by omega⟩
  ·rintro c st' ⟨rfl,hI,hb⟩
   exact ⟨rfl,hI,by omega⟩
  ·rintro c st' ⟨rfl,hI,hb⟩
   exact cn (fin _ hI hb)
end
end Srt
namespace Srt
set_option autoImplicit false
open PySem PySem.W PyProof.Rows
def lexLt:List Int->List Int->Bool
 | [],[]=>false
 | [],_::_=>true
 | _::_,[]=>false
 | a::x,b::y=>if a=b then lexLt x y else decide (a<b)
theorem kCP:∀ x,lexLt x x=false
 | []=>rfl
 | a::x=>by rw [lexLt,if_pos rfl];exact kCP x
theorem kHT:∀ x y z,lexLt x y=true->lexLt y z=true->lexLt x z=true
 | [],[],_,h,_=>nomatch h
 | [],_::_,[],_,h=>nomatch h
 | [],_::_,_::_,_,_=>rfl
 | _::_,[],_,h,_=>nomatch h
 | _::_,_::_,[],_,h=>nomatch h
 | a::x,b::y,c::z,h,k=>by
  rw [lexLt] at *;by_cases e:a=b
  ·subst e
   rw [if_pos rfl] at h;by_cases e2:a=c
   ·subst e2
    rw [if_pos rfl] at k ⊢;exact kHT x y z h k
   ·rw [if_neg e2] at k ⊢
    exact k
  ·rw [if_neg e] at h
   by_cases e2:b=c
   ·subst e2
    rw [if_neg e];exact h
   ·rw [if_neg e2] at k
    have h:=of_decide_eq_true h;have k:=of_decide_eq_true k;rw [if_neg (by omega)];exact decide_eq_true (by omega)
theorem kCO:∀ x y z,lexLt x z=true->lexLt x y=true\/lexLt y z=true
 | [],[],z,h=>.inr h
 | [],_::_,z,h=>.inl rfl
 | _::_,_,[],h=>nomatch h
 | _::_,[],_::_,h=>.inr rfl
 | a::x,b::y,c::z,h=>by
  rw [lexLt] at *;by_cases e:a=c
  ·subst e
   rw [if_pos rfl] at h;by_cases e2:a=b
   ·subst e2
    rw [if_pos rfl,lexLt,if_pos rfl];exact kCO x y z h
   ·rw [if_neg e2,lexLt,if_neg (λ q=>e2 q.symm)]
    by_cases l:a<b
    ·exact .inl (decide_eq_true l)
    ·exact .inr (decide_eq_true (by omega))
  ·rw [if_neg e] at h
   have h:=of_decide_eq_true h;by_cases e2:a=b
   ·subst e2
    rw [lexLt,if_neg e];exact .inr (decide_eq_true h)
   ·rw [if_neg e2]
    by_cases l:a<b
    ·exact .inl (decide_eq_true l)
    ·rw [lexLt,if_neg (by omega)]
     exact .inr (decide_eq_true (by omega))
def keyOf (h:eH):af->List Int
 | .ref a=>match h.get? a with
  | some o=>match o.data with
   | .seq xs _=>xs.toList.map numOf
   | _=>[]
  | none=>[]
 | _=>[]
def lbT (h:eH) (x y:av):Bool:=lexLt (keyOf h x.1) (keyOf h y.1)
theorem kNU (h:eH):Wk (lbT h):=⟨λ a=>kCP _,λ a b c=>kCO _ _ _,λ a b c=>kHT _ _ _⟩
def TupI (h:eH) (v:af):Prop:=∃ a o xs n,v=.ref a/\h.get? a=some o/\o.cls=.type "tuple"/\o.data=.seq xs n/\(∀ u∈xs.toList,∃ k t,u=.int k t)/\0<xs.size
theorem TupI.kept {h h':eH} {v:af} (x:TupI h v) (k:∀ a o,o.cls=.type "tuple"->h.get? a=some o->h'.get? a=some o):TupI h' v/\keyOf h' v=keyOf h v:=by
 obtain ⟨a,o,xs,n,rfl,ho,hc,hd,hi,hz⟩:=x;refine ⟨⟨a,o,xs,n,rfl,k _ _ hc ho,hc,hd,hi,hz⟩,?_⟩;unfold keyOf;simp only [ho,k _ _ hc ho]
theorem TupI.key {h:eH} {a:ag} {o:Obj} {xs:Array af} {n:Nat} (ho:h.get? a=some o) (hd:o.data=.seq xs n):keyOf h (.ref a)=xs.toList.map numOf:=by
 unfold keyOf;simp only [ho,hd]
section
variable {prog:cw} {w:eK} {A:dj} {E:af->aj->Prop} {s:aj}
theorem sV {Q:Bool->aj->Prop}:∀ (xs ys:List af) (i:Nat),(∀ u∈xs,∃ k t,u=mq k t)->(∀ u∈ys,∃ k t,u=mq k t)->Q (lexLt (xs.map numOf) (ys.map numOf)) s->KatLex prog w A true (decide (xs.length<ys.length)) Q (xs.zip ys) i s
 | [],[],i,_,_,h=>by exact h
 | [],_::_,i,_,_,h=>by exact h
 | _::_,[],i,_,_,h=>by exact h
 | x::xs,y::ys,i,hx,hy,h=>by
  obtain ⟨a,t,rfl⟩:=hx x (fe ..);obtain ⟨b,u,rfl⟩:=hy y (fe ..);rw [wk,show decide ((mq a t::xs).length<(mq b u::ys).length)=decide (xs.length<ys.length) by simp];refine kat_cons (Dk ?_);have h:Q (if a=b then lexLt (xs.map numOf) (ys.map numOf) else decide (a<b)) s:=h;by_cases e:a=b
  ·rw [if_pos e] at h
   rw [beq_iff_eq.mpr e];exact kat_yes (sV xs ys (i+1) (λ u hu=>hx u (eY _ hu)) (λ u hu=>hy u (eY _ hu)) h)
  ·rw [if_neg e] at h
   rw [beq_eq_false_iff_ne.mpr e];refine kat_no ?_;rw [ud]
   cases i == 0 with
   | true=>exact oneLt_int h
   | false=>exact kat_one _ _ (CZ h)
theorem kEI:wQ (model prog w) A E s (lbT s.heap) (λ x=>TupI s.heap x.1) (tuples' true):=by
 intro x y hx hy st Q hk q;obtain ⟨a,oa,xs,n,ea,ha,ca,da,ia,za⟩:=hx;obtain ⟨b,ob,ys,m,eb,hb,cb,db,ib,zb⟩:=hy;rw [lt'_eq];refine bh (xq ?_);rw [hk]
 have q:Q (some (lexLt (xs.toList.map numOf) (ys.toList.map numOf))) st:=by
  have:lbT s.heap x y=lexLt (xs.toList.map numOf) (ys.toList.map numOf):=by
   unfold lbT;rw [ea,eb,TupI.key ha da,TupI.key hb db]
  rw [<-this];exact q
 rw [ea,eb];refine bh (wpS_lift (Co (kat_lt ha da hb db ?_)))
 have:=sV (prog:=prog) (w:=w) (A:=A) (s:=s) (Q:=λ b s'=>s'=s/\wpS (model prog w) A E s (match (Except.ok b:Except af Bool) with
  | .ok b=>pure (some b)
  | .error e=>do
   modify (λ s=>Bn (kindOf s) (cm s) (ck s) (gallopOf s) (some e))
   pure none) Q st) xs.toList ys.toList 0 ia ib ⟨rfl,cn q⟩
 simpa using this
end
end Srt
namespace Fc
open Cyc Tri Rnd
section
variable {α:Type} {le:α->α->Bool}
theorem wF (anti:∀ a b,le a b=true->le b a=true->a=b):∀ {l m:List α},l.Perm m->l.Pairwise (λ a b=>le a b=true)->m.Pairwise (λ a b=>le a b=true)->l=m
 | [],m,p,_,_=>(yu.mp p).symm
 | a::l,m,p,hl,hm=>by
  match m,p,hm with
  | [],p,_=>exact absurd p.length_eq (by simp)
  | b::m,p,hm =>
   have hl':=Ai.mp hl;have hm':=Ai.mp hm
   have e:a=b:=by
    rcases gu.mp (p.mem_iff.mp (fe ..)) with z | z
    ·exact z
    ·rcases gu.mp (p.mem_iff.mpr (fe ..)) with y | y
     ·exact y.symm
     ·exact anti a b (hl'.1 b y) (hm'.1 a z)
   subst e;rw [wF anti (List.Perm.cons_inv p) hl'.2 hm'.2]
theorem kJE (tr:∀ a b c,le a b=true->le b c=true->le a c=true) (tot:∀ a b,(le a b || le b a)=true) (anti:∀ a b,le a b=true->le b a=true->a=b) {l m:List α} (p:l.Perm m) (h:l.Pairwise (λ a b=>le a b=true)):l=m.mergeSort le :=
 wF anti (p.trans (Ce m le).symm) h (BZ tr tot m)
end
def leP (a b:Nat×Nat):Bool:=decide (a.1<b.1\/a.1=b.1/\a.2<=b.2)
theorem yI {a b:Nat×Nat}:leP a b=true↔a.1<b.1\/a.1=b.1/\a.2<=b.2:=decide_eq_true_iff
def sortP (T:List (Nat×Nat)):List (Nat×Nat):=T.mergeSort leP
theorem sortP_is {l m:List (Nat×Nat)} (p:l.Perm m) (h:l.Pairwise (λ a b=>leP a b=true)):l=sortP m :=
 kJE (λ a b c h k=>by rw [yI] at *;omega) (λ a b=>by
  rw [zw,yI,yI];omega) (λ a b h k=>by
  rw [yI] at h k;exact Ec (by omega) (by omega)) p h
theorem sortP_perm (T:List (Nat×Nat)):(sortP T).Perm T:=Ce T leP
theorem sortP_sorted (T:List (Nat×Nat)):(sortP T).Pairwise (λ a b=>leP a b=true):=BZ (λ a b c h k=>by rw [yI] at *;omega) (λ a b=>by
  rw [zw,yI,yI];omega) T
theorem sortP_of_perm {l m:List (Nat×Nat)} (p:l.Perm m):sortP l=sortP m:=sortP_is ((sortP_perm l).trans p) (sortP_sorted l)
def zl (l:List Nat):List Int:=l.map λ n:Nat=>(n:Int)
def leL (a b:List Nat):Bool:=!Srt.lexLt (zl b) (zl a)
theorem leL_iff {a b:List Nat}:leL a b=true↔Srt.lexLt (zl b) (zl a)=false:=by
 unfold leL
 cases Srt.lexLt (zl b) (zl a)<;>simp
theorem leP_leL (a b:Nat×Nat):leL [a.1,a.2] [b.1,b.2]=leP a b:=by
 rw [iH,leL_iff,yI];show Srt.lexLt [(b.1:Int),(b.2:Int)] [(a.1:Int),(a.2:Int)]=false↔_;unfold Srt.lexLt;by_cases e:(b.1:Int)=a.1
 ·rw [if_pos e]
  unfold Srt.lexLt;by_cases f:(b.2:Int)=a.2
  ·rw [if_pos f]
   exact ⟨λ _=>by omega,λ _=>rfl⟩
  ·rw [if_neg f]
   rw [decide_eq_false_iff_not];omega
 ·rw [if_neg e]
  rw [decide_eq_false_iff_not];omega
def stepsS (W:Rows):List (Nat×Nat):=sortP (qU W)
def tiesS (W:Rows):List (Nat×Nat):=(stepsS W).filter λ t=>decide (t.1<t.2)
theorem mem_stepsS {W:Rows} {t:Nat×Nat}:t∈stepsS W↔E W t.1 t.2:=by
 unfold stepsS;rw [(sortP_perm _).mem_iff];exact bA
end Fc
namespace Srt
set_option autoImplicit false
open PySem PySem.W PyProof.Rows
def kLB (lb:av->av->Bool) (l:List af):Prop:=l.Pairwise λ u v=>le lb (u,u) (v,v)
theorem kNK {lb:av->av->Bool} {vs:List af} {l:List av} (p:l.Perm (vs.zip vs)) (sr:qT lb l):(l.map (·.2)).Perm vs/\kLB lb (l.map (·.2)):=by
 have same:∀ x∈l,x=(x.2,x.2):=λ x hx=>by
  have:=(mem_zip_self (p.mem_iff.mp hx)).1;obtain ⟨a,b⟩:=x;have:a=b:=this;rw [this]
 refine ⟨?_,?_⟩
 ·have:=p.map (λ x:av=>x.2)
  rwa [show (vs.zip vs).map (λ x:av=>x.2)=vs from EC (ba _)] at this
 ·refine xt.mpr (sr.imp_of_mem λ {x y} hx hy h=>?_)
  rw [<-same x hx,<-same y hy];exact h
section
variable {prog:cw} {w:eK} {A:dj} {E:af->aj->Prop} {s:aj}
theorem kGF {lb:av->av->Bool} {D:av->Prop} {kd:iw} (W:Wk lb) {a:ag} {vs:List af} {n:Nat} {P:uc->aj->Prop} (ho:s.heap.get? a=some (seqObj "list" vs.toArray n)) (hz:vs.length<=sizeLine)
  (hkk:2<=vs.length->∀ (h6:eH),(∀ b o,o.cls≠.type "list"->s.heap.get? b=some o->h6.get? b=some o)->∀ Q:iw->aj->Prop,Q kd { s with heap:=h6 }->br (model prog w) A (keyKind' vs.toArray) Q E { s with heap:=h6 })
  (hL:∀ (h6:eH),(∀ b o,o.cls≠.type "list"->s.heap.get? b=some o->h6.get? b=some o)->wQ (model prog w) A E { s with heap:=h6 } lb D kd) (dd:∀ v∈vs,D (v,v))
  (h:∀ out:List af,out.Perm vs->kLB lb out->P (.done (.ret .none)) { s with heap:=sortedHeap s.heap a vs out.toArray }) :
  br (model prog w) A (wb.«list.sort» ⟨[.ref a],[]⟩) P E s:=by
 rw [list_sort_plain];have ha:a<s.heap.objs.size:=bf ho;refine aa (De ho rfl (aa (BM ho rfl ?_ (by simpa using hz) (iA _))));obtain ⟨e1,ho1⟩ : ∃ e1,(s.heap.update a (qk λ _=>#[])).get? a=some (seqObj "list" #[] e1):=⟨_,AA ho (λ _=>#[])⟩;refine aa (EO ho1 rfl (aa (wpAny_newTuple (aa (Cp (eQ ?_) (iA _))) (by simpa using hz))));generalize eG:((s.heap.update a (qk λ _=>#[])).push (seqObj "tuple" vs.toArray 0)).push (seqObj "list" #[] 0)=G
 have hoG:G.get? a=some (seqObj "list" #[] e1):=by
  rw [<-eG];exact ak _ (ak _ ho1)
 have kG:∀ b o,o.cls≠.type "list"->s.heap.get? b=some o->G.get? b=some o:=λ b o hc e=>by
  have hb:b≠a:=λ q=>by
   subst q;rw [ho] at e;exact hc (by cases e;rfl)
  rw [<-eG];refine ak _ (ak _ ?_);rw [lj _ _ _ _ hb];exact e
 have heap:∀ out:List af,sortedHeap s.heap a vs out.toArray=G.update a (qk λ _=>out.toArray):=λ out=>by rw [<-eG];rfl
 have eS:∀ X Y:Sem uc,X=Y->br (model prog w) A X P E { s with heap:=G }->br (model prog w) A Y P E { s with heap:=G }:=λ X Y e h=>e ▸ h
 have fin:∀ st':de,qb st'=none->(cm st').toList.Perm (vs.zip vs)->qT lb (cm st').toList ->
   P (.done (.ret .none)) { s with heap:=G.update a (qk λ _=>(cm st').map (·.2)) }:=λ st' _ pm sr=>by
  have:=kNK pm sr;have q:=h _ this.1 this.2;rw [heap] at q;rw [show (cm st').map (·.2)=((cm st').toList.map (·.2)).toArray by rw [<-Array.toList_map]];exact q
 have szP:∀ {st':de},(cm st').toList.Perm (vs.zip vs)->((cm st').map (·.2)).size<=sizeLine+1:=λ {st'} pm=>by
  have:=pm.length_eq;rw [Array.size_map];simp at this;omega
 dsimp only;by_cases h2:vs.toArray.size<2
 ·rw [if_pos h2,if_pos h2]
  refine aa (aq ?_);rw [StateT.run_pure];refine aa (aq ?_)
  have pm:(cm (Bn general' (vs.toArray.zip vs.toArray) #[] 7 none)).toList.Perm (vs.zip vs):=by
   show (vs.toArray.zip vs.toArray).toList.Perm _;simp
  refine aa (EO hoG rfl (aa (BM hoG rfl ?_ (iA _) (szP pm))));dsimp only;simp only [bne_self_eq_false,bj,if_false];refine aq (fin (Bn general' (vs.toArray.zip vs.toArray) #[] 7 none) rfl pm ?_)
  have:(vs.zip vs).length<=1:=by
   simp at h2 ⊢;omega
  show qT lb (vs.toArray.zip vs.toArray).toList;rw [show (vs.toArray.zip vs.toArray).toList=vs.zip vs by simp];exact oO this
 ·rw [if_neg h2,if_neg h2]
  refine aa (hkk (by simp at h2;omega) G kG _ ?_)
  refine aa (jc (pX (s:={ s with heap:=G }) W (hL G kG) (st:=Bn kd (vs.toArray.zip vs.toArray) #[] 7 none) rfl rfl rfl (λ x hx=>?_)
   (Q:=λ _ st'=>(cm st').toList.Perm (vs.zip vs)/\qb st'=none/\qT lb (cm st').toList) λ st' a1 a2 a3=>⟨?_,a2,a3⟩) ?_ λ _ _ e=>e)
  ·have hx:x∈(vs.toArray.zip vs.toArray).toList:=hx
   rw [show (vs.toArray.zip vs.toArray).toList=vs.zip vs by simp] at hx;obtain ⟨z1,z2⟩:=mem_zip_self hx;obtain ⟨u,v⟩:=x;have z1:u=v:=z1;subst z1;exact dd u z2
  ·refine a1.trans ?_
   show (vs.toArray.zip vs.toArray).toList.Perm _;simp
  ·rintro ⟨⟨⟩,st'⟩ s' ⟨rfl,pm,hf,sr⟩
   refine aa (EO hoG rfl (aa (BM hoG rfl ?_ (iA _) (szP pm))));dsimp only;rw [hf];simp only [bne_self_eq_false,bj,if_false];exact aq (fin st' hf pm sr)
end
end Srt
namespace Srt
set_option autoImplicit false
open PySem PySem.W PyProof.Rows
section
variable {prog:cw} {w:eK} {A:dj} {E:af->aj->Prop} {s:aj}
theorem kAY {l:ag} {o:Obj} {vs:List af} {n:Nat} {Q:List af->aj->Prop} (ho:s.heap.get? l=some o) (hc:o.cls=.type "list"\/o.cls=.type "tuple") (hd:o.data=.seq vs.toArray n) (hz:vs.length<=sizeLine)
  (h:∀ h1:eH,h1.objs.size=s.heap.objs.size+1->(∀ b u,s.heap.get? b=some u->h1.get? b=some u)->Q vs { s with heap:=h1 }):br (model prog w) A (collect (.ref l)) Q E s:=by
 unfold collect;refine aa (wpAny_runValue (wg entry_proto_collect' ?_));show br _ _ (newList [] >>= λ x=>again (.builtin "list.__iadd__" ⟨[x,.ref l],[]⟩)) _ _ s;refine aa (Cp (aq ⟨Aj _ (by decide +kernel),wg entry_list_iadd' ?_⟩) (iA _));generalize eG:s.heap.push (seqObj "list" #[] 0)=G;have sG:G.objs.size=s.heap.objs.size+1:=by rw [<-eG,size_push']
 have kG:∀ b u,s.heap.get? b=some u->G.get? b=some u:=λ b u e=>by rw [<-eG];exact ak _ e
 have nG:G.get? s.heap.objs.size=some (seqObj "list" #[] 0):=by rw [<-eG];exact cv _ rfl
 show br _ _ (AN (.ref s.heap.objs.size) (.ref l) (.ref s.heap.objs.size)) _ _ { s with heap:=G }
 unfold AN
 have fin:br (model prog w) A (load s.heap.objs.size >>= λ o=>match o.data with
   | .seq xs _=>pure xs.toList
   | _=>unsupported "internal:collect") Q E { s with heap:=G.update s.heap.objs.size (qk (·++vs.toArray)) }:=by
  refine aa (wpAny_load (AA nG _) ?_);show br _ _ (pure ((#[]:Array af)++vs.toArray).toList) Q E _;rw [show ((#[]:Array af)++vs.toArray).toList=vs by simp];refine aq (h _ (by rw [ED,sG]) λ b u e=>?_);rw [lj _ _ _ _ (dh (bf e))];exact kG b u e
 have ty:∃ T:String,o.cls=.type T/\(T = "list"\/T = "tuple"):=by
  rcases hc with e | e
  ·exact ⟨_,e,.inl rfl⟩
  ·exact ⟨_,e,.inr rfl⟩
 obtain ⟨T,hT,hT2⟩:=ty;refine aa (AK (T:=T) ⟨o,kG l o ho,hT⟩ ?_)
 have hb:(yh T == yh "list" || yh T == yh "tuple")=true:=by
  rcases hT2 with rfl | rfl<;>rfl
 rw [if_pos (by rw [Bool.or_assoc,hb,xv])];refine aa (De (kG l o ho) hd (aa (De (xs:=#[]) (n:=0) nG rfl ?_)));rw [if_neg (by simp)];refine aa (BM (xs:=#[]) (n:=0) nG rfl ?_ (iA _) (by show (#[]++vs.toArray).size<=sizeLine+1;rw [uk];simp;omega));exact aq fin
theorem tW {lb:av->av->Bool} {D:av->Prop} {kd:iw} (W:Wk lb) {l:ag} {o:Obj} {vs:List af} {n:Nat} {Q:af->aj->Prop} (ho:s.heap.get? l=some o) (hc:o.cls=.type "list"\/o.cls=.type "tuple") (hd:o.data=.seq vs.toArray n) (hz:vs.length<=sizeLine)
  (hkk:2<=vs.length->∀ (A':dj) (E':af->aj->Prop) (h6:eH),(∀ b o,o.cls≠.type "list"->s.heap.get? b=some o->h6.get? b=some o)->∀ Q:iw->aj->Prop,Q kd { s with heap:=h6 }->br (model prog w) A' (keyKind' vs.toArray) Q E' { s with heap:=h6 })
  (hL:∀ (A':dj) (E':af->aj->Prop) (h6:eH),(∀ b o,o.cls≠.type "list"->s.heap.get? b=some o->h6.get? b=some o)->wQ (model prog w) A' E' { s with heap:=h6 } lb D kd) (dd:∀ v∈vs,D (v,v))
  (h:∀ (out:List af) (k:Nat) (h':eH),out.Perm vs->kLB lb out->(∀ b u,s.heap.get? b=some u->h'.get? b=some u)->h'.get? (s.heap.objs.size+1)=some (seqObj "list" out.toArray k)->Q (.ref (s.heap.objs.size+1)) { s with heap:=h' }) :
  br (model prog w) A (call (.builtin "sorted") [.ref l]) Q E s:=by
 refine Calls.call_function_entry kind_sorted plain_sorted entry_sorted (args_sorted1 _) ?_;unfold wb.«sorted»;refine aa (m:=checkCount "sorted" 1 1 _) (aq (aa (kAY ho hc hd hz λ h1 sz1 k1=>?_)));refine aa (Cp ?_ (by simpa using hz));generalize eG:h1.push (seqObj "list" vs.toArray 0)=G
 have nG:G.get? (s.heap.objs.size+1)=some (seqObj "list" vs.toArray 0):=by
  rw [<-eG,<-sz1];exact cv _ rfl
 have kG:∀ b u,s.heap.get? b=some u->G.get? b=some u:=λ b u e=>by
  rw [<-eG];exact ak _ (k1 b u e)
 show br _ _ _ _ _ { s with heap:=G }
 rw [sz1];refine aa (eQ (mv slot_list_sort ⟨_,nG,rfl⟩ entry_list_sort (kGF (s:={ s with heap:=G }) W nG hz (λ h2 h6 k6 Q q=>hkk h2 _ _ h6 (λ b o c e=>k6 b o c (kG b o e)) Q q) (λ h6 k6=>hL _ _ h6 λ b o c e=>k6 b o c (kG b o e)) dd λ out pm od=>⟨_,rfl,?_⟩) (args_list_sort _)))
 have hlt:s.heap.objs.size+1<G.objs.size:=bf nG;have up:(G.update (s.heap.objs.size+1) (qk λ _=>#[])).get? (s.heap.objs.size+1)=some (seqObj "list" #[] (if (#[]:Array af).size == vs.toArray.size then 0 else 1)):=AA nG (λ _=>#[]);refine aq ⟨_,rfl,h out _ _ pm od (λ b u e=>?_) (AA (ak _ (ak _ up)) (λ _=>out.toArray))⟩;have hb:b≠s.heap.objs.size+1:=dh (BA (bf e));unfold sortedHeap;rw [lj _ _ _ _ hb];refine ak _ (ak _ ?_);rw [lj _ _ _ _ hb];exact kG b u e
theorem sorted_tups {l:ag} {o:Obj} {vs:List af} {n:Nat} {Q:af->aj->Prop} (ho:s.heap.get? l=some o) (hc:o.cls=.type "list"\/o.cls=.type "tuple") (hd:o.data=.seq vs.toArray n) (hz:vs.length<=sizeLine)
  (ht:∀ v∈vs,TupI s.heap v)
  (h:∀ (out:List af) (k:Nat) (h':eH),out.Perm vs->kLB (lbT s.heap) out->(∀ b u,s.heap.get? b=some u->h'.get? b=some u)->h'.get? (s.heap.objs.size+1)=some (seqObj "list" out.toArray k)->Q (.ref (s.heap.objs.size+1)) { s with heap:=h' }) :
  br (model prog w) A (call (.builtin "sorted") [.ref l]) Q E s:=by
 have kt:∀ {h6:eH},(∀ b o,o.cls≠.type "list"->s.heap.get? b=some o->h6.get? b=some o)->∀ b o,o.cls=.type "tuple"->s.heap.get? b=some o->h6.get? b=some o:=λ k6 b o c e=>k6 b o (by rw [c];intro q;injection q with q;exact absurd q (by decide)) e
 refine tW (D:=λ x=>TupI s.heap x.1) (kd:=tuples' true) (kNU s.heap) ho hc hd hz (λ h2 A' E' h6 k6 Q q=>?_) (λ A' E' h6 k6=>?_) (λ v hv=>ht v hv) h
 ·have t6:∀ v∈vs,TupI h6 v:=λ v hv=>((ht v hv).kept (kt k6)).1
  have:∀ us:List af,(∀ v∈us,TupI h6 v)->∃ fs,KatTups h6 us fs/\fs.length=us.length/\∀ v∈fs,∃ k t,v=mq k t:=λ us=>by
   induction us with
   | nil=>intro _;exact ⟨[],.nil,rfl,by simp⟩
   | cons u us ih =>
    intro hu;obtain ⟨fs,a1,a2,a3⟩:=ih λ v hv=>hu v (eY _ hv);obtain ⟨a,o,xs,m,rfl,e1,e2,e3,e4,e5⟩:=hu u (fe ..);refine ⟨xs[0]::fs,.cons e1 e2 e3 (getElem?_pos xs 0 e5) a1,by simp [a2],λ v hv=>?_⟩;rcases gu.mp hv with rfl | z
    ·exact e4 _ (by simp)
    ·exact a3 v z
  obtain ⟨fs,a1,a2,a3⟩:=this vs t6;refine kat_kind (T:=.type "int") a1 (by omega) (λ v hv=>?_) rfl q;obtain ⟨k,t,rfl⟩:=a3 v hv;exact Looks.of_pure rfl
 ·intro x y hx hy st Q hk q
  have a:=hx.kept (kt k6);have b:=hy.kept (kt k6);refine kEI (s:={ s with heap:=h6 }) x y a.1 b.1 st Q hk ?_
  show Q (some (lexLt (keyOf h6 x.1) (keyOf h6 y.1))) st;rw [a.2,b.2];exact q
end
end Srt
namespace Srt
theorem perm_back {α β:Type} {f:α->β}:∀ {l' l2:List β},l'.Perm l2->∀ {l:List α},l2=l.map f->∃ m:List α,m.Perm l/\l'=m.map f:=by
 intro l' l2 h
 induction h with
 | nil =>
  intro l e
  match l,e with
  | [],_=>exact ⟨[],.refl _,rfl⟩
 | cons x _ ih =>
  intro l e
  match l,e with
  | y::l,e =>
   rw [iV] at e;injection e with e1 e2
   obtain ⟨m,a,b⟩:=ih e2;exact ⟨y::m,a.cons y,by rw [iV,b,e1]⟩
 | swap x y l0 =>
  intro l e
  match l,e with
  | a::b::l,e =>
   rw [iV,iV] at e;injection e with e1 e2
   injection e2 with e2 e3
   exact ⟨b::a::l,.swap _ _ _,by rw [iV,iV,e1,e2,e3]⟩
 | trans _ _ ih1 ih2 =>
  intro l e;obtain ⟨m,a,b⟩:=ih2 e;obtain ⟨m',a',b'⟩:=ih1 b;exact ⟨m',a'.trans a,b'⟩
end Srt
namespace L2
open PySem PySem.Spec PyProof.Rows
section
variable {X:Cx}
theorem aT:∀ {ps:List (ag×List Int)} {its:List af},Vals (ps.map λ q=>V.ref q.1) its->its=ps.map λ q=>eD q.1
 | [],_,.nil=>rfl
 | p::ps,_,.cons r t=>by
  rw [aT t,show _=eD p.1 from r]
  rfl
theorem mM:∀ (ps:List (ag×List Int)),Vals (ps.map λ q=>V.ref q.1) (ps.map λ q=>eD q.1)
 | []=>.nil
 | p::ps=>.cons rfl (mM ps)
def kRC (H:Hp) (ps:List (ag×List Int)):Prop:=∀ q∈ps,H q.1=some (.tup (q.2.map V.int))/\q.2≠[]
theorem nV {pins:List (ag×Obj)} {σ:St} {H:Hp} {s:aj} (I:Inv X pins σ H s) {a:ag} {ns:List Int} (h:H a=some (.tup (ns.map V.int))) (h0:ns≠[]):Srt.TupI s.heap (.ref a)/\Srt.keyOf s.heap (.ref a)=ns:=by
 obtain ⟨its,rv,⟨o,ho,hc,n,hd⟩,hz⟩:=I.tuple (SqT.of (K:=X.K) h);have hi:=cW rv;have hl:=rv.length;refine ⟨⟨a,o,_,n,rfl,ho,hc,hd,λ u hu=>hi.all u (by simpa using hu),?_⟩,?_⟩
 ·rw [bg] at hl
  have:0<ns.length:=Cf.mpr h0;simp;omega
 ·rw [Srt.TupI.key ho hd]
  exact hi.nums
inductive bZ (K:ai) (xs:List V) (H:Hp) (Q:VK):Prop
 | mk:∀ (p:ag) (ps:List (ag×List Int)),(xs=[.ref p])->((SqL K H p (ps.map λ q=>V.ref q.1)\/SqT K H p (ps.map λ q=>V.ref q.1)))->(kRC H ps)->(∀ (l:ag) (ps':List (ag×List Int)),H l=none->ps'.Perm ps->ps'.Pairwise (λ a b=>Srt.lexLt b.2 a.2=false)->Q (.ref l) (upd H l (.lst (ps'.map λ q=>V.ref q.1))))->bZ K xs H Q
theorem gU:xB X (.builtin "sorted") (bZ X.K):=by
 intro pins s σ H xs us Q I r h;obtain ⟨p,ps,rfl,hq,tp,q⟩:=h;obtain ⟨u,rfl,rx⟩:=zL r;cases rx
 have obj:∃ (o:Obj) (n:Nat),s.heap.get? p=some o/\(o.cls=.type "list"\/o.cls=.type "tuple")/\o.data=.seq (ps.map λ q=>eD q.1).toArray n/\ps.length<=sizeLine:=by
  rcases hq with hq | hq
  ·obtain ⟨its,r',pl,hz⟩:=I.list hq
   rw [aT r'] at pl;obtain ⟨o,ho,hc,n,hd⟩:=pl.isList;exact ⟨o,n,ho,.inl hc,hd,by simpa using hz⟩
  ·obtain ⟨its,r',pl,hz⟩:=I.tuple hq
   rw [aT r'] at pl;obtain ⟨o,ho,hc,n,hd⟩:=pl;exact ⟨o,n,ho,.inr hc,hd,by simpa using hz⟩
 obtain ⟨o,n,ho,hc,hd,hz⟩:=obj;refine Srt.sorted_tups ho hc hd (by simpa using hz) (λ v hv=>?_) λ out k h' pm od kp e=>?_
 ·obtain ⟨x,hx,rfl⟩:=yt.mp hv
  exact (nV I (tp x hx).1 (tp x hx).2).1
 ·obtain ⟨ps',pm',rfl⟩:=Srt.perm_back pm rfl
  refine ⟨.ref (s.heap.objs.size+1),_,I.laid (t':=s.toks) kp (BC _) (show ObjOk X.prog X.w _ h' _ (.lst (ps'.map λ q=>V.ref q.1)) from ⟨by simpa [pm'.length_eq] using hz,_,k,mM ps',e⟩),rfl,q _ ps' (I.hok.fresh (BC _)) pm' ?_⟩;refine (xt.mp od).imp_of_mem λ {a b} ha hb hh=>?_;have e1:=(nV I (tp a (pm'.mem_iff.mp ha)).1 (tp a (pm'.mem_iff.mp ha)).2).2;have e2:=(nV I (tp b (pm'.mem_iff.mp hb)).1 (tp b (pm'.mem_iff.mp hb)).2).2;have hh:Srt.lexLt (Srt.keyOf s.heap (.ref b.1)) (Srt.keyOf s.heap (.ref a.1))=false:=hh;rw [e1,e2] at hh;exact hh
end
section
variable {P:cw} {w:eK}
abbrev jA:=List (List Key)
inductive NIts (P:cw) (w:eK) (h:eH):jA->List af->Prop
 | nil:NIts P w h [] []
 | cons {k:List Key} {b:ag} {ks:jA} {vs:List af}:(tupleKind (qL P w)).is h k b->NIts P w h ks vs->NIts P w h (k::ks) (.ref b::vs)
def IsN (P:cw) (w:eK) (h:eH) (ks:jA) (a:ag):Prop:=∃ o items n,h.get? a=some o/\o.cls=.type "tuple"/\o.data=.seq items n/\NIts P w h ks items.toList
theorem NIts.inj {h:eH} {x y:jA} {vs:List af} (hx:NIts P w h x vs) (hy:NIts P w h y vs):x=y:=by
 induction hx generalizing y with
 | nil=>cases hy;rfl
 | cons h1 _ ih =>
  cases hy with
  | cons h2 t2=>rw [(tupleKind (qL P w)).inj h1 h2,ih t2]
theorem NIts.keeps {h h':eH} {x:jA} {vs:List af} {d:ag} {o:Obj} {es ep} (hx:NIts P w h x vs) (ho:h.get? d=some o) (hd:o.data=.dict es ep) (hs:lz d h h'):NIts P w h' x vs:=by
 induction hx with
 | nil=>exact .nil
 | cons h1 _ ih=>exact .cons ((tupleKind (qL P w)).keeps h1 ho hd hs) ih
theorem IsN.typeIs {s:aj} {ks:jA} {a:ag} (x:IsN P w s.heap ks a):s.TypeIs (.ref a) "tuple":=let ⟨o,_,_,ho,hc,_⟩:=x;⟨o,ho,hc⟩
theorem IsN.inj {h:eH} {a:ag} {x y:jA} (hx:IsN P w h x a) (hy:IsN P w h y a):x=y:=by
 obtain ⟨o,items,n,ho,_,hd,hi⟩:=hx;obtain ⟨o',items',n',ho',_,hd',hi'⟩:=hy;obtain rfl:o=o':=eO (ho.symm.trans ho');rw [hd] at hd';injection hd' with h1 _
 subst h1;exact hi.inj hi'
theorem IsN.keeps {h h':eH} {ks:jA} {a d:ag} {o:Obj} {es ep} (x:IsN P w h ks a) (ho:h.get? d=some o) (hd:o.data=.dict es ep) (hs:lz d h h'):IsN P w h' ks a:=by
 obtain ⟨o',items,n,ho',hc,hd',hi⟩:=x
 have hne:a≠d:=by
  rintro rfl;obtain rfl:o'=o:=eO (ho'.symm.trans ho);rw [hd] at hd';exact nomatch hd'
 exact ⟨o',items,n,(hs.2 a hne).trans ho',hc,hd',hi.keeps ho hd hs⟩
def kHM (P:cw) (w:eK) (ks:jA):Int:=reduceHash (iW (ks.map (tupleKeyHash (qL P w))))
def aZ (ks:jA):Nat:=(ks.map λ k=>k.length+1).sum
variable {A:dj} {E:af->aj->Prop} {s:aj}
theorem kNR {ks:jA} {a:ag} {Q:Int->aj->Prop} (hu:A.units+4<cLine) (hk:IsN P w s.heap ks a) (h:Q (kHM P w ks) { s with toks:=s.toks+(aZ ks+1) }) :
  br (model P w) A (pyHash (.ref a)) Q E s:=by
 have hT:=hk.typeIs;obtain ⟨o,items,n,ho,_,hd,hi⟩:=hk;unfold pyHash
 first | unfold pyHashByItsType | skip
 first | refine aa (wpAny_cRoomFor_or (.inr (by omega)) ?_) | skip
 refine aa (we hT rz.lookup ?_);show br _ _ (if (some (vw "tuple.__hash__") == some iK)=true then _ else _) Q E s;rw [if_neg (by rw [beq_builtin_none];exact cq)];refine aa (we hT rz.lookup ?_);show br _ _ (callSpecialIfBoundUnlessNone? (.ref a) "__hash__" _ >>= _) Q E s;refine aa (wpAny_callSpecialIfBoundUnlessNone?_slot hT rz (mv rz hT PySem.F.entry_tuple_hash ?_ (PySem.F.args_tuple_hash_1 _)));show br _ _ (ur (.ref a) >>= _) _ _ s;refine aa (Ak ho hd ?_);refine aa ?_;rw [<-Al]
 refine rf _
  (λ rest (b:Array Int) s'=>∃ done left,ks=done++left/\NIts P w s.heap left rest/\b.toList=done.map (tupleKeyHash (qL P w))/\s'={ s with toks:=s.toks+aZ done })
  _ ?_ ?_ _ _ ⟨[],ks,rfl,hi,rfl,rfl⟩
 ·rintro x rest b s' ⟨done,left,rfl,hl,hb,rfl⟩
  cases hl with
  | @cons k b1 ks' _ h1 hl' =>
   refine aa ((tupleKind (qL P w)).pyHash (k:=k) ?_ h1 ?_)
   ·show A.units+1<cLine
    omega
   have e:aZ (done++[k])=aZ done+(k.length+1):=by
    unfold aZ;simp
   first
    | exact aq ⟨done++[k],ks',by simp,hl',by simp [hb];rfl,by rw [e];simp [jm];rfl⟩
    | exact aa (aq (aq ⟨done++[k],ks',by simp,hl',by simp [hb];rfl,by rw [e];simp [jm];rfl⟩))
 ·rintro b s' ⟨done,left,rfl,hl,hb,rfl⟩
  cases hl
  rw [jq] at h;show br _ _ (retInt (iW b.toList)) _ _ _;rw [hb];refine wpAny_ret_mkInt ?_;show br _ _ (if (decide (-(2:Int) ^ 63<=iW (done.map (tupleKeyHash (qL P w)))) && decide (iW (done.map (tupleKeyHash (qL P w)))<2 ^ 63))=true then _ else _) Q E _;unfold kHM reduceHash at h;by_cases hr:(decide (-(2:Int) ^ 63<=iW (done.map (tupleKeyHash (qL P w)))) && decide (iW (done.map (tupleKeyHash (qL P w)))<2 ^ 63))=true
  ·rw [if_pos hr]
   rw [if_pos hr] at h;exact aq (by simpa [jm] using h)
  ·rw [if_neg hr]
   rw [if_neg hr] at h;exact aa (uo (aq (by simpa [jm] using h)))
theorem kED {x y:jA} {a b:ag} {F:Fin->aj->Prop} (hu:A.units+4<cLine) (hx:IsN P w s.heap x a) (hy:IsN P w s.heap y b) (h:F (.done (.ret (.bool (decide (x=y))))) s) :
  br (model P w) A (wb.«tuple.__eq__» ⟨[.ref a,.ref b],[]⟩) F E s:=by
 have hTb:=hy.typeIs;obtain ⟨oa,xs,na,hoa,_,hda,hia⟩:=hx;obtain ⟨ob,ys,nb,hob,_,hdb,hib⟩:=hy;show br _ _ (isInstance (.ref b) (.type "tuple") >>= _) _ _ s;refine aa (Ba hTb yf ?_);simp only [jl,bj,if_false];refine aa (Ak hoa hda ?_);refine aa (Ak hob hdb ?_);refine aa ?_
 refine rf _
  (λ rest r s'=>r.1=none/\s'=s/\∃ x' y' xs' ys',rest=List.zip xs' ys'/\NIts P w s.heap x' xs'/\NIts P w s.heap y' ys'/\decide (x'=y')=decide (x=y)/\(xs'.length == ys'.length)=(xs.size == ys.size))
  _ ?_ ?_ _ _ ⟨rfl,rfl,x,y,xs.toList,ys.toList,rfl,hia,hib,rfl,by simp⟩
 ·rintro ⟨u,v⟩ rest r s' ⟨hr,rfl,x',y',xs',ys',hz,hx',hy',hdec,hlen⟩
  cases hx' with
  | nil=>simp at hz
  | @cons k1 u' x'' xs'' h1 hx'' =>
   cases hy' with
   | nil=>simp at hz
   | @cons k2 v' y'' ys'' h2 hy'' =>
    simp only [wk,List.cons.injEq,Prod.mk.injEq] at hz;obtain ⟨⟨rfl,rfl⟩,rfl⟩:=hz;refine aa ((tupleKind (qL P w)).eqBool (x:=k1) (y:=k2) (by show A.units<cLine;omega) h1 h2 ?_);by_cases hk:k1=k2
    ·subst hk
     rw [decide_eq_true rfl];simp only [jl,bj,if_false];refine aq ⟨rfl,rfl,x'',y'',xs'',ys'',rfl,hx'',hy'',?_,by simpa using hlen⟩;rw [<-hdec];by_cases hxy:x''=y''
     ·simp [hxy]
     ·simp [hxy]
    ·rw [decide_eq_false hk]
     simp only [Ek,if_true];have hf:decide (x=y)=false:=by rw [<-hdec];simp [hk]
     rw [hf] at h;exact aa (aq (aq (aq h)))
 ·rintro ⟨r1,r2⟩ s' ⟨hr,rfl,x',y',xs',ys',hz,hx',hy',hdec,hlen⟩
  simp only at hr;subst hr;refine aq ?_
  have hfin:(xs.size == ys.size)=decide (x=y):=by
   rw [<-hdec,<-hlen]
   cases hx' with
   | nil =>
    cases hy' with
    | nil=>simp
    | cons _ _=>simp
   | cons _ _ =>
    cases hy' with
    | nil=>simp
    | cons _ _=>simp at hz
  show F (.done (.ret (.bool (xs.size == ys.size)))) s';rw [hfin];exact h
theorem kRN {x y:jA} {a b:ag} {Q:Bool->aj->Prop} (hu:A.units+5<cLine) (hx:IsN P w s.heap x a) (hy:IsN P w s.heap y b) (h:Q (decide (x=y)) s) :
  br (model P w) A (eqBool (.ref a) (.ref b)) Q E s:=by
 unfold eqBool
 try with_reducible refine eQ ?_
 show br _ _ (if (eD a == eD b)=true then _ else _) Q E s;by_cases hab:(eD a == eD b)=true
 ·rw [if_pos hab]
  have e:a=b:=by have:=eq_of_beq hab;injection this
  subst e;obtain rfl:=hx.inj hy;exact aa (uo (aq (by simpa using h)))
 ·rw [if_neg hab]
  exact aa (wpAny_richCompare_same_room (op:=.Eq) hx.typeIs hy.typeIs ug
   (mv ug hx.typeIs PySem.F.entry_tuple_eq (kED (A:=A.in1) (by show A.units+1+4<cLine;omega) hx hy ⟨_,rfl,(λ e=>nomatch e),kj h⟩) (PySem.F.args_tuple_eq_2 _ _)) (by omega))
theorem kKM {m:Nat} {ks:List Key} {a:ag} {Q:Bool->aj->Prop} (hk:(tupleKind (qL P w)).is s.heap ks a) (h:Q true s):br (model P w) A (eqIsQuiet (m+1) (.ref a)) Q E s:=by
 have hk:IsTupleKey (qL P w) s.heap ks a:=hk;have hT:=hk.typeIs;obtain ⟨o,items,n,ho,_,hd,hi⟩:=hk;unfold eqIsQuiet;refine aa (we hT ug.lookup ?_);show br _ _ (isInstance (.ref a) (.type "tuple") >>= _) _ _ s;refine aa (Ba hT yf ?_);simp only [jl,bj,if_false];refine aa (rm ho hd ?_);refine aa ?_;show br _ _ (forIn items _ _) _ _ s;rw [<-Al];refine rf _ (λ rest r s'=>r.1=none/\s'=s/\∀ v∈rest,carriedByValue v=true) _ ?_ ?_ _ _ ⟨rfl,rfl,hi.byValue⟩
 ·rintro v rest r s' ⟨hr,rfl,hall⟩
  rw [eqIsQuiet_byValue _ (hall v fe)];refine aa (aq ?_);simp only [jl,bj,if_false];exact aq ⟨rfl,rfl,λ u hu'=>hall u (eY _ hu')⟩
 ·rintro ⟨r1,r2⟩ s' ⟨hr,rfl,_⟩
  simp only at hr;subst hr;exact aq h
theorem kKD {ks:jA} {a:ag} {Q:Bool->aj->Prop} (hk:IsN P w s.heap ks a) (h:Q true s):br (model P w) A (eqIsQuiet 8 (.ref a)) Q E s:=by
 have hT:=hk.typeIs;obtain ⟨o,items,n,ho,_,hd,hi⟩:=hk;unfold eqIsQuiet;refine aa (we hT ug.lookup ?_);show br _ _ (isInstance (.ref a) (.type "tuple") >>= _) _ _ s;refine aa (Ba hT yf ?_);simp only [jl,bj,if_false];refine aa (rm ho hd ?_);refine aa ?_;show br _ _ (forIn items _ _) _ _ s;rw [<-Al];refine rf _ (λ rest r s'=>r.1=none/\s'=s/\∃ ks,NIts P w s.heap ks rest) _ ?_ ?_ _ _ ⟨rfl,rfl,_,hi⟩
 ·rintro v rest r s' ⟨hr,rfl,ks,hall⟩
  cases hall with
  | cons h1 h2 =>
   refine aa (kKM (m:=6) h1 ?_);simp only [jl,bj,if_false];exact aq ⟨rfl,rfl,_,h2⟩
 ·rintro ⟨r1,r2⟩ s' ⟨hr,rfl,_⟩
  simp only at hr;subst hr;exact aq h
end
def mO (P:cw) (w:eK):GB P w jA where
 is:=IsN P w
 hash:=kHM P w
 draws:=λ ks=>aZ ks+1
 room:=λ A=>A.units+8<cLine
 inj:=λ hx hy=>hx.inj hy
 keeps:=λ x ho hd hs=>x.keeps ho hd hs
 pyHash:=λ hu hk h=>kNR (by omega) hk h
 eqBool:=λ hu hx hy h=>kRN (by omega) hx hy h
 quiet:=λ hk h=>kKD hk h
section
variable {P:cw} {w:eK} {A:dj} {E:af->aj->Prop} {s:aj} {K:Type} [DecidableEq K] {knd:GB P w K}
theorem kAW {d a:ag} {xs:List (K×ag×af)} {k:K} {v:af} {Q:af->aj->Prop} (hu:knd.room A) (hkey:knd.is s.heap k a) (hm:s.heap.DictOfH knd d xs)
  (h1:∀ p,atKey xs k=some p->Q p.2 { s with toks:=s.toks+knd.draws k })
  (h2:atKey xs k=none->∀ h',h'.DictOfH knd d (xs++[(k,a,v)])->lz d s.heap h'->Q v { s with heap:=h',toks:=s.toks+knd.draws k })
  (hsz:xs.length<=sizeLine) :
  br (model P w) A (dictSetDefault d (.ref a) v) Q E s:=by
 obtain ⟨o,es,ep,ho,hc,hd,he,his,hn⟩:=hm;unfold dictSetDefault
 try with_reducible refine eQ ?_
 refine aa (knd.pyHash hu hkey ?_);refine aa (wpAny_dictFind_heap (s:={ s with toks:=s.toks+knd.draws k }) hu hkey ho hd he his hn ?_ ?_)
 ·intro hno
  have hnot:k∉xs.map (·.1):=not_mem_keys_of_get hno
  refine aa (uo (aa (wpAny_updateDictKeys (hz:=by have e:=size_of_entries he;omega) (s:={ s with toks:=s.toks+knd.draws k }) ho hd (aq (h2 (atKey_none_of_get hno) _ ⟨_,_,ep+1,ff _ ho (Obj.isFreed_of_dict (CP hd _)),
   hc.mapDictKeys _,CP hd _,?_,?_,?_⟩ (qu ..))))))
  ·simp [he,entryOfKey]
  ·intro x hx
   rcases gf.mp hx with hx | hx
   ·exact knd.keeps (his x hx) ho hd (qu ..)
   ·simp only [eu] at hx
    subst hx;exact knd.keeps hkey ho hd (qu ..)
  ·rw [iM,BD]
   refine ⟨hn,by simp,?_⟩;intro x hx y hy;simp only [iV,AL,eu] at hy;subst hy;exact λ e=>hnot (e ▸ hx)
 ·intro j p hj
  refine aa (wpAny_dictEntries (s:={ s with toks:=s.toks+knd.draws k }) ho hd ?_)
  rw [entry_at he j,hj];exact aa (uo (aq (h1 p (atKey_of_get hn hj))))
theorem kAN (knd:GB P w K) {k:K} {b:ag} (d:ag) (hd:(d == sysModules)=false) (dflt:af) :
  MeetsIn P w (wb.«dict.setdefault» ⟨[.ref d,.ref b,dflt],[]⟩) (λ A R s=>knd.room A.in1/\knd.is s.heap k b/\∃ xs,s.heap.DictOfH knd d xs/\xs.length<=sizeLine /\
   (∀ p,atKey xs k=some p->R (.ok (.ret p.2)) { s with toks:=s.toks+knd.draws k }) /\
   (atKey xs k=none->∀ h',h'.DictOfH knd d (xs++[(k,b,dflt)])->lz d s.heap h'->R (.ok (.ret dflt)) { s with heap:=h',toks:=s.toks+knd.draws k })) :=
 .of_wp λ A R s ⟨hu,hkey,xs,hm,hz,h1,h2⟩=>by
  unfold wb.«dict.setdefault»;refine aa ?_;unfold Ep;refine aa (wpAny_notOrdered_dict hm.typeIs ?_);show br _ _ (pure (d,eD b,some dflt)) _ _ s;refine aq ?_;show br _ _ (if (d == sysModules)=true then _ else (dictSetDefault d (.ref b) dflt >>= _)) _ _ s;rw [if_neg (by rw [hd];exact cq)];exact aa (kAW hu hkey hm (λ p hp=>aq ⟨p.2,rfl,h1 p hp⟩) (λ hn h' hm' hs'=>aq ⟨dflt,rfl,h2 hn h' hm' hs'⟩) hz)
def ND (P:cw) (w:eK) (d:ag) (kvs:List (jA×ag×Int)) (h:eH):Prop:=kvs.length<=sizeLine/\(d == sysModules)=false/\(kvs.map (·.1)).Nodup/\∃ xs:List (jA×ag×af),CD (λ p q=>p.1=q.1/\p.2.1=q.2.1/\∃ t,q.2.2=.int p.2.2 t) kvs xs /\
 ∃ o es ep,h.get? d=some o/\o.ExactDict/\o.data=.dict es ep/\es.toList=xs.map (entryOfKey (mO P w))
theorem ND.ok {H:Hp} {h:eH} {d:ag} {kvs:List (jA×ag×Int)} (x:ND P w d kvs h):ObjOk P w H h d (.ext (ND P w d kvs)):=by
 refine ⟨x,let ⟨_,_,_,_,_,o,_,_,e,_⟩:=x;⟨o,e⟩,λ h1 h2 z k=>?_⟩;obtain ⟨a,b,c,xs,p,o,es,ep,e,r⟩:=z;exact ⟨a,b,c,xs,p,o,es,ep,k o e,r⟩
def NAt (H:Hp) (b:ag) (ks:jA):Prop:=∃ ps:List ag,H b=some (.tup (ps.map V.ref))/\ps.length=ks.length/\∀ (i:Nat) (p:ag) (k:List Key),ps[i]?=some p->ks[i]?=some k->H p=some (.tup (k.map kV))
theorem kCL {H:Hp} {h:eH} (ok:HOk P w H h):∀ {ps:List ag} {ks:jA} {us:List af},ps.length=ks.length->(∀ (i:Nat) (p:ag) (k:List Key),ps[i]?=some p->ks[i]?=some k->H p=some (.tup (k.map kV)))->Vals (ps.map V.ref) us->NIts P w h ks us
 | [],[],us,_,_,r=>by cases r;exact .nil
 | [],_::_,us,l,_,_=>by simp at l
 | _::_,[],us,l,_,_=>by simp at l
 | p::ps,k::ks,us,l,f,r=>by
  rw [iV] at r
  cases r with
  | cons r1 r2 =>
   cases r1
   exact .cons (kNZ ok (f 0 p k rfl rfl)) (kCL ok (by simpa using l) (λ i q j e1 e2=>f (i+1) q j e1 e2) r2)
theorem kQH {H:Hp} {h:eH} {b:ag} {ks:jA} (ok:HOk P w H h) (a:NAt H b ks):IsN P w h ks b:=by
 obtain ⟨ps,e,l,f⟩:=a;obtain ⟨_,its,r,o,h1,h2,n,h3,_⟩:=(show ObjOk P w H h b (.tup (ps.map V.ref)) from ok b _ e);exact ⟨o,its.toArray,n,h1,h2,h3,by simpa using kCL ok l f r⟩
def look (kvs:List (jA×ag×Int)) (k:jA):Option Int:=(kvs.find? λ x=>decide (x.1=k)).map (·.2.2)
theorem kDC {kvs:List (jA×ag×Int)} {xs:List (jA×ag×af)} (r:CD (λ p q=>p.1=q.1/\p.2.1=q.2.1/\∃ t,q.2.2=mq p.2.2 t) kvs xs) (k:jA) :
  (atKey xs k=none/\look kvs k=none)\/∃ p v t,atKey xs k=some p/\look kvs k=some v/\p.2=.int v t:=by
 unfold atKey look
 induction r with
 | nil=>exact .inl ⟨rfl,rfl⟩
 | @cons p q ps qs h t ih =>
  obtain ⟨h1,h2,tk,h3⟩:=h;rw [Bu,Bu,<-h1];by_cases c:p.1=k
  ·rw [decide_eq_true c]
   exact .inr ⟨q.2,p.2.2,tk,rfl,rfl,h3⟩
  ·rw [decide_eq_false c]
   exact ih
theorem kHQ {kvs:List (jA×ag×Int)} {k:jA} (h:look kvs k=none):k∉kvs.map (·.1):=λ m=>by
 obtain ⟨x,hx,rfl⟩:=yt.mp m;unfold look at h;rw [Option.map_eq_none_iff,List.find?_eq_none] at h;exact h x hx (decide_eq_true rfl)
end
section
variable {X:Cx} {pos:Pos}
def kMY (P:cw) (w:eK):TE:=λ _ H Q=>∀ p,H p=none->Q (.ref p) (upd H p (.ext (ND P w p [])))
theorem kHG:PE X (.Dict [] [] pos) (kMY X.prog X.w):=λ pins s σ H Q I h =>
 wpAny_Dict_empty ⟨.ref s.heap.objs.size,_,I.laid (a:=s.heap.objs.size) (o:=.ext (ND X.prog X.w s.heap.objs.size [])) (t':=s.toks) (λ _ _ q=>ak _ q) (ba _)
  (ND.ok ⟨iA _,beq_eq_false_iff_ne.mpr (iY (dh I.big)),Ac,[],.nil,_,#[],0,cv _ rfl,⟨rfl,rfl,rfl⟩,rfl,rfl⟩),rfl,h _ (I.hok.fresh (ba _))⟩
inductive kGU (P:cw) (w:eK) (d:ag) (kvs:List (jA×ag×Int)) (vs:List V) (H:Hp) (Q:VK):Prop
 | mk:∀ (b:ag) (q:Int) (ks:jA),(vs=[.ref b,.int q])->(H d=some (.ext (ND P w d kvs)))->(NAt H b ks)->(∀ e∈kvs,NAt H e.2.1 e.1)->(kvs.length<sizeLine)->(∀ v,look kvs ks=some v->Q (.int v) H)->(look kvs ks=none->Q (.int q) (upd H d (.ext (ND P w d (kvs++[(ks,b,q)])))))->kGU P w d kvs vs H Q
theorem kKG (hu:X.A.units+80<cLine) {pins:List (ag×Obj)} {s:aj} {σ:St} {H:Hp} {d:ag} {kvs:List (jA×ag×Int)} {xs:List V} {us:List af} {Q:VK} (I:Inv X pins σ H s) (rv:Vals xs us) (h:kGU X.prog X.w d kvs xs H Q) :
  br (model X.prog X.w) X.A (call (.builtin "dict.setdefault") (.ref d::us)) (EP X pins σ Q) X.xe s:=by
 obtain ⟨b,q,ks,rfl,hd,hb,hk,hz,q1,q2⟩:=h;obtain ⟨u,v,rfl,ru,rq⟩:=rv.two;cases ru
 obtain ⟨t,rfl⟩:=rq;obtain ⟨⟨z1,z2,z3,xs,r,o,es,ep,ho,hc,hdt,he⟩,_,_⟩:=(show ObjOk X.prog X.w H s.heap d (.ext (ND X.prog X.w d kvs)) from I.hok d _ hd);have lx:=Cj r
 have hkeys:xs.map (·.1)=kvs.map (·.1):=by
  have go:∀ {l:List (jA×ag×Int)} {m:List (jA×ag×af)},CD (λ p q=>p.1=q.1/\p.2.1=q.2.1/\∃ t,q.2.2=mq p.2.2 t) l m->m.map (·.1)=l.map (·.1):=by
   intro l m r
   induction r with
   | nil=>rfl
   | cons a _ ih=>rw [iV,iV,ih,a.1]
  exact go r
 have his:∀ x∈xs,(mO X.prog X.w).is s.heap x.1 x.2.1:=by
  have go:∀ {l:List (jA×ag×Int)} {m:List (jA×ag×af)},CD (λ p q=>p.1=q.1/\p.2.1=q.2.1/\∃ t,q.2.2=mq p.2.2 t) l m->(∀ e∈l,NAt H e.2.1 e.1)->∀ x∈m,(mO X.prog X.w).is s.heap x.1 x.2.1:=by
   intro l m r
   induction r with
   | nil=>intro _ x hx;exact nomatch hx
   | @cons p q ps qs z t ih =>
    intro hl x hx;rcases gu.mp hx with rfl | hx
    ·have:=kQH I.hok (hl p fe)
     rw [z.1,z.2.1] at this;exact this
    ·exact ih (λ e h=>hl e (eY _ h)) x hx
  exact go r hk
 have dd:s.heap.DictOfH (mO X.prog X.w) d xs:=⟨o,es,ep,ho,hc,hdt,he,his,by rw [hkeys];exact z3⟩;refine call_meetsIn AB dd.typeIs PySem.F.entry_dict_setdefault (PySem.F.args_dict_setdefault_3 _ _ _) (kAN (mO X.prog X.w) (k:=ks) d z2 (.int q t)) ⟨(by show X.A.units+1+8<cLine;omega),kQH I.hok hb,xs,dd,by omega,λ p hp=>?_,λ hn h' dd' hs=>?_⟩
 ·rcases kDC r ks with ⟨e1,_⟩ | ⟨p',v,t',e1,e2,e3⟩
  ·rw [e1] at hp;cases hp
  ·rw [e1] at hp
   cases hp
   rw [e3];exact ⟨.int v,H,I.tok _,⟨_,rfl⟩,q1 v e2⟩
 ·rcases kDC r ks with ⟨_,e2⟩ | ⟨p',v,t',e1,_,_⟩
  ·obtain ⟨qo,es',ep',hq,h2,h3,h4,_,h5⟩:=dd'
   refine ⟨.int q,upd H d (.ext (ND X.prog X.w d (kvs++[(ks,b,q)]))),kKV (t':=s.toks+(mO X.prog X.w).draws ks) I (by rw [hd];exact qh) hs ⟨qo,hq⟩ (ND.ok ⟨?_,z2,?_,xs++[(ks,b,.int q t)],r.snoc ⟨rfl,rfl,t,rfl⟩,qo,es',ep',hq,h2,h3,h4⟩),⟨t,rfl⟩,q2 e2⟩
   ·rw [du]
    show kvs.length+1<=_;omega
   ·rw [iM,BD]
    refine ⟨z3,by simp,λ x hx y hy e=>?_⟩;simp only [iV,AL,eu] at hy;subst hy;exact kHQ e2 (e ▸ hx)
  ·rw [e1] at hn;cases hn
inductive kFQ (P:cw) (w:eK) (t:TA) (σ:St) (Q:VK) (x:V) (H1:Hp):Prop
 | mk:∀ (d:ag) (kvs:List (jA×ag×Int)),(x=.ref d)->(H1 d=some (.ext (ND P w d kvs)))->(t σ H1 λ xs H2=>kGU P w d kvs xs H2 Q)->kFQ P w t σ Q x H1
def kPI (P:cw) (w:eK) (to:TE) (t:TA):TE:=λ σ H Q=>to σ H λ x H1=>kFQ P w t σ Q x H1
variable {o e:fm} {es:List fm} {to:TE} {t:TA} {apos cpos:Pos}
theorem kJT (hu:X.A.units+80<cLine) (ho:PE X o to) (ha:PA X (e::es) t)
  (hbase:attributeBase o "setdefault" X.env (eval o X.env)=eval o X.env:=by rfl)
  (hfew:((backTo cpos (starEach (e::es) X.env)).all (λ x=>!x.1) && (backToKw cpos (keywordEach [] X.env)).all (λ x=>x.1.isSome)
   && decide ((e::es).length+([]:List DO).length+(if ([]:List DO).isEmpty then 0 else 1)<30))=true:=by rfl)
  (hline:(apos.endLine == cpos.line)=true:=by rfl) (hs:starEach (e::es) X.env=(false,eval e X.env)::starEach es X.env:=by rfl) (hplain:(backTo cpos (starEach es X.env)).any (·.1)=false:=by rfl) :
  PE X (.Call (.Attribute o "setdefault" apos) (e::es) [] cpos) (kPI X.prog X.w to t):=by
 intro pins s σ H Q I h;refine Bi hbase hfew hline rfl (thn (ho pins s σ H _ I h) λ v s1 ⟨x,H1,I1,r1,y⟩=>?_);obtain ⟨d,kvs,rfl,hd,q1⟩:=y;cases r1
 obtain ⟨⟨z1,z2,z3,xs,r,ob,es',ep,ho',hc,hdt,he⟩,_,_⟩:=(show ObjOk X.prog X.w H1 s1.heap d (.ext (ND X.prog X.w d kvs)) from I1.hok d _ hd);refine ⟨"dict","dict.setdefault",PySem.F.plainAttrs_dict,AB,PySem.F.type_dict_setdefault,⟨ob,ho',hc.1⟩,λ a e=>by cases e;exact ⟨ob,ho',hc.2.1⟩,?_⟩;have hA:=ha cpos pins s1 σ H1 _ I1 q1;rw [hs] at hA ⊢;refine Bj (by show (false || (backTo cpos (starEach es X.env)).any (·.1))=false;rw [hplain]<;>rfl) (CJ ?_);exact thn hA λ us s2 ⟨vs,H2,I2,r2,q2⟩=>kKG hu I2 r2 q2
end
end L2
namespace Ex
open PySem
section
variable {prog:cw} {w:eK} {A:dj} {E:af->aj->Prop} {h:eH} {g:Array EY} {d:Drawn} {t:Nat} {os:OsState} {M:qt}
variable {nm q:Str} {C N:ag} {bs bm bmB:List af} {hdct:Bool} {sn:List Str} {sub:List af} {ab:Bool} {col:Option Bool} {dd:Option ag} {k0 k1 k2 k3 k5:Option af} {B newId initId:String}
structure Up (B:String) (bm:List af):Prop where
 b:bm.contains (.type B)=true
 a:bm.contains (.type "AttributeError")=false
 n:bm.contains (.type "NameError")=false
theorem kEW (F:Bo B newId initId bmB) (U:Up B bm) {rest:List af} {Q:Unit->aj->Prop} (hC:h.get? C=some (excClassObj nm q C N bs bm hdct sn sub ab col dd k0 k1 k2 k3 k5 newId))
  (hq:Q () ⟨h,g,d,t,os⟩):br M A (checkBuiltinCall newId ⟨.ref C::rest,[]⟩) Q E ⟨h,g,d,t,os⟩:=by
 have c1:(eD C::bm).contains (.type B)=true:=by rw [ml,U.b,xv]
 have c2:=F.noStar;simp only [checkBuiltinCall,F.newKind,F.newSplit,F.newRow]
 repeat (first | refine kv hC ?_ | (refine AF hC ?_;rw [c1]) | refine wpAny_staticBase_exc hC ?_ | refine EE hC ?_ | simp only [bne_self_eq_false,bj,if_false] | wp_step)
 exact hq
theorem kKS (F:Bo B newId initId bmB) (U:Up B bm) {rest:List af} {R:Do->aj->Prop} (hC:h.get? C=some (excClassObj nm q C N bs bm hdct sn sub ab col dd k0 k1 k2 k3 k5 newId)) (hrest:rest.length<=sizeLine)
  (hq:R (.ok (.ret (.ref (h.objs.size+1)))) ⟨(h.push { cls:=.type "tuple",data:=.seq rest.toArray }).push { cls:=.ref C,data:=.fields #[.ref h.objs.size,.none,.none,.none,.bool false,.none] },g,d,t,os⟩) :
  codeAny (model prog w) A (.builtin newId ⟨.ref C::rest,[]⟩) R ⟨h,g,d,t,os⟩:=by
 have e0:=F.ends;have e1:(eD C::bm).contains (.type B)=true:=by rw [ml,U.b,xv]
 have e2:(eD C::bm).contains (.type "AttributeError")=false:=by rw [ml,U.a];rfl
 have e3:(eD C::bm).contains (.type "NameError")=false:=by rw [ml,U.n];rfl
 refine codeAny_builtinAt F.entry ?_;unfold wb.«BaseException.__new__»;refine wpAt_bind ?_;show wpAt _ _ _ (stack >>= λ _=>_) _ _ _;refine wpAt_bind (wpAt_stack λ p below=>wpAt_of_wpAny ?_)
 wp_walk
 refine wpAt_of_wpAny ?_;rw [F.owner]
 repeat (first | with_reducible refine wpAny_madeHere_exc F.canon hC ?_ | with_reducible refine kv hC ?_ | (with_reducible refine AF hC ?_;first | rw [e1] | rw [e2] | rw [e3]) | wp_step)
 show R _ _;rw [ni];exact hq
end
structure Aft (l:List Env) (e T:ag) (oe:Obj) (h h':eH):Prop where
 k:∀ b o,b≠e->b∉l.filterMap (·.frame)->h.get? b=some o->h'.get? b=some o
 f:∀ b o,b≠e->h.get? b=some o->∃ sl,h'.get? b=some { o with slots:=sl }
 e:h'.get? e=some (oe.mapFields (·.setIfInBounds 1 (.ref T)))
 n:h.objs.size<=T
 t:∃ oT ts,h'.get? T=some oT/\oT.data=.fields ts/\ts[3]?=some .none
section
variable {M:qt} {A:dj} {E:af->aj->Prop} {s:aj}
theorem entry {base:eH} {env:Env} {outer:List Env} {L e:ag} {oe:Obj} {vs:Array af} {head:af} {hadNext:Bool} {Q:Unit->aj->Prop}
  (hfr:A.frames=some (env::outer)) (hl:s.heap.FunFrames base (env::outer)) (hf:env.frame=some L) (he:s.heap.get? e=some oe) (hd:oe.data=.fields vs) (hsz:1<vs.size)
  (q:∀ h' T,Aft (env::outer) e T oe s.heap h'->Q () { s with heap:=h' }) :
  br M A (do let a <-frameOf env;let pl <-entryPlaceOf L hadNext;let b <-Cg head a .none (rawInt L) .none pl;setField (.ref e) 1 b) (λ _ s'=>br M A (setFlight (.ref e) none) Q E s') E s:=by
 have hene:e∉(env::outer).filterMap (·.frame):=λ hm=>by
  obtain ⟨_,o,ho,hnf⟩:=hl.mem hm;rw [he] at ho;cases ho
  exact hnf vs hd
 refine aa (wpAny_frameOf_fun hfr hl hf λ h1 S=>?_);refine aa (wpAny_entryPlaceOf λ pl hpl=>?_);unfold Cg newFields;refine aa (fu ?_ (hpl.sizeOk5 _ _ _ _ _));generalize hO:({ cls:=.type "traceback",dict:=none,data:=.fields ([head,.ref L,.none,rawInt L,.none]++(if pl.isEmpty then nh 6 iK else pl)).toArray }:Obj)=oT;have dT:oT.data=.fields ([head,.ref L,.none,rawInt L,.none]++(if pl.isEmpty then nh 6 iK else pl)).toArray:=by rw [<-hO]
 have e1:h1.get? e=some oe:=(S.2.1 e hene).trans he;have e2:=ak (h:=h1) oT e1;refine uu e2 hd hsz ?_;have nTe:h1.objs.size≠e:=AI (bf e1);have d3:=iP hd (·.setIfInBounds 1 (eD h1.objs.size));have e3:=ff (ql (·.setIfInBounds 1 (eD h1.objs.size))) e2 (jw d3);have nfT:oT.isFreed=false:=jw dT;have T3:((h1.push oT).update e (ql (·.setIfInBounds 1 (eD h1.objs.size)))).get? h1.objs.size=some oT:=(eA (h1.push oT) _ (iY nTe)).trans (cv h1 nfT);unfold setFlight;refine aa (jt e3 d3 (x:=.ref h1.objs.size) (by simp [hsz]) ?_);rw [if_pos (show (eD h1.objs.size != iK)=true from by simp)]
 have szT:3<([head,.ref L,.none,rawInt L,.none]++(if pl.isEmpty then nh 6 iK else pl)).toArray.size:=by
  simp only [dq,du,gy,yl]<;>omega
 refine uu T3 dT szT (q _ h1.objs.size ?_)
 have keep:∀ b o,b≠e->h1.get? b=some o->(((h1.push oT).update e (ql (·.setIfInBounds 1 (eD h1.objs.size)))).update h1.objs.size (ql (·.setIfInBounds 3 ((none:Option ag).elim iK λ f=>rawInt f)))).get? b=some o:=λ b o hbe hb=>by
  have hbT:h1.objs.size≠b:=AI (bf hb);rw [eA _ _ hbT,eA _ _ (iY hbe)];exact ak _ hb
 refine ⟨λ b o nb nf hb=>keep b o nb ((S.2.1 b nf).trans hb),λ b o nb hb=>?_,?_,?_,?_⟩
 ·obtain ⟨sl,z⟩:=S.2.2 b o hb
  exact ⟨sl,keep b _ nb z⟩
 ·rw [eA _ _ nTe]
  exact e3
 ·exact DQ S.1.symm
 ·refine ⟨_,_,ff _ T3 (jw (iP dT _)),iP dT _,?_⟩
  simp only [ja];rw [if_pos trivial,if_pos szT]
  rfl
theorem leave1N {base:eH} {env:Env} {outer:List Env} {L e:ag} {oe:Obj} {vs:Array af} {Q:Unit->aj->Prop}
  (hfr:A.frames=some (env::outer)) (hl:s.heap.FunFrames base (env::outer)) (hf:env.frame=some L) (he:s.heap.get? e=some oe) (hd:oe.data=.fields vs) (h1:vs[1]?=some .none)
  (q:∀ h' T,Aft (env::outer) e T oe s.heap h'->Q () { s with heap:=h' }):br M A (noteFrame (.ref e) env) (λ _ s'=>br M A (setFlight (.ref e) none) Q E s') E s:=by
 unfold noteFrame;simp only [hf];refine aa (jt he hd h1 ?_);rw [if_neg (by decide)];exact entry hfr hl hf he hd (ez.mp h1).1 q
theorem leave2N {base:eH} {env:Env} {outer:List Env} {L e T:ag} {oe oT:Obj} {vs ts:Array af} {Q:Unit->aj->Prop}
  (hfr:A.frames=some (env::outer)) (hl:s.heap.FunFrames base (env::outer)) (hf:env.frame=some L) (he:s.heap.get? e=some oe) (hd:oe.data=.fields vs) (h1:vs[1]?=some (.ref T))
  (nT:T≠e) (hT:s.heap.get? T=some oT) (dT:oT.data=.fields ts) (t3:ts[3]?=some .none)
  (q:∀ h1 h' T',(∀ b,b≠T->h1.get? b=s.heap.get? b)->h1.get? T=some (oT.mapFields (·.setIfInBounds 3 .none))->h1.objs.size=s.heap.objs.size->Aft (env::outer) e T' oe h1 h'->Q () { s with heap:=h' }):br M A (noteFrame (.ref e) env) (λ _ s'=>br M A (setFlight (.ref e) none) Q E s') E s:=by
 unfold noteFrame;simp only [hf];refine aa (jt he hd h1 ?_);rw [if_pos (show (eD T != iK)=true from by simp)];refine aa (jt hT dT t3 ?_);rw [if_neg (show ¬ ((iK == rawInt L)=true) from by simp [rawInt])];refine aa (uu hT dT (ez.mp t3).1 ?_);have other:∀ b,b≠T->(s.heap.update T (ql (·.setIfInBounds 3 iK))).get? b=s.heap.get? b:=λ b hb=>eA _ _ (iY hb)
 have noRec:∀ b o,s.heap.get? b=some o->(∀ vs,o.data≠.fields vs)->b≠T:=λ b o hb nf z=>by
  rw [z,hT] at hb;cases hb
  exact nf ts dT
 exact entry hfr (hl.of_keeps λ b o hb nf=>⟨o,(other b (noRec b o hb nf)).trans hb,rfl⟩) hf ((other e (iY nT)).trans he) hd (ez.mp h1).1
  λ h' T' a=>q _ h' T' other (ff _ hT (jw (iP dT _))) (ED _ _ _) a
end
end Ex
namespace Ex
open PySem PySem.W PyProof.Rows Builtin.ObjectAttr
section
variable {prog:cw} {w:eK} {M:qt} {A:dj} {E:af->aj->Prop} {s:aj} {K:GR} {x C:ag} {name:Str} {v:af}
structure XK0 (K:GR) (C:ag):Prop where
 cd:∃ cd,clsIn K C=some cd/\cd.hasDict=true/\cd.mro.isEmpty=false/\∀ self,refuseLoop self "__setattr__" cd.mro=pure ()
 bx:mroIn K C (.type "BaseException")=some true
 ob:mroIn K C (.type "object")=some true
 ty:typeIn K (.ref C)=some (.type "type")
 sa:findIn K (.ref C) "__setattr__" = some (some (.builtin "object.__setattr__"))
 ga:findIn K (.ref C) "__getattribute__" = some (some (.builtin "BaseException.__getattribute__"))
 gh:findIn K (.ref C) "__getattr__" = some none
 cl:findIn K (.ref C) "__class__" = some (some (.builtin "object.__class__"))
 cg:specialIn K (.builtin "object.__class__") "__get__" = some (some (.builtin "getset_descriptor.__get__"))
 ct:takesIn K (.builtin "object.__class__")=some true
theorem set_exc {vs:Array af} {sl:Array (Option af)} {Q:Unit->aj->Prop} (F:XK0 K C) (hn:findIn K (.ref C) name=some none) (X:K.In s.heap) (hx:s.heap.get? x=some ⟨.ref C,none,.fields vs,sl⟩)
  (q:∀ h' tk',h'.get? x=some ⟨.ref C,some s.heap.objs.size,.fields vs,sl⟩->h'.Ns1 s.heap.objs.size (λ y=>if y=name then some v else none) ->
   (∀ b o,b≠x->s.heap.get? b=some o->h'.get? b=some o)->Q () { s with heap:=h',toks:=tk' }) :
  br (model prog w) A (setAttr (.ref x) name v) Q E s:=by
 have I:InstAt s.heap x ⟨.ref C,none,.fields vs,sl⟩ C none:=⟨hx,rfl,rfl,trivial⟩;refine set_plain X I F.sa ?_;obtain ⟨h,g,d,t,os⟩:=s;have SF:=PySem.F.store_object;obtain ⟨cd,hc,hd,ne,hp⟩:=F.cd;have sub:Bv (model prog w) h (isInstance (.ref x) (.type "object")) true:=I.type.andThen (zg X F.ob);refine zh SF.slot.plain SF.entry (@check_slot (model prog w) _ _ ⟨h,g,d,t+1,os⟩ "object.__setattr__" "object" "__setattr__" (.ref x) [.str name t,v] [] _ SF.kind SF.split sub (SF.args (.ref x) (.str name t) v) ?_);have hm:Bv (model prog w) h (mroOf (.ref C)) cd.mro:=(looks_clsIn X hc).andThen .now;rw [osa_eq,refuse_eq];refine aa (aa (I.type.at (aa (hm.at ?_))));rw [hp];refine aq (aa (I.type.at (aa ((Bp X hn).at (aa (aq ?_))))));show br _ _ (storeInOwnDict (.ref x) (.ref C) (.str name t) name v false) _ _ _;refine aa (aq (aa (aa (CQ hx (aa ((looks_clsIn X hc).at ?_))))));rw [hd];have x1:(h.push { cls:=.type "dict",data:=.dict #[] }).get? x=some ⟨.ref C,none,.fields vs,sl⟩:=ak _ hx;have nx:x≠h.objs.size:=dh (bf hx);refine aa (wpAny_alloc' (aa (wpAny_update' x1 (aq ?_))))
 have gd:((h.push { cls:=.type "dict",data:=.dict #[] }).update x λ o=>{ cls:=o.cls,dict:=some h.objs.size,data:=o.data,slots:=o.slots }).get? h.objs.size=some { cls:=.type "dict",data:=.dict #[] } :=
  (lj _ _ _ _ nx.symm).trans (Df rfl rfl)
 have nd:((h.push { cls:=.type "dict",data:=.dict #[] }).update x λ o=>{ cls:=o.cls,dict:=some h.objs.size,data:=o.data,slots:=o.slots }).Ns h.objs.size (λ _=>none) :=
  ⟨_,#[],_,gd,rfl,λ e he=>absurd he (by simp),λ _=>rfl⟩
 show br _ _ (storeInDict h.objs.size (.str name t) name v) _ _ _;unfold storeInDict newKeyGuard;refine aa (aq (aa (wpAny_nsSet1 (Heap.Ns1.of_empty nd) λ h' hn' hs=>?_)));obtain ⟨oD,esD,epD,hoD,hdD,hcD⟩:=hn'.count (Within.cons name v Within.nil);refine aa (wpAny_lookBehind hoD (by rw [hdD];exact pastItsLine_dict (gk hcD (by rw [gy,yl,mj];omega))) (aq ?_));exact q h' _ ((hs.2 x nx).trans (ff _ x1 rfl)) hn' λ b o nb hb=>(hs.2 b (dh (bf hb))).trans ((lj _ _ _ _ nb).trans (ak _ hb))
end
section
variable {prog:cw} {w:eK} {A:dj} {E:af->aj->Prop} {s:aj} {K:GR} {x C:ag} {ox:Obj} {od:Option Obj} {name:Str} {v:af}
theorem kKQ {tk:Tok} {R:Do->aj->Prop} (F:XK0 K C) (X:K.In s.heap) (I:InstAt s.heap x ox C od)
  (h:br (model prog w) A.in1 (wb.«object.__getattribute__» ⟨[.ref x,.str name tk],[]⟩) (λ fin s'=>match fin with | .done f=>R (.ok f) s' | .again c'=>c'.quiet=true/\codeAny (model prog w) A c' R s') (λ e s'=>R (.error e) s') s) :
  codeAny (model prog w) A (.call (.builtin "BaseException.__getattribute__") ⟨[.ref x,.str name tk],[]⟩) R s:=by
 have sub:Bv (model prog w) s.heap (isInstance (.ref x) (.type "BaseException")) true:=I.type.andThen (zg X F.bx);have k1:builtinKind "BaseException.__getattribute__" = some .slot:=by decide +kernel
 have k2:splitId "BaseException.__getattribute__" = some ("BaseException","__getattribute__"):=by decide +kernel
 exact zh Am.ga.plain PySem.F.entry_bexc_ga (@check_slot (model prog w) _ _ s "BaseException.__getattribute__" "BaseException" "__getattribute__" (.ref x) [.str name tk] [] _ k1 k2 sub (PySem.F.args_bexc_ga _ _) h)
theorem kIX {tk:Tok} {fill expr:Bool} {Q:af->aj->Prop} (F:XK0 K C) (X:K.In s.heap) (I:InstAt s.heap x ox C od)
  (h:br (model prog w) A.in1 (wb.«object.__getattribute__» ⟨[.ref x,.str name tk],[]⟩) (λ fin s'=>match fin with | .done (.ret v)=>br (model prog w) A (handedOut v) Q E s' | _=>False) (λ _ _=>False) s) :
  br (model prog w) A (getAttrBy (.ref x) (.str name tk) fill expr) Q E s:=by
 obtain ⟨hh,g,d,t,os⟩:=s;have L0:=I.type (M:=model prog w);have L1:=Bp (M:=model prog w) X F.ga;have L2:=Bp (M:=model prog w) X F.gh;unfold getAttrBy;refine eQ (aa (L0.at (aa (L1.at ?_))));have n1:(vw "BaseException.__getattribute__" == vw "object.__getattribute__")=false:=by decide +kernel
 show br _ _ (if (onTheHeap (.ref C) && vw "BaseException.__getattribute__" == .builtin "object.__getattribute__")=true then _ else _) _ _ _;rw [n1,Bool.and_false,if_neg cq];unfold getAttrByItsOwn;refine aa (m:=hookBefore (.ref C)) (L2.at ?_)
 have cg:callGetattribute (.ref x) (.str name tk) (.builtin "BaseException.__getattribute__") expr=boundAndCalled (.builtin "BaseException.__getattribute__") (.ref x) (.str name tk):=by
  unfold callGetattribute;rw [show (expr && onTheHeap (vw "BaseException.__getattribute__"))=false from by cases expr<;>rfl,if_neg cq]
 rw [cg];refine aa (Co (eQ ?_));unfold boundAndCalled;rw [Am.ga.bind (.ref x)];refine aa (aq ?_);refine yj (kKQ F X I (jc h (λ fin s' z=>?_) λ _ _ z=>z.elim));rcases fin with (_ | _ | _ | _) | _<;>first | exact z | exact z.elim
theorem get_exc {expr:Bool} {Q:af->aj->Prop} (F:XK0 K C) (X:K.In s.heap) (I:InstAt s.heap x ox C od) (hf:findObj K C od name=some (.value v)) (hv:handedIn v=true)
  (q:Q v { s with toks:=s.toks+1 }):br (model prog w) A (getAttr (.ref x) name expr) Q E s:=by
 unfold getAttr;refine aa (wpAny_mkText (kIX (s:={ s with toks:=s.toks+1 }) F X I ?_))
 obtain ⟨hh,g,d,t,os⟩:=s;have L0:=I.type (M:=model prog w);have L1:=looks_find (M:=model prog w) X I hf;refine aa (aq (aa (aq (aa (L0.at (aa (L1.at (aq ?_))))))));show br _ _ (handedOut v) _ _ _;rw [handedOut_of hv];exact aq q
theorem kEU {Q:Option af->aj->Prop} (F:XK0 K C) (X:K.In s.heap) (I:InstAt s.heap x ox C od) (q:Q (some (.ref C)) { s with toks:=s.toks+1 }) :
  br (model prog w) A (getAttr? (.ref x) "__class__") Q E s:=by
 obtain ⟨cd,hc,_⟩:=F.cd
 have hf:findObj K C od "__class__" = some (.bind (.builtin "getset_descriptor.__get__") (.builtin "object.__class__")):=by
  unfold findObj;rw [hc,F.cl];simp only [Du,F.cg,F.ct]
 unfold getAttr? getAttrBy?;refine aa (wpAny_mkText (aa (Co (kIX (s:={ s with toks:=s.toks+1 }) F X I ?_))))
 obtain ⟨hh,g,d,t,os⟩:=s;have L0:=I.type (M:=model prog w);have L1:=looks_find (M:=model prog w) X I hf;refine aa (aq (aa (aq (aa (L0.at (aa (L1.at ?_)))))));show br _ _ (holding [vw "object.__class__"] (call (.builtin "getset_descriptor.__get__") [.builtin "object.__class__",.ref x,.ref C]) >>= ret) _ _ _;refine aa (eQ (yj (class_get (s:=⟨hh,g,d,t+1,os⟩) (ox:=ox) (od:=od) X I F.ob (aq ?_))));show br _ _ (handedOut (.ref C)) _ _ _;exact aq (aq q)
end
section
variable {prog:cw} {w:eK} {A:dj} {E:af->aj->Prop} {s:aj} {K:GR} {x C:ag} {ox:Obj} {od:Option Obj} {name:Str} {v:af}
theorem isT (F:XK0 K C) {M:qt} {h:eH} (X:K.In h):Bv M h (isType (.ref C)) true:=by
 obtain ⟨cd,hc,_⟩:=F.cd;unfold clsIn at hc
 split at hc
 ·rename_i c' d' cd' sl' ho
  intro A' Q' E' s' k q;unfold isType loadHead;exact aa (CQ (k _ _ (X _ _ ho)) (aq q))
 ·cases hc
theorem kitx_exc (F:XK0 K C):KitX K (.ref x) (.ref C) (λ h=>InstAt h x ox C od) where
 ty:=λ _ _ _ I=>I.type
 it:=λ _ _ X _=>isT F X
 ne:=λ h tp dd its n sl X htp=>by
  obtain ⟨cd,hc,_⟩:=F.cd;refine fv.mpr λ q=>?_;have e:C=tp:=FW (beq_iff_eq.mp q);subst e;unfold clsIn at hc
  split at hc
  ·rename_i c' d' cd' sl' ho
   have z:=(X _ _ ho).symm.trans htp;cases z
  ·cases hc
 ca:=λ X I k=>kEU F X I k
theorem raise_exc {env:Env} {m:Sem af} {Q:Flow->aj->Prop} (hh:A.handled=none)
  (h:br (model prog w) A m (λ u s1=>∃ e C od vs sl,u=.ref e/\XK0 K C/\K.In s1.heap/\s1.heap.get? e=some ⟨.ref C,od,.fields vs,sl⟩/\vs[1]?=some .none/\E (.ref e) s1) E s) :
  br (model prog w) A (raiseStmt env (some m) none) Q E s:=by
 unfold raiseStmt;refine aa (jc h (λ u s1 h1=>?_) λ _ _ z=>z);obtain ⟨e,C,od,vs,sl,rfl,F,X,he,t1,q⟩:=h1;obtain ⟨hp,g,d,tk,os⟩:=s1;have T:Bv (model prog w) hp (typeOf (.ref e)) (.ref C):=(GU he).andThen .now
 have nt:Bv (model prog w) hp (isType (.ref e)) false:=by
  intro A' Q' E' s' k q;unfold isType loadHead;exact aa (CQ (k _ _ he) (aq q))
 have B:Bv (model prog w) hp (isInstance (.ref e) (.type "BaseException")) true:=T.andThen (zg X F.bx);have TT:=looks_typeIn (M:=model prog w) X F.ty
 have n1:Bv (model prog w) hp (isExcClass (.ref e)) false:=by
  unfold isExcClass;exact nt.andThen .now
 have xf:Bv (model prog w) hp (excFromValue (.ref e) "exceptions must derive from BaseException") (.ref e):=by
  unfold excFromValue;exact n1.andThen (B.andThen .now)
 refine aa (aq (aa (eQ (xf.at ?_))))
 have ri:Bv (model prog w) hp (raisedInstance (.ref e)) (.ref e):=by
  unfold raisedInstance;exact T.andThen (TT.andThen .now)
 refine aa (nt.at ?_);show br _ _ (raisedInstance (.ref e) >>= λ e=>setFlight e none >>= λ _=>raiseNew e) _ _ _;refine aa (ri.at (aa ?_));unfold setFlight;refine aa (jt he rfl t1 ?_);rw [if_neg (by decide)];exact aq (wpAny_raiseNew_none hh q)
theorem match_exc {D:ag} {b:Bool} {Q:Bool->aj->Prop} (F:XK0 K C) (G:XK0 K D) (X:K.In s.heap) (I:InstAt s.heap x ox C od) (hm:mroIn K C (.ref D)=some b) (hb:instIn K (.ref D) (.type "tuple")=some false) (hB:mroIn K D (.type "BaseException")=some true)
  (q:Q b s):br (model prog w) A (excMatches (.ref x) (.ref D)) Q E s:=by
 obtain ⟨h,g,d,tk,os⟩:=s;have T:=I.type (M:=model prog w);have L1:=looks_instIn (M:=model prog w) X hb
 have L2:Bv (model prog w) h (isExcClass (.ref D)) true:=by
  unfold isExcClass;exact (isT G X).andThen (zg X hB)
 have L3:=zg (M:=model prog w) X hm;unfold excMatches
 repeat lk
 cases b with
 | true=>exact aq (aq (aq q))
 | false=>exact aq (aq (aq q))
theorem init_exc {rest:List af} {vs:Array af} {dd:Option ag} {sl:Array (Option af)} {t0:ag} {R:Do->aj->Prop} (F:XK0 K C) (hV:mroIn K C (.type "ValueError")=some true) (X:K.In s.heap)
  (hx:s.heap.get? x=some ⟨.ref C,dd,.fields vs,sl⟩) (h0:vs[0]?=some (.ref t0)) (hl:rest.length<=sizeLine)
  (q:∀ h' T,h'.get? x=some ⟨.ref C,dd,.fields (vs.setIfInBounds 0 (.ref T)),sl⟩->(∀ b o,b≠x->s.heap.get? b=some o->h'.get? b=some o)->R (.ok (.ret .none)) { s with heap:=h' }) :
  codeAny (model prog w) A (.call (.builtin "ValueError.__init__") ⟨.ref x::rest,[]⟩) R s:=by
 have B:=An;obtain ⟨h,g,d,tk,os⟩:=s;have T:Bv (model prog w) h (typeOf (.ref x)) (.ref C):=(GU hx).andThen .now;have sub:Bv (model prog w) h (isInstance (.ref x) (.type "ValueError")) true:=T.andThen (zg X hV);have st:∀ (a b:String) (n:Nat),Bind.check ⟨.positional,"*","ValueError",.self,[⟨"args",.varPos,false⟩]⟩ a b n (List.map (λ x=>x.fst) ({ pos:=eD x::rest }:Args).kw)=pure ():=λ a b n=>check_star_args _ _ _ _ _ _;refine zh B.init.plain B.initEntry ?_;simp only [checkBuiltinCall,B.initKind,B.initSplit,B.initRow];refine aa (sub.at ?_);rw [if_neg (by decide)];obtain ⟨cd,hc,_⟩:=F.cd
 obtain ⟨cc,dC,slC,ho⟩ : ∃ cc dC slC,K.lookup C=some ⟨cc,dC,.cls cd,slC⟩:=by
  unfold clsIn at hc
  split at hc
  ·rename_i c' d' cd' sl' ho
   cases hc
   exact ⟨_,_,_,ho⟩
  ·cases hc
 have hC:h.get? C=some ⟨cc,dC,.cls cd,slC⟩:=X _ _ ho;have c2:=B.noStar
 repeat (first | with_reducible refine kv hx ?_ | with_reducible refine kv hC ?_ | wp_step)
 refine wpAny_onRaise ?_;rw [st];refine aq ?_;unfold wb.«BaseException.__init__»;show br _ _ (newTuple rest >>= λ t=>zi (.ref x) 0 t >>= λ _=>ret .none) _ _ _;unfold newTuple;refine aa (fu ?_ (by show rest.toArray.size<=sizeLine;rw [dq];exact hl));have x1:=ak (h:=h) { cls:=.type "tuple",data:=.seq rest.toArray } hx;have sz:0<vs.size:=(ez.mp h0).1;unfold zi;refine aa (aa (jt x1 rfl h0 (aa (uu x1 rfl sz (BE (aq ?_))))));refine q _ h.objs.size (ff _ x1 rfl) λ b o nb hb=>?_;rw [eA _ _ (iY nb)];exact ak _ hb
end
section
variable {prog:cw} {w:eK} {A:dj} {E:af->aj->Prop} {h:eH} {g:Array EY} {d:Drawn} {t:Nat} {os:OsState} {K:GR}
variable {nm q:Str} {C N:ag} {bs bm bmB:List af} {hdct:Bool} {sn:List Str} {sub:List af} {ab:Bool} {col:Option Bool} {dd:Option ag} {k0 k1 k2 k3 k5:Option af} {B newId initId:String}
theorem tO (F:Bo B newId initId bmB) (U:Up B bm) {rest:List af} {fI:ag} {Q:Fin->aj->Prop} (hrest:rest.length<=sizeLine) (X:K.In h)
  (hC:h.get? C=some (excClassObj nm q C N bs bm hdct sn sub ab col dd k0 k1 k2 k3 k5 newId)) (hi:findIn K (.ref C) "__init__" = some (some (.ref fI))) (hfn:typeIn K (.ref fI)=some (.type "function"))
  (hq:∀ h' e,h.objs.size<=e->Er h h' e (.ref C) rest->br (model prog w) A (call (.ref fI) (.ref e::rest)) (λ r s'=>r=.none/\Q (.done (.ret (.ref e))) s') E ⟨h',g,d,t,os⟩) :
  br (model prog w) A (wb.«type.__call__» ⟨.ref C::rest,[]⟩) Q E ⟨h,g,d,t,os⟩:=by
 repeat (first | with_reducible refine kv hC ?_ | with_reducible refine EE hC ?_ | wp_step)
 refine codeAny_call_builtin_code (Aj _ F.quiet) (kEW F U hC (kKS F U hC hrest ?_));show br _ _ _ _ _ _;have k2:∀ {b:ag} {o:Obj},h.get? b=some o->((h.push { cls:=.type "tuple",data:=.seq rest.toArray }).push { cls:=.ref C,data:=.fields #[.ref h.objs.size,.none,.none,.none,.bool false,.none] }).get? b=some o:=λ e=>ak _ (ak _ e);have X1:K.In ((h.push { cls:=.type "tuple",data:=.seq rest.toArray }).push { cls:=.ref C,data:=.fields #[.ref h.objs.size,.none,.none,.none,.bool false,.none] }):=λ a o e=>k2 (X a o e);have hC₁:=k2 hC;have hget:((h.push { cls:=.type "tuple",data:=.seq rest.toArray }).push { cls:=.ref C,data:=.fields #[.ref h.objs.size,.none,.none,.none,.bool false,.none] }).get? (h.objs.size+1)=some { cls:=.ref C,data:=.fields #[.ref h.objs.size,.none,.none,.none,.bool false,.none] }:=by heap_get
 have hcC:(eD C::bm).contains (.ref C)=true:=by simp
 unfold isInstance
 repeat (first | with_reducible refine kv hget ?_ | (with_reducible refine AF hC₁ ?_;rw [hcC]) | wp_step)
 show br _ _ (typeLookup (.ref C) _) _ _ _;refine (Bp (M:=model prog w) X1 hi).at ?_;refine eQ (aa ?_);unfold bindSpecial;refine aa ((looks_typeIn (M:=model prog w) X1 hfn).at ?_);rw [if_pos (by decide)];refine aq (aa (jc (hq _ (h.objs.size+1) (BC _) ⟨λ b o hb=>k2 hb,yx (BC _),h.objs.size,hget,yx (ba _),ak _ (Df rfl rfl)⟩) (λ r s' hr=>?_) λ _ _ x=>x));obtain ⟨rfl,hQ⟩:=hr
 wp_walk
 exact hQ
theorem call_excK (F:Bo B newId initId bmB) (U:Up B bm) {rest:List af} {fI:ag} {Q:af->aj->Prop} (hrest:rest.length<=sizeLine) (X:K.In h)
  (hC:h.get? C=some (excClassObj nm q C N bs bm hdct sn sub ab col dd k0 k1 k2 k3 k5 newId)) (hi:findIn K (.ref C) "__init__" = some (some (.ref fI))) (hfn:typeIn K (.ref fI)=some (.type "function"))
  (hq:∀ h' e,h.objs.size<=e->Er h h' e (.ref C) rest ->
   br (model prog w) (A.under (.builtin "type.__call__" ⟨.ref C::rest,[]⟩)) (call (.ref fI) (.ref e::rest)) (λ r s'=>r=.none/\Q (.ref e) s') E ⟨h',g,d,t,os⟩) :
  br (model prog w) A (call (.ref C) rest) Q E ⟨h,g,d,t,os⟩:=by
 have f1:=tc_lookup;have f2:=tc_bind (.ref C);have hT:(⟨h,g,d,t,os⟩ : aj).TypeIs (.ref C) "type":=⟨_,hC,rfl⟩;refine yj (EV ?_);show br _ _ (callAny (.ref C) ⟨rest,[]⟩) _ _ _
 repeat (any_goals (first | assumption | with_reducible refine kv hC ?_ | wp_step))
 refine ⟨rfl,?_⟩;refine codeAny_call_builtin_at (Aj _ (by decide +kernel)) entry_typeCall (wpAny_check_type_call_sub hC (tO F U hrest X hC hi hfn λ h' e he hm=>?_));exact hq h' e he hm
end
end Ex
namespace L2
open PySem PySem.Spec PyProof.Rows
def XO (e C:ag) (dx:Option ag) (t1:af) (h:eH):Prop:=∃ vs sl,h.get? e=some ⟨.ref C,dx,.fields vs,sl⟩/\(∃ t0,vs[0]?=some (.ref t0))/\vs[1]?=some t1
def TrB (T:ag) (h:eH):Prop:=∃ o ts,h.get? T=some o/\o.data=.fields ts/\ts[3]?=some .none
theorem XO.ok {P:cw} {w:eK} {H:Hp} {h:eH} {e C:ag} {dx:Option ag} {t1:af} (x:XO e C dx t1 h):ObjOk P w H h e (.ext (XO e C dx t1)):=by
 refine ⟨x,?_,λ h1 h2 y k=>?_⟩
 ·obtain ⟨vs,sl,e,_⟩:=x
  exact ⟨_,e⟩
 ·obtain ⟨vs,sl,e,r⟩:=y
  exact ⟨vs,sl,k _ e,r⟩
theorem TrB.ok {P:cw} {w:eK} {H:Hp} {h:eH} {T:ag} (x:TrB T h):ObjOk P w H h T (.ext (TrB T)):=by
 refine ⟨x,?_,λ h1 h2 y k=>?_⟩
 ·obtain ⟨o,ts,e,_⟩:=x
  exact ⟨_,e⟩
 ·obtain ⟨o,ts,e,r⟩:=y
  exact ⟨o,ts,k _ e,r⟩
theorem uC {H:Hp} {a:ag} {o:HO} (h:H a=some o):upd H a o=H:=by
 funext b
 by_cases e:b=a
 ·subst e;rw [kD,h]
 ·rw [kN e]
section
variable {P:cw} {w:eK} {H:Hp} {h h':eH} {a d:ag} {o1 o2:HO} {fs ex:List ag}
theorem HOk.two (ok:HOk P w H h) (mu:Mut (H a)) (hd:h.objs.size<=d) (k:∀ b u,b≠a->h.get? b=some u->h'.get? b=some u)
  (n1:ObjOk P w (upd (upd H d o1) a o2) h' d o1) (n2:ObjOk P w (upd (upd H d o1) a o2) h' a o2):HOk P w (upd (upd H d o1) a o2) h':=λ b u q=>by
 have nown:∀ c y,H c=some (.own y)->c≠a:=λ c y r z=>by subst z;rw [r] at mu;exact mu
 have ntup:∀ c xs,H c=some (.tup xs)->c≠a:=λ c xs r z=>by subst z;rw [r] at mu;exact mu
 have nd:H d=none:=ok.fresh hd;by_cases hb:b=a
 ·subst hb;rw [kD] at q;cases q;exact n2
 ·rw [kN hb] at q
  by_cases hbd:b=d
  ·subst hbd;rw [kD] at q;cases q;exact n1
  ·rw [kN hbd] at q
   refine (ok b u q).stay (λ c v hc r=>k c v ?_ r) (λ c r=>by rw [kN (nown c b r),kN (kR r nd)];exact r) λ c xs r=>by rw [kN (ntup c xs r),kN (kR r nd)];exact r
   rcases hc with rfl | hc
   ·exact hb
   ·exact nown c b hc
theorem Un.two (mu:Mut (H a)) (hd:h.objs.size<=d) (nd:H d=none) (k:∀ b u,b≠a->h.get? b=some u->h'.get? b=some u) (he:∃ u,h'.get? a=some u):Un fs ex H (upd (upd H d o1) a o2) h h':=by
 have hx:∀ b,H b=none->b≠a:=λ b n z=>by subst z;rw [n] at mu;exact mu
 have hm:∀ b u,H b=some u->¬ Mut (some u)->b≠a:=λ b u q nm z=>by subst z;rw [q] at mu;exact nm mu
 refine ⟨λ b u q n _ _=>k b u (hx b n) q,λ b u q n _ _=>⟨u.slots,k b u (hx b n) q⟩,λ b u q n _=>by rw [kN (hx b n),kN (dh (be (bf q) hd))];exact n,λ b u q _=>?_,
  λ b xs q=>by rw [kN (hm b _ q λ z=>z),kN (kR q nd)];exact q,λ b u xs q=>by rw [kN (hm b _ q λ z=>z),kN (kR q nd)];exact q,
  λ b ps q=>⟨#[],by rw [kN (hm b _ q λ z=>z),kN (kR q nd),q];simp⟩⟩
 by_cases hb:b=a
 ·subst hb;exact he
 ·exact ⟨u,k b u hb q⟩
end
structure XM (K:ai) (C f:ag):Prop where
 x0:Ex.XK0 K C
 obj:∃ nm q N bs bm hdct sn sub ab col dd k0 k1 k2 k3 k5,K.lookup C=some (excClassObj nm q C N bs bm hdct sn sub ab col dd k0 k1 k2 k3 k5 "ValueError.__new__")/\Ex.Up "ValueError" bm
 init:eV K (.ref C) "__init__" = some (some (.ref f))
 fn:xw K (.ref f)=some (.type "function")
 kp:iD K (.ref C)=true
def kMV (C:ag) (sp:Sp) (t:TA):TE:=λ σ H Q=>t σ H λ vs H1=>∀ x,H1 x=none->sp (.ref x::vs) (upd H1 x (.ext (XO x C none .none))) (λ v H2=>v=.non/\Q (.ref x) H2) E0
section
variable {X:Cx} {k:Nat} {f C:ag} {fd:fj} {ps:List Str} {sp:Sp} {x m:Str} {p pos apos:Pos} {e o:fm} {es:List fm} {ta:TE} {t:TA}
theorem kDX {pins:List (ag×Obj)} {σ:St} {H:Hp} {s:aj} {Q:VK} {us:List af} {vs:List V} (M:XM X.K C f) (F:FnOk X.prog X.w X.K X.mg X.base CX0 k f fd ps sp) (hr:Room (k+1) X.A) (hb:Binds X.K fd ps []) (hs:ps.length<=100)
  (I:Inv X pins σ H s) (r:Vals vs us)
  (h:∀ x,H x=none->sp (.ref x::vs) (upd H x (.ext (XO x C none .none))) (λ v H2=>v=.non/\Q (.ref x) H2) E0) :
  br (model X.prog X.w) X.A (call (.ref C) us) (EP X pins σ Q) X.xe s:=by
 have hl0:us.length+1=ps.length:=by
  have:=F.len _ _ _ _ (h s.heap.objs.size (I.hok.fresh (ba _)));rw [gy,r.length] at this;exact this
 obtain ⟨nm,q,N,bs,bm,hdct,sn,sub,ab,col,dd,k0,k1,k2,k3,k5,lk,U⟩:=M.obj;obtain ⟨h0,g,d,tk,os⟩:=s;have KX:X.K.In h0:=I.kIn;refine Ex.call_excK (K:=X.K) (fI:=f) An U (by rw [mj];omega) KX (KX _ _ lk) M.init M.fn λ h' x hx hm=>?_
 have I2:Inv X pins σ (upd H x (.ext (XO x C none .none))) ⟨h',g,d,tk,os⟩:=by
  refine I.laid (t':=tk) hm.keeps hx (XO.ok ?_);obtain ⟨t0,e0,_⟩:=hm.there;exact ⟨_,_,e0,⟨t0,rfl⟩,rfl⟩
 have hq:=h x (I.hok.fresh hx);have r2:Vals (V.ref x::vs) (eD x::us):=.cons rfl r;have hl:((eD x::us)++[]).length=ps.length:=by rw [jq,gy];exact hl0
 have bb:=hb _ (eD x::us) I2.kIn hl;rw [jq] at bb;refine yj (AJ (F.run _ X.stack _ _ ⟨eD x::us,[]⟩ (eD x::us) _ _ E0 (hr.make C us []) (I2.env0.make C us []) bb r2 hq) λ rr s' hq'=>?_)
 cases rr with
 | error e=>exact hq'.elim
 | ok fl =>
  cases fl with
  | ret u =>
   obtain ⟨v,H',I3,rv,ev,q3⟩:=I2.after hq';subst ev;exact ⟨rv,⟨V.ref x,H',I3,rfl,q3⟩⟩
  | next=>exact iL hq'
  | brk=>exact iL hq'
  | cont=>exact iL hq'
theorem kHE (M:XM X.K C f) (F:FnOk X.prog X.w X.K X.mg X.base CX0 k f fd ps sp) (hr:Room (k+1) X.A) (hg:Gl X x) (hm:X.mg x=some (.ref C)) (hb:Binds X.K fd ps []) (hs:ps.length<=100)
  (ha:PA X (e::es) t) (hdb:(x == ("__debug__" : Str))=false:=by decide) (he:starEach (e::es) X.env=(false,eval e X.env)::starEach es X.env:=by rfl) (hpl:(backTo pos (starEach es X.env)).any (·.1)=false:=by rfl) :
  PE X (.Call (.Name x p) (e::es) [] pos) (kMV C sp t):=by
 intro pins s σ H Q I h;refine so (wV I hg hm ?_ hdb);refine wj (h₀:=X.base) I.ok.mod.kin M.kp (thn (ha pos pins s σ H _ I h) λ us s1 ⟨vs,H1,I1,r,q⟩=>⟨I1.kIn,?_⟩) he hpl;exact kDX M F hr hb hs I1 r q
end
inductive kBF (K:ai) (Q:VK) (vs:List V) (H1:Hp):Prop
 | mk:∀ a C dx rest,(vs=.ref a::rest)->(H1 a=some (.ext (XO a C dx .none)))->(Ex.XK0 K C)->(ip K C (.type "ValueError")=some true)->(rest.length<=100)->(Q .non H1)->kBF K Q vs H1
def kMW (K:ai) (t:TA):TE:=λ σ H Q=>t σ H λ vs H1=>kBF K Q vs H1
inductive kGP (K:ai) (f:Str) (D:Ends) (σ:St) (y:V) (x:V) (H2:Hp):Prop
 | mk:∀ a C,(x=.ref a)->(H2 a=some (.ext (XO a C none .none)))->(Ex.XK0 K C)->(eV K (.ref C) f=some none)->(∀ d,H2 d=none->d≠a->D.nx σ (upd (upd H2 d (.xd [(f,y)])) a (.ext (XO a C (some d) .none))))->kGP K f D σ y x H2
def kPU (K:ai) (ta tv:TE) (f:Str):TS:=λ D σ H=>tv σ H λ y H1=>ta σ H1 λ x H2=>kGP K f D σ y x H2
section
variable {X:Cx} {k:Nat} {f C:ag} {fd:fj} {ps:List Str} {sp:Sp} {x m:Str} {p pos apos pos':Pos} {e o value:fm} {es:List fm} {ta tv:TE} {t:TA}
theorem kHF {pl:Sem Bool} (hg:Gl X "ValueError") (hm:X.mg "ValueError" = none) (hc:oz X.K (.type "ValueError") (.type "type") "__init__" = some (.val (.builtin "ValueError.__init__"))) (ha:PA X (e::es) t)
  (hst:starEach (e::es) X.env=(false,eval e X.env)::starEach es X.env:=by rfl) (hpl:(backTo pos (starEach es X.env)).any (·.1)=false:=by rfl)
  (ht:eval (.Call (.Attribute (.Name "ValueError" p) "__init__" apos) (e::es) [] pos) X.env=(do
   let ov <-eval (.Name "ValueError" p) X.env
   standAt apos.atName
   let (f,first) <-holding [ov] (getMethod ov "__init__" pl)
   callWith pos f first (backTo pos (starEach (e::es) X.env)) (backToKw pos (keywordEach [] X.env))):=by rfl) :
  PE X (.Call (.Attribute (.Name "ValueError" p) "__init__" apos) (e::es) [] pos) (kMW X.K t):=by
 intro pins s σ H Q I h;have bv:bootBuiltins "ValueError" = some (.type "ValueError"):=by decide +kernel
 refine CB (pl:=pl) (vV I hg hm bv ?_) ht;obtain ⟨m,fr⟩:=I.fr;refine PySem.W.method_type fr I.ok.mod.kin rfl (by decide +kernel) hc rfl ?_;have I0:=I.tok (s.toks+1);refine yk (thn (ha pos pins _ σ H _ I0 h) λ us s1 ⟨vs,H1,I1,r,a,C,dx,rest,ev,ha,x0,hV,hl,q⟩=>?_) hst hpl;subst ev
 obtain ⟨u,us,rfl,ru,rr⟩ : ∃ u us',us=u::us'/\RelV (.ref a) u/\Vals rest us':=by
  cases r with
  | cons a b=>exact ⟨_,_,rfl,a,b⟩
 cases ru
 obtain ⟨⟨ws,sl,he,⟨t0,h0⟩,h1⟩,_⟩:=I1.hok a _ ha;refine yj (Ex.init_exc (K:=X.K) x0 hV I1.kIn he h0 (by rw [<-rr.length,mj];omega) λ h' T g1 g2=>?_);refine ⟨.non,H1,?_,rfl,q⟩
 have:=I1.write (h':=h') (t':=s1.toks) (x:=a) (e:=a) (o:=.ext (XO a C dx .none)) (by rw [ha];exact qh) (.inl rfl) (λ b u nb e=>g2 b u nb e) ⟨_,g1⟩
  (XO.ok ⟨_,_,g1,⟨T,by rw [ja];rw [if_pos rfl,if_pos (ez.mp h0).1]⟩,by rw [yc (by decide)];exact h1⟩)
 rw [uC ha] at this;exact this
theorem kHH {pl:Sem Bool} {D:ag} {d:Str} {mc:af} (hg:Gl X d) (hm:X.mg d=some (.ref D)) (h1:kl X.K (.ref D) "__getattribute__" = some (some (.builtin "type.__getattribute__"))) (h2:AC X.K D mc=true)
  (h3:oz X.K (.ref D) mc "__init__" = some (.val (.ref f))) (hk:iD X.K (.ref f)=true) (F:FnOk X.prog X.w X.K X.mg X.base CX0 k f fd ps sp) (hr:Room k X.A) (hb:Binds X.K fd ps []) (ha:PA X (e::es) t)
  (hd:(d == ("__debug__" : Str))=false:=by decide) (hst:starEach (e::es) X.env=(false,eval e X.env)::starEach es X.env:=by rfl) (hpl:(backTo pos (starEach es X.env)).any (·.1)=false:=by rfl)
  (ht:eval (.Call (.Attribute (.Name d p) "__init__" apos) (e::es) [] pos) X.env=(do
   let ov <-eval (.Name d p) X.env
   standAt apos.atName
   let (f,first) <-holding [ov] (getMethod ov "__init__" pl)
   callWith pos f first (backTo pos (starEach (e::es) X.env)) (backToKw pos (keywordEach [] X.env))):=by rfl) :
  PE X (.Call (.Attribute (.Name d p) "__init__" apos) (e::es) [] pos) (dD sp [] E0 t):=by
 intro pins s σ H Q I h;refine CB (pl:=pl) (wV I hg hm ?_ hd) ht;refine PySem.W.method_cls I.kIn h1 (PySem.W.cls_value I.kIn h2 h3 rfl ?_);have I0:=I.tok (s.toks+1);refine wj (first:=[]) (h₀:=X.base) I.ok.mod.kin hk (thn (ha pos pins _ σ H _ I0 h) λ us s1 ⟨vs,H1,I1,r,q⟩=>⟨I1.kIn,?_⟩) hst hpl;exact kGQ F hr hb .nil kLY I1 r q
theorem kJQ {f:Str} (ha:PE X o ta) (hv:PE X value tv) (hs:swapsWith value (some (.Attribute o f pos')) pos.line X.env=pure false):PS X (.Assign [.Attribute o f pos'] value pos) (kPU X.K ta tv f):=by
 intro pins s σ H D I h;refine plainObj_wpAny_Assign_Attribute (thn (hv pins s σ H _ I h) λ u s1 ⟨y,H1,I1,ry,q⟩=>thn (ha pins s1 σ H1 _ I1 q) λ ov s2 ⟨x,H2,I2,rx,a,C,ex,ea,x0,n,q2⟩=>?_) hs;subst ex;obtain rfl:ov=eD a:=rx;obtain ⟨⟨ws,sl,he,t0,h1⟩,_⟩:=I2.hok a _ ea;have mu:Mut (H2 a):=by rw [ea];exact qh
 have nd:H2 s2.heap.objs.size=none:=I2.hok.fresh (ba _);have na:s2.heap.objs.size≠a:=AI (bf he);refine Ex.set_exc (K:=X.K) x0 n I2.kIn he λ h' tk' g1 g2 g3=>⟨σ,_,?_,q2 s2.heap.objs.size nd na⟩;refine I2.un (t':=tk') (Un.two mu (ba _) nd g3 ⟨_,g1⟩) (HOk.two I2.hok mu (ba _) g3 ?_ (XO.ok ⟨_,_,g1,t0,h1⟩));refine ⟨_,g2,λ g=>?_⟩;show RelO (EK g [(f,y)]) (if g=f then some u else none);by_cases e:g=f
 ·subst e
  rw [if_pos rfl,List.lookup_cons_self];exact ry
 ·rw [if_neg e]
  have:(g == f)=false:=by simpa using e
  simp only [EK,this]
  trivial
end
def XAt (H:Hp) (a C:ag) (dx:Option ag) (t1:af):Prop:=H a=some (.ext (XO a C dx t1))/\∀ d,dx=some d->∃ fs,H d=some (.xd fs)
inductive kFN (K:ai) (f:Str) (Q:VK) (x:V) (H1:Hp):Prop
 | mk:∀ a C d t1 fs v,(x=.ref a)->(H1 a=some (.ext (XO a C (some d) t1)))->(H1 d=some (.xd fs))->(Ex.XK0 K C)->(eV K (.ref C) f=some none)->(fs.lookup f=some v)->(Q v H1)->kFN K f Q x H1
def kLF (K:ai) (ta:TE) (f:Str):TE:=λ σ H Q=>ta σ H λ x H1=>kFN K f Q x H1
section
variable {X:Cx} {pins:List (ag×Obj)} {σ:St} {H:Hp} {s:aj} {e:fm} {f:Str} {pos:Pos} {ta:TE}
theorem XAt.inst (I:Inv X pins σ H s) {a C:ag} {dx:Option ag} {t1:af} (x:XAt H a C dx t1):∃ ox od,Eb s.heap a ox C od:=by
 obtain ⟨⟨ws,sl,he,_⟩,_⟩:=I.hok a _ x.1
 cases dx with
 | none=>exact ⟨_,none,he,rfl,rfl,trivial⟩
 | some d =>
  obtain ⟨fs,hd⟩:=x.2 d rfl;obtain ⟨mA,⟨o,es,ep,e,_⟩,_⟩:=I.hok d _ hd;exact ⟨_,some o,he,rfl,rfl,e⟩
theorem kJS (he:PE X e ta) (hb:attributeBase e f X.env (eval e X.env)=eval e X.env):PE X (.Attribute e f pos) (kLF X.K ta f):=by
 intro pins s σ H Q I h;refine kKZ hb (thn (he pins s σ H _ I h) λ u s1 ⟨x,H1,I1,rx,a,C,d,t1,fs,v,ex,ea,ed,x0,n,l,q⟩=>?_);subst ex;obtain rfl:u=eD a:=rx;obtain ⟨⟨ws,sl,hx,_⟩,_⟩:=I1.hok a _ ea;obtain ⟨mA,ns,hm⟩:=I1.hok d _ ed;obtain ⟨od,ho,hl⟩:=mT ns;obtain ⟨u,hu,ru⟩:=RelO.some_of (v:=v) (o:=mA f) (by rw [<-l];exact hm f);obtain ⟨cd,hc,hd,_⟩:=x0.cd;have hdi:Aw X.K C=true:=by unfold Aw;rw [hc];exact hd
 exact Ex.get_exc x0 I1.kIn (ox:=⟨.ref C,some d,.fields ws,sl⟩) (od:=some od) ⟨hx,rfl,rfl,ho⟩ (PySem.W.findObj_own hdi n rfl (by rw [hl,hu])) (kEP ru) ⟨v,H1,I1.tok _,ru,q⟩
inductive vY (K:ai) (xs:List V) (H:Hp) (Q:VK):Prop
 | mk:∀ a C dx t1 y u b,(xs=[.ref a,y])->(RelV y u)->((∀ u',RelV y u'->u'=u))->(XAt H a C dx t1)->(Ex.XK0 K C)->(ir K (.ref C) u=some b)->(Q (.bl b) H)->vY K xs H Q
theorem qF:xB X (.builtin "isinstance") (vY X.K):=by
 intro pins s σ H xs us Q I r h;obtain ⟨a,C,dx,t1,y,u,b,rfl,ry,uy,xa,x0,e,q⟩:=h;obtain ⟨u1,u2,rfl,r1,r2⟩:=rE r;cases r1
 obtain rfl:=uy _ r2;obtain ⟨ox,od,J⟩:=xa.inst I;exact iI (Ex.kitx_exc x0) I.kIn J e (λ z=>nomatch z) λ tk=>⟨.bl b,H,I.tok _,rfl,q⟩
end
abbrev tr2 (H:Hp) (a C:ag) (dx:Option ag) (T:ag):Hp:=upd (upd H T (.ext (TrB T))) a (.ext (XO a C dx (.ref T)))
section
variable {P:cw} {w:eK} {H H1 H2:Hp} {h h1 h2 h':eH} {a C T:ag} {dx:Option ag} {t1:af} {l:List Env} {fs fs':List ag}
theorem Un.transL (x:Un fs [] H H1 h h1) (y:Un fs' [] H1 H2 h1 h2) (hs:∀ b o,h.get? b=some o->b∈fs'->b∈fs):Un fs [] H H2 h h2 where
 keep:=λ c ob q n hc hx=>y.keep c ob (x.keep c ob q n hc hx) (x.free c ob q n hx) (λ z=>hc (hs c ob q z)) hx
 slot:=λ c ob q n hc hx=>by
  obtain ⟨sl,e1⟩:=x.slot c ob q n hc hx;obtain ⟨sl',e2⟩:=y.any e1 (x.free c ob q n hx) hx;exact ⟨sl',e2⟩
 free:=λ c ob q n hx=>by
  obtain ⟨o',e1⟩:=x.there c ob q hx;exact y.free c o' e1 (x.free c ob q n hx) hx
 there:=λ c ob q hx=>by
  obtain ⟨o',e1⟩:=x.there c ob q hx;exact y.there c o' e1 hx
 tups:=λ c xs q=>y.tups c xs (x.tups c xs q)
 frzs:=λ c ob xs q=>y.frzs c ob xs (x.frzs c ob xs q)
 tbls:=λ c ps q=>by
  obtain ⟨m1,e1⟩:=x.tbls c ps q;obtain ⟨m2,e2⟩:=y.tbls c _ e1;exact ⟨m1++m2,by rw [e2,AU]⟩
theorem aft (ok:HOk P w H h) (ea:H a=some (.ext (XO a C dx t1))) (fr:∀ b∈frs l,H b=none) {vs:Array af} {sl:Array (Option af)} {t0:ag} (h0:vs[0]?=some (.ref t0)) (hv1:vs[1]?=some t1)
  (A:Ex.Aft l a T ⟨.ref C,dx,.fields vs,sl⟩ h h'):H T=none/\T≠a/\Un (frs l) [] H (tr2 H a C dx T) h h'/\HOk P w (tr2 H a C dx T) h':=by
 have nT:H T=none:=ok.fresh A.n;have na:T≠a:=λ z=>by subst z;rw [nT] at ea;cases ea
 have mu:Mut (H a):=by rw [ea];exact qh
 have nown:∀ c y,H c=some (.own y)->c≠a:=λ c y r z=>by subst z;rw [r] at mu;exact mu
 have hx:∀ b,H b=none->b≠a:=λ b n z=>by subst z;rw [n] at mu;exact mu
 have hm:∀ b u,H b=some u->¬ Mut (some u)->b≠a:=λ b u q nm z=>by subst z;rw [q] at mu;exact nm mu
 have nfr:∀ b u,H b=some u->b∉frs l:=λ b u q z=>by rw [fr b z] at q;cases q
 unfold tr2;refine ⟨nT,na,⟨λ b u q n nf _=>A.k b u (hx b n) nf q,λ b u q n _ _=>A.f b u (hx b n) q,λ b u q n _=>?_,λ b u q _=>?_,λ b xs q=>?_,λ b u xs q=>?_,λ b ps q=>⟨#[],?_⟩⟩,λ b u q=>?_⟩
 ·rw [kN (hx b n),kN (dh (be (bf q) A.n))];exact n
 ·by_cases hb:b=a
  ·subst hb;exact ⟨_,A.e⟩
  ·obtain ⟨sl,z⟩:=A.f b u hb q
   exact ⟨_,z⟩
 ·rw [kN (hm b _ q λ z=>z),kN (kR q nT)];exact q
 ·rw [kN (hm b _ q λ z=>z),kN (kR q nT)];exact q
 ·rw [kN (hm b _ q λ z=>z),kN (kR q nT),q];simp
 ·by_cases hb:b=a
  ·subst hb
   rw [kD] at q;cases q
   refine XO.ok ⟨_,_,A.e,⟨t0,?_⟩,?_⟩
   ·rw [yc (by decide)];exact h0
   ·rw [ja,if_pos rfl,if_pos (ez.mp hv1).1]
  ·rw [kN hb] at q
   by_cases hbT:b=T
   ·subst hbT
    rw [kD] at q;cases q
    obtain ⟨oT,ts,e1,e2,e3⟩:=A.t;exact TrB.ok ⟨oT,ts,e1,e2,e3⟩
   ·rw [kN hbT] at q
    refine (ok b u q).stay (λ c v hc r=>?_) (λ c r=>by rw [kN (nown c b r),kN (kR r nT)];exact r) λ c xs r=>by rw [kN (hm c _ r λ z=>z),kN (kR r nT)];exact r
    rcases hc with rfl | hc
    ·exact A.k c v hb (nfr c _ q) r
    ·exact A.k c v (nown c b hc) (nfr c _ hc) r
end
section
variable {X:Cx} {pins:List (ag×Obj)} {σ:St} {H:Hp} {s:aj} {a C:ag} {dx:Option ag} {t1:af}
theorem kCQ {M:qt} {Q:Unit->aj->Prop} {E:af->aj->Prop} (I:Inv X pins σ H s) (hst:X.stack=X.env::X.outer) (hf:X.env.frame=some X.env.locals) (ea:H a=some (.ext (XO a C dx t1)))
  (ht:t1=.none\/∃ T,t1=.ref T/\T≠a/\H T=some (.ext (TrB T)))
  (q:∀ T h',H T=none->T≠a->Un (frs X.stack) [] H (tr2 H a C dx T) s.heap h'->HOk X.prog X.w (tr2 H a C dx T) h'->Q () { s with heap:=h' }):br M X.A (noteFrame (.ref a) X.env) (λ _ s'=>br M X.A (setFlight (.ref a) none) Q E s') E s:=by
 obtain ⟨⟨vs,sl,he,⟨t0,h0⟩,h1⟩,_⟩:=I.hok a _ ea;have fr:=I.stkFree;have fun0:=I.stack;have frm:=I.ok.frames;rw [hst] at fr fun0 frm q;rcases ht with rfl | ⟨T0,rfl,nT,eT⟩
 ·refine Ex.leave1N frm fun0 hf he rfl h1 λ h' T A=>?_
  obtain ⟨z1,z2,z3,z4⟩:=aft I.hok ea fr h0 h1 A;exact q T h' z1 z2 z3 z4
 ·obtain ⟨⟨oT,ts,e1,e2,e3⟩,_⟩:=I.hok T0 _ eT
  refine Ex.leave2N frm fun0 hf he rfl h1 nT e1 e2 e3 λ g h' T g1 g2 g3 A=>?_;have mu:Mut (H T0):=by rw [eT];exact qh
  have kk:∀ b u,b≠T0->s.heap.get? b=some u->g.get? b=some u:=λ b u nb e=>(g1 b nb).trans e;have tb:TrB T0 g:=⟨_,_,g2,iP e2 _,by rw [ja,if_pos rfl,if_pos (ez.mp e3).1]⟩
  have hok1:HOk X.prog X.w H g:=by
   have:=I.hok.write (x:=T0) (e:=T0) (o':=.ext (TrB T0)) mu (.inl rfl) kk ⟨_,g2⟩ (TrB.ok tb);rw [uC eT] at this;exact this
  have un1:Un (frs (X.env::X.outer)) [] H H s.heap g:=by
   have:=Un.write (fs:=frs (X.env::X.outer)) (ex:=[]) (o:=.ext (TrB T0)) mu (.inl rfl) kk ⟨_,g2⟩;rw [uC eT] at this;exact this
  obtain ⟨z1,z2,z3,z4⟩:=aft hok1 ea fr h0 h1 A;exact q T h' z1 z2 (un1.trans z3) z4
theorem kHV {M:qt} {Q:Unit->aj->Prop} {E:af->aj->Prop} (I:Inv X pins σ H s) (hst:X.stack=X.env::X.outer) (hf:X.env.frame=some X.env.locals) (ea:H a=some (.ext (XO a C dx t1)))
  (ht:t1=.none\/∃ T,t1=.ref T/\T≠a/\H T=some (.ext (TrB T)))
  (q:∀ T h',H T=none->T≠a->Un (frs X.stack) [] H (tr2 H a C dx T) s.heap h'->HOk X.prog X.w (tr2 H a C dx T) h'->Q () { s with heap:=h' }):br M X.A (leaving X.env (.ref a)) Q E s:=by
 unfold leaving;exact aa (kCQ I hst hf ea ht q)
end
def CXo (P:cw) (w:eK):CXT:=λ outer H s E e s'=>∃ a C dx T H',e=.ref a/\s'.os=s.os/\AH s'.gens/\Un (frs outer) [] H H' s.heap s'.heap/\HOk P w H' s'.heap /\
 XAt H' a C dx (.ref T)/\T≠a/\H' T=some (.ext (TrB T))/\E (.ref C) dx H'
inductive oK (K:ai) (E:XK) (x:V) (H1:Hp):Prop
 | mk:∀ a C dx,(x=.ref a)->(XAt H1 a C dx .none)->(Ex.XK0 K C)->(∀ T,H1 T=none->T≠a->E (.ref C) dx (tr2 H1 a C dx T))->oK K E x H1
def kNC (K:ai) (te:TE) (E:XK):TS:=λ _ σ H=>te σ H λ x H1=>oK K E x H1
section
variable {X:Cx} {m:fm} {te:TE} {pos:Pos} {E:XK}
theorem kHB (hm:PE X m te) (hc:X.calm=true) (hst:X.stack=X.env::X.outer) (hf:X.env.frame=some X.env.locals) (hex:X.ex=[])
  (hx:X.xe=λ e s'=>br (model X.prog X.w) X.A (leaving X.env e) (λ _ s''=>CXo X.prog X.w X.outer X.H₀ X.s₀ E e s'') (λ e' s''=>CXo X.prog X.w X.outer X.H₀ X.s₀ E e' s'') s') :
  PS X (.Raise (some m) none pos) (kNC X.K te E):=by
 intro pins s σ H D I h;rw [arm_exec_Raise];refine aa (mh (Ex.raise_exc (K:=X.K) (I.ok.hd hc) ?_))
 have step:br (model X.prog X.w) X.A (eval m X.env) (λ u s1=>∃ e C od vs sl,u=.ref e/\Ex.XK0 X.K C/\X.K.In s1.heap/\s1.heap.get? e=some ⟨.ref C,od,.fields vs,sl⟩/\vs[1]?=some .none/\X.xe (.ref e) s1) X.xe s:=by
  refine thn (hm pins s σ H _ I h) λ u s1 ⟨x,H1,I1,rx,a,C,dx,ex,xa,x0,q⟩=>?_;subst ex;obtain rfl:u=eD a:=rx;obtain ⟨⟨vs,sl,he,t0,h1⟩,_⟩:=I1.hok a _ xa.1;refine ⟨a,C,dx,vs,sl,rfl,x0,I1.kIn,he,h1,?_⟩;rw [hx];refine kHV I1 hst hf xa.1 (.inl rfl) λ T h' nT na un hok=>?_;refine ⟨a,C,dx,T,_,rfl,I1.os,I1.bare,?_,hok,⟨kD,λ d e=>?_⟩,na,?_,q T nT na⟩
  ·have b0:=I1.base
   rw [hex] at b0;refine b0.transL un λ b o e hb=>?_;rcases gu.mp (I1.stkSub b hb) with z | z
   ·subst z
    exact absurd (be (bf e) I1.ok.above) (iQ _)
   ·exact z
  ·obtain ⟨fs,z⟩:=xa.2 d e
   refine ⟨fs,?_⟩;have n1:d≠a:=λ y=>by subst y;rw [xa.1] at z;cases z
   unfold tr2;rw [kN n1,kN (kR z nT)];exact z
  ·unfold tr2
   rw [kN na,kD]
 first
  | exact step
  | exact aa (jc step (λ v s₃ h₃=>aa (mh (aq h₃))) λ _ _ x=>x)
  | (simp only [evalOpt,Eo];exact step)
end
section
variable {X:Cx} {pins:List (ag×Obj)} {σ:St} {H:Hp} {s:aj} {a C:ag} {dx:Option ag} {t1:af}
theorem cY {M:qt} {A:dj} {E:af->aj->Prop} {i:Nat} {x:Str} {pos:Pos} {Q:Unit->aj->Prop} (I:Inv X pins σ H s) (hN:X.N.Nodup) (hi:X.N[i]?=some x) (hk:X.env.scope.names.lookup x=some .local)
  (h:∀ s',Inv X pins (σ.set i none) H s'->Q () s'):br M A (do bindName X.env x .none;unbindBehindTheSuite X.env x pos) Q E s:=by
 obtain ⟨m,hn,hl⟩:=id I.loc;have hcls:(X.env.scope.kind == .class || (X.env.scope.kind == .module && X.env.locals != X.env.globals))=false:=by rw [I.ok.kind];rfl
 have hiσ:i<σ.length:=by rw [I.len];exact (au.mp hi).1
 refine wpAny_nameGoes_keeps hk hn hcls λ h' v hn' hs=>?_;have neL:∀ b o,X.s₀.heap.get? b=some o->b≠X.env.locals:=λ b o e=>dh (be (bf e) I.ok.above);refine h _ ⟨I.ok,I.os,I.bare,⟨λ b o e n hb hx=>(hs.2 b (neL b o e)).trans (I.base.keep b o e n hb hx),λ b o e n hb hx=>?_,I.base.free,λ b o e hx=>?_,I.base.tups,I.base.frzs,I.base.tbls⟩,⟨_,hn',λ j y v' e1 e2 e3=>?_⟩,λ y c e=>?_,I.free,I.freeC,λ p hp=>?_,λ b ob e=>?_,by simpa using I.len⟩
 ·obtain ⟨sl,e1⟩:=I.base.slot b o e n hb hx
  exact ⟨sl,(hs.2 b (neL b o e)).trans e1⟩
 ·obtain ⟨o',e1⟩:=I.base.there b o e hx
  exact ⟨o',(hs.2 b (neL b o e)).trans e1⟩
 ·by_cases hj:j=i
  ·subst hj
   rw [jo hiσ] at e2;cases e2
  ·rw [iO (iY hj)] at e2
   obtain ⟨u',r',q⟩:=hl j y v' e1 e2 e3;refine ⟨u',r',?_⟩;rcases q with ⟨k,e⟩ | ⟨k,c,e,z⟩
   ·refine .inl ⟨k,?_⟩
    have ny:y≠x:=λ e=>hj (fQ hN e1 (e ▸ hi));show (if y=x then v else m y)=_;rw [if_neg ny];exact e
   ·exact .inr ⟨k,c,e,z.sameBut hs (I.cne y c e)⟩
 ·obtain ⟨w',z⟩:=I.cell y c e
  exact ⟨w',z.sameBut hs (I.cne y c e)⟩
 ·obtain ⟨e,n,ne,nf,d⟩:=I.pin p hp
  exact ⟨(hs.2 p.1 ne).trans e,n,ne,nf,d⟩
 ·have fr:=I.free
  refine (I.hok b ob e).stay (λ c w' hc q=>(hs.2 c ?_).trans q) (λ _ q=>q) λ _ _ q=>q;rintro rfl;rcases hc with rfl | hc
  ·rw [fr] at e;cases e
  ·rw [fr] at hc;cases hc
def Cx.hand (X:Cx) (a:ag):Cx:={ X with A:=X.A.mark (some (.ref a)),calm:=false,xe:=λ _ _=>False }
theorem mark_frames {A:dj} {v:Option af}:(A.mark v).frames=A.frames:=by first | rfl | simp [Around.mark]
theorem Inv.hand (I:Inv X pins σ H s) (a:ag):Inv (X.hand a) pins σ H s :=
 ⟨⟨I.ok.mod,I.ok.kind,I.ok.glob,I.ok.blt,I.ok.above,I.ok.inj,I.ok.has,I.ok.cab,(λ z=>nomatch z),mark_frames.trans I.ok.frames,I.ok.stk,I.ok.exf,I.ok.bs,I.ok.bsz,I.ok.noex,I.ok.exfs,I.ok.funs,I.ok.frf⟩,I.os,I.bare,I.base,I.loc,I.cell,I.free,I.freeC,I.pin,I.hok,I.len⟩
theorem Inv.unhand (ok:X.Ok) (I:Inv (X.hand a) pins σ H s):Inv X pins σ H s:=⟨ok,I.os,I.bare,I.base,I.loc,I.cell,I.free,I.freeC,I.pin,I.hok,I.len⟩
def Cx.tried (X:Cx) (pins:List (ag×Obj)) (E:af->aj->Prop):Cx:={ X with xe:=E,pn:=X.pn++pins }
theorem Inv.tried (I:Inv X pins σ H s) (E:af->aj->Prop):Inv (X.tried pins E) [] σ H s :=
 ⟨⟨I.ok.mod,I.ok.kind,I.ok.glob,I.ok.blt,I.ok.above,I.ok.inj,I.ok.has,I.ok.cab,I.ok.hd,I.ok.frames,I.ok.stk,I.ok.exf,I.ok.bs,I.ok.bsz,I.ok.noex,I.ok.exfs,I.ok.funs,I.ok.frf⟩,I.os,I.bare,I.base,I.loc,I.cell,I.free,I.freeC,λ p hp=>I.pin p (by simpa [Cx.tried] using hp),I.hok,I.len⟩
theorem Inv.untried {E:af->aj->Prop} {pins':List (ag×Obj)} (ok:X.Ok) (I:Inv (X.tried pins E) pins' σ H s):Inv X pins σ H s :=
 ⟨ok,I.os,I.bare,I.base,I.loc,I.cell,I.free,I.freeC,λ p hp=>I.pin p (lh _ hp),I.hok,I.len⟩
def kPE (X:Cx) (pins:List (ag×Obj)) (n:Nat) (E:XK) (e:af) (s':aj):Prop:=∃ a C dx T σ' H',e=.ref a/\Inv X pins σ' H' s'/\XAt H' a C dx (.ref T)/\T≠a/\H' T=some (.ext (TrB T))/\E (.ref C) dx H'
theorem kAH (ok:X.Ok) (E:XK) {n:Nat}:bD (CXo X.prog X.w) (X.tried pins (kPE X pins n E)) E:=by
 intro pins' σ H s e s' I h;obtain ⟨a,C,dx,T,H',rfl,os,bare,un,hok,xa,na,hT,q⟩:=h;have I0:Inv X pins σ H s:=I.untried ok;exact ⟨a,C,dx,T,σ,H',rfl,I0.call' os un hok bare (λ b z=>absurd z (by simp)),xa,na,hT,q⟩
end
inductive kPV (K:ai) (D:ag) (i:Nat) (tb th:TS) (E:XK) (Z:Ends) (σ:St) (H:Hp):Prop
 | mk:(tb Z σ H)->(∀ (σ':St) (H':Hp) (a C:ag) (dx:Option ag) (T:ag),σ'.length=σ.length->E (.ref C) dx H'->XAt H' a C dx (.ref T)->H' T=some (.ext (TrB T))->Ex.XK0 K C/\ip K C (.ref D)=some true/\∀ T',H' T'=none->T'≠a->th { nx:=λ σ2 H2=>Z.nx (σ2.set i none) H2,rt:=Z.rt,bk:=λ σ2 H2=>Z.bk (σ2.set i none) H2,ct:=λ σ2 H2=>Z.ct (σ2.set i none) H2 } (σ'.set i (some (.ref a))) (tr2 H' a C dx T'))->kPV K D i tb th E Z σ H
section
variable {X:Cx} {body hs:List fq} {b₀:fq} {tb th:TS} {D:ag} {d n:Str} {np hpos pos:Pos} {i:Nat} {E:XK}
theorem kNG (hN:X.N.Nodup) (hi:X.N[i]?=some n) (hk:X.env.scope.names.lookup n=some .local) (hg:Gl X d) (hm:X.mg d=some (.ref D)) (G:Ex.XK0 X.K D) (ht:Ao X.K (.ref D) (.type "tuple")=some false)
  (hst:X.stack=X.env::X.outer) (hf:X.env.frame=some X.env.locals)
  (hbody:∀ pins E',bD (CXo X.prog X.w) (X.tried pins E') E->PSs (X.tried pins E') body tb) (hh:∀ a,PSs (X.hand a) (b₀::hs) th) (hdb:(d == ("__debug__" : Str))=false:=by decide) :
  PS X (.Try body [.ExceptHandler (some (.Name d np)) (some n) (b₀::hs) hpos] [] [] pos) (kPV X.K D i tb th E):=by
 intro pins s σ H Z I h;have ok:=I.ok;refine wpAny_Try_except ?_;refine jc (hbody pins _ (kAH ok E (n:=σ.length)) [] s σ H Z (I.tried _) h.1) (λ f s1 h1=>?_) λ e s1 h1=>?_
 ·cases f with
  | next =>
   obtain ⟨σ',H',I',q⟩:=h1;exact wa ⟨σ',H',I'.untried ok,q⟩
  | brk=>obtain ⟨σ',H',I',q⟩:=h1;exact ⟨σ',H',I'.untried ok,q⟩
  | cont=>obtain ⟨σ',H',I',q⟩:=h1;exact ⟨σ',H',I'.untried ok,q⟩
  | ret u=>obtain ⟨v,σ',H',I',r,q⟩:=h1;exact ⟨v,σ',H',I'.untried ok,r,q⟩
 ·obtain ⟨a,C,dx,T,σ',H',rfl,I1,xa,na,hT,q⟩:=h1
  obtain ⟨x0,mr,hq⟩:=h.2 σ' H' a C dx T (by rw [I1.len,I.len]) q xa hT;refine kCQ I1 hst hf xa.1 (.inr ⟨T,rfl,na,hT⟩) λ T' h' nT' na' un hok=>?_;have I2:Inv X pins σ' (tr2 H' a C dx T') { s1 with heap:=h' }:=I1.call' rfl un hok I1.bare λ b z=>absurd z (by simp)
  have xa2:XAt (tr2 H' a C dx T') a C dx (.ref T'):=by
   refine ⟨kD,λ d e=>?_⟩;obtain ⟨fs,z⟩:=xa.2 d e;refine ⟨fs,?_⟩;have n1:d≠a:=λ y=>by subst y;rw [xa.1] at z;cases z
   unfold tr2;rw [kN n1,kN (kR z nT')];exact z
  have eT:tr2 H' a C dx T' T'=some (.ext (TrB T')):=by unfold tr2;rw [kN na',kD]
  have I3:=I2.hand a;refine wpAny_handleBy_cons (codeAny_handlers_test (wV (X:=X.hand a) I3 hg hm ?_ hdb)) (by intro z;cases z);obtain ⟨ox,od,J⟩:=xa2.inst I2;refine Ex.match_exc (K:=X.K) x0 G I2.kIn J mr ht G.bx ?_;refine codeAny_handlers_suite_as ?_;obtain ⟨⟨ws,sl,he,_,w1⟩,_⟩:=I2.hok a _ xa2.1;obtain ⟨⟨oT,ts,g1,g2,g3⟩,_⟩:=I2.hok T' _ eT;refine wpAny_setFlight_none he rfl w1 g1 g2 (ez.mp g3).1 ?_
  have I4:Inv (X.hand a) pins σ' (tr2 H' a C dx T') { s1 with heap:=h'.update T' (ql (·.setIfInBounds 3 .none)) }:=by
   have gs:(h'.update T' (ql (·.setIfInBounds 3 .none))).get? T'=some (oT.mapFields (·.setIfInBounds 3 .none)):=ff _ g1 (jw (iP g2 _))
   have:=I3.write (h':=h'.update T' (ql (·.setIfInBounds 3 .none))) (t':=s1.toks) (x:=T') (e:=T') (o:=.ext (TrB T')) (by rw [eT];exact qh) (.inl rfl) (λ b u nb e=>(eA _ _ (iY nb)).trans e) ⟨_,gs⟩
    (TrB.ok ⟨_,_,gs,iP g2 _,by rw [ja,if_pos rfl,if_pos (ez.mp g3).1]⟩)
   rw [uC eT] at this;exact this
  refine zT (X:=X.hand a) (v:=.ref a) (i:=i) I4 hN hi (.inl hk) rfl (λ s5 I5=>?_) (.inr hk);refine jc (hh a pins s5 _ _ _ I5 (hq T' nT' na')) (λ f s6 h6=>?_) λ _ _ z=>z.elim
  cases f with
  | next =>
   obtain ⟨σ7,H7,I7,q7⟩:=h6;exact cY (I7.unhand ok) hN hi hk λ s8 I8=>⟨_,H7,I8,q7⟩
  | brk =>
   obtain ⟨σ7,H7,I7,q7⟩:=h6;exact cY (I7.unhand ok) hN hi hk λ s8 I8=>⟨_,H7,I8,q7⟩
  | cont =>
   obtain ⟨σ7,H7,I7,q7⟩:=h6;exact cY (I7.unhand ok) hN hi hk λ s8 I8=>⟨_,H7,I8,q7⟩
  | ret u =>
   obtain ⟨v,σ7,H7,I7,r7,q7⟩:=h6;exact cY (I7.unhand ok) hN hi hk λ s8 I8=>⟨v,_,H7,I8,r7,q7⟩
end
structure RoomN (k:Nat) (A:dj):Prop where
 dp:A.depth+3*k+5<recursionLimit
 un:A.units+16*k+200<cLine
 gd:A.guards=some []
theorem Room.n {k:Nat} {A:dj} (r:Room k A):RoomN k A:=⟨r.dp,r.un,r.gd⟩
theorem RoomN.mono {j k:Nat} {A:dj} (r:RoomN k A) (h:j<=k):RoomN j A:=⟨by have:=r.dp;omega,by have:=r.un;omega,r.gd⟩
theorem RoomN.deeper {k:Nat} {A:dj} (r:RoomN (k+1) A) (env:Env):RoomN k (A.deeper env) :=
 ⟨by have:=r.dp;show A.depth+1+3*k+5<_;omega,by have:=r.un;show A.units+3+16*k+200<_;omega,r.gd⟩
theorem RoomN.mark {k:Nat} {A:dj} (r:RoomN k A) (v:Option af):RoomN k (A.mark v):=⟨r.dp,r.un,r.gd⟩
theorem RoomN.depth {k:Nat} {A:dj} (r:RoomN k A):A.depth<recursionLimit:=by have:=r.dp;omega
structure FnN (P:cw) (w:eK) (K:ai) (mg:Str->Option af) (base:eH) (k:Nat) (f:ag) (fd:fj) (ps:List Str) (sp:Sp):Prop where
 len:∀ vs H Q E,sp vs H Q E->vs.length=ps.length
 run:∀ (A:dj) (outer:List Env) (s:aj) (H:Hp) (args:Args) (us:List af) (vs:List V) (Q:VK) (E:XK),RoomN k A->Env0 P w K mg base A outer s H->CY s fd args (ps.zip us)->Vals vs us->sp vs H Q E ->
  codeAny (model P w) A (.call (.ref f) args) (CR CX0 outer P w H s Q E) s
section
variable {X:Cx} {k:Nat} {f:ag} {fd:fj} {ps:List Str} {sp:Sp} {x:Str} {p pos:Pos} {e:fm} {es:List fm} {t:TA}
theorem kJN {pins:List (ag×Obj)} {σ:St} {H:Hp} {s:aj} {Q:VK} {us:List af} {vs:List V} (F:FnN X.prog X.w X.K X.mg X.base k f fd ps sp) (hr:RoomN k X.A) (hb:Binds X.K fd ps [])
  (I:Inv X pins σ H s) (r:Vals vs us) (h:sp vs H Q E0):br (model X.prog X.w) X.A (call (.ref f) us) (EP X pins σ Q) X.xe s:=by
 have hl:(us++[]).length=ps.length:=by rw [jq,<-r.length];exact F.len _ _ _ _ h
 have bb:=hb s us I.kIn hl;rw [jq] at bb;refine yj (AJ (F.run X.A X.stack s H ⟨us,[]⟩ us vs Q E0 hr I.env0 bb r h) λ r s' hq=>?_)
 cases r with
 | error e=>exact hq.elim
 | ok fl =>
  cases fl with
  | ret u=>exact I.after hq
  | next=>exact iL hq
  | brk=>exact iL hq
  | cont=>exact iL hq
def kOY (P:cw) (w:eK) (K:ai) (mg:Str->Option af) (base:eH) (x:Str) (ps:List Str) (k:Nat) (sp:Sp):Prop :=
 ∃ (f:ag) (fd:fj),FnN P w K mg base k f fd ps sp/\Binds K fd ps []/\iD K (.ref f)=true/\mg x=some (.ref f)
theorem kJW (h:kOY X.prog X.w X.K X.mg X.base x ps k sp) (hr:RoomN k X.A) (hg:Gl X x)
  (ha:PA X (e::es) t) (hdb:(x == ("__debug__" : Str))=false:=by decide) (he:starEach (e::es) X.env=(false,eval e X.env)::starEach es X.env:=by rfl) (hpl:(backTo pos (starEach es X.env)).any (·.1)=false:=by rfl) :
  PE X (.Call (.Name x p) (e::es) [] pos) (dD sp [] E0 t):=by
 obtain ⟨f,fd,F,b,kp,m⟩:=h;intro pins s σ H Q I h;refine so (wV I hg m ?_ hdb);refine wj (h₀:=X.base) I.ok.mod.kin kp (thn (ha pos pins s σ H _ I h) λ us s1 ⟨vs,H1,I1,r,q⟩=>⟨I1.kIn,?_⟩) he hpl;have q':sp (vs++[]) H1 Q E0:=q;rw [jq] at q';exact kJN F hr b I1 r q'
end
def cxN (P:cw) (w:eK) (K:ai) (mg:Str->Option af) (base:eH) (N:List Str) (qual:Str) (scope:qw) (f:ag) (cd:af) (A:dj) (outer:List Env) (s:aj) (H:Hp):Cx :=
 { qE CX0 P w K mg base N qual scope f cd A outer s H E0 with calm:=false,xe:=λ _ _=>False }
theorem kAT {P:cw} {w:eK} {K:ai} {mg:Str->Option af} {base:eH} {N ps:List Str} {qual:Str} {scope:qw} {f:ag} {cd:af} {A:dj} {outer:List Env} {s s1:aj} {H:Hp} {us:List af} {vs:List V}
  (S:FnScope N ps scope) (e0:Env0 P w K mg base A outer s H) (hl:vs.length=ps.length) (r:Vals vs us)
  (x:InCallC s s.heap.objs.size (bindL (envOfC qual scope s.heap.objs.size f cd).kindOf (ps.zip us) λ _=>none) (cellsFrom (s.heap.objs.size+1) scope.names []) (bindC (envOfC qual scope s.heap.objs.size f cd).kindOf (ps.zip us) λ _=>none) s1) :
  Inv (cxN P w K mg base N qual scope f cd A outer s H) [] (start N vs) H s1:=by
 have e1:Env0 P w K mg base { A with handled:=none } outer s H:=⟨e0.frames,e0.mod,e0.bs,e0.bsz,e0.funs,e0.frf,e0.hok,e0.bare⟩
 have I:=mW (CX:=CX0) (E:=E0) (f:=f) (cd:=cd) (qual:=qual) (A:={ A with handled:=none }) S rfl e1 hl r x
 exact ⟨⟨I.ok.mod,I.ok.kind,I.ok.glob,I.ok.blt,I.ok.above,I.ok.inj,I.ok.has,I.ok.cab,(λ z=>nomatch z),CH e0.frames,I.ok.stk,I.ok.exf,I.ok.bs,I.ok.bsz,I.ok.noex,I.ok.exfs,I.ok.funs,I.ok.frf⟩,I.os,I.bare,I.base,I.loc,I.cell,I.free,I.freeC,I.pin,I.hok,I.len⟩
theorem kOF {P:cw} {w:eK} {K:ai} {mg:Str->Option af} {base:eH} {k:Nat} {f:ag} {name qual:Str} {params:Fd} {body:List fq} {scope:qw} {dV kV doc pm cdv ct oc:af} {an od:Option ag}
  {osl:Array (Option af)} {N ps:List Str} {sp:Sp} (lk:K.lookup f=some ⟨oc,od,.func (iN name qual params body scope dV kV doc pm an cdv ct),osl⟩) (hcd:qz K cdv qual=true) (S:FnScope N ps scope)
  (len:∀ vs H Q E,sp vs H Q E->vs.length=ps.length)
  (hbody:∀ (A:dj) (outer:List Env) (s:aj) (H:Hp) (vs:List V) (Q:VK) (E:XK),RoomN k (A.deeper (envOfC qual scope s.heap.objs.size f cdv))->sp vs H Q E ->
   ∃ t,PSs (cxN P w K mg base N qual scope f cdv A outer s H) body t/\t { nx:=λ _ H'=>Q .non H',rt:=Q } (start N vs) H) :
  FnN P w K mg base (k+1) f (iN name qual params body scope dV kV doc pm an cdv ct) ps sp:=by
 refine ⟨len,λ A outer s H args us vs Q E hr e0 hb r hsp=>?_⟩;have hl:=len _ _ _ _ hsp;have KX:K.In s.heap:=e0.mod.kin.keeps λ b o e=>(e0.bs b o e).1;have lim:s.heap.NoLimit:=e0.mod.nolimit.keeps λ b o e=>(e0.bs b o e).1
 have hkind:∀ y∈ps.zip us,scope.names.lookup y.1=some .local\/(scope.names.lookup y.1=some .cell/\((cellsFrom (s.heap.objs.size+1) scope.names []).lookup y.1).isSome=true):=λ ⟨n,v⟩ hy=>by
  rcases S.par n (zm hy).1 with q | q
  ·exact .inl q
  ·exact .inr ⟨q,xj _ _ _ (.inl q)⟩
 refine By hr.depth (KX _ _ lk) rfl S.co S.gen rfl (Cv KX hcd) (hb _ _ _ _ ?_);refine AZ S.kind hkind λ env he s1 x=>?_;subst he;refine ⟨lim.keeps x.toInCall.keep,codeAny_func ?_⟩;obtain ⟨t,ht,hq⟩:=hbody A outer s H vs Q E (hr.deeper _) hsp;have I:Inv (cxN P w K mg base N qual scope f cdv A outer s H) [] (start N vs) H s1:=kAT S e0 hl r x;refine jc (ht [] s1 (start N vs) H _ I hq) (λ fl s' hs=>?_) λ e s' hs=>hs.elim
 have fin:∀ {σ':St} {H':Hp} {v:V} {u:af},Inv (cxN P w K mg base N qual scope f cdv A outer s H) [] σ' H' s'->RelV v u->Q v H'->CE outer P w H s Q u s' :=
  λ {σ' H' v u} J rv q=>⟨v,H',J.os,J.bare,J.base,J.hok,rv,q⟩
 cases fl with
 | ret u =>
  obtain ⟨v,σ',H',J,rv,q⟩:=hs;exact fin J rv q
 | next =>
  obtain ⟨σ',H',J,q⟩:=hs;exact fin (v:=V.non) (u:=iK) J rfl q
 | brk =>
  obtain ⟨_,_,_,q⟩:=hs;exact iL q
 | cont =>
  obtain ⟨_,_,_,q⟩:=hs;exact iL q
section
variable {P:cw} {w:eK} {K:ai} {mg:Str->Option af} {base:eH}
theorem Fun.okN {x qual:Str} {st:fq} {f:ag} {fd:fj} {N ps:List Str} {k:Nat} {sp:Sp} (F:Fun K x qual st f fd) (S:FnScope N ps (kM st)) (len:∀ vs H Q E,sp vs H Q E->vs.length=ps.length)
  (hbody:∀ (cdv:af) (A:dj) (outer:List Env) (s:aj) (H:Hp) (vs:List V) (Q:VK) (E:XK),RoomN k (A.deeper (envOfC qual (kM st) s.heap.objs.size f cdv))->sp vs H Q E ->
   ∃ t,PSs (cxN P w K mg base N qual (kM st) f cdv A outer s H) (qZ st) t/\t { nx:=λ _ H'=>Q .non H',rt:=Q } (start N vs) H):FnN P w K mg base (k+1) f fd ps sp:=by
 obtain ⟨oc,od,kV,doc,pm,an,cdv,ct,osl,rfl,lk,hcd⟩:=F.ex;exact kOF lk hcd S len λ A outer s H vs Q E hr hsp=>hbody cdv A outer s H vs Q E hr hsp
theorem Fun.okX {x qual:Str} {st:fq} {f:ag} {fd:fj} {N ps:List Str} {k:Nat} {sp:Sp} (F:Fun K x qual st f fd) (S:FnScope N ps (kM st)) (len:∀ vs H Q E,sp vs H Q E->vs.length=ps.length)
  (hbody:∀ (cdv:af) (A:dj) (outer:List Env) (s:aj) (H:Hp) (vs:List V) (Q:VK) (E:XK),Room k (A.deeper (envOfC qual (kM st) s.heap.objs.size f cdv))->sp vs H Q E ->
   ∃ t,PSs (qE (CXo P w) P w K mg base N qual (kM st) f cdv A outer s H E) (qZ st) t/\t { nx:=λ _ H'=>Q .non H',rt:=Q } (start N vs) H):FnOk P w K mg base (CXo P w) (k+1) f fd ps sp:=by
 obtain ⟨oc,od,kV,doc,pm,an,cdv,ct,osl,rfl,lk,hcd⟩:=F.ex;exact kMG lk hcd S len λ A outer s H vs Q E hr hsp=>hbody cdv A outer s H vs Q E hr hsp
end
theorem rD:∀ {bs:List Bool} {its:List af},Vals (bs.map V.bl) its->its=bs.map mz
 | [],_,.nil=>rfl
 | b::bs,_,.cons r t=>by
  cases r
  rw [rD t]
  rfl
def eqT (v:af):Bool:=match v with | .bool b=>b | _=>false
theorem kER {bs:List Bool}:∀ y,y∈(bs.map mz).toArray->Dw y (.bool true) (eqT y):=λ y hy=>by
 obtain ⟨b,_,rfl⟩:=yt.mp (Dx.mp hy);intro prog w A E s Q q;refine CI b true prog w E Q ?_
 cases b<;>exact q
theorem kET (bs:List Bool):(bs.map mz).countP eqT=bs.countP id:=by
 rw [List.countP_map]
 rfl
inductive kCC (x:V) (vs:List V) (H:Hp) (Q:VK):Prop
 | mk:∀ (l:ag) (bs:List Bool),(x=.ref l)->(vs=[.bl true])->(H l=some (.lst (bs.map V.bl)))->(Q (.int (bs.countP id:Nat)) H)->kCC x vs H Q
section
variable {X:Cx}
theorem kEF:MtM X "list.count" kCC:=by
 intro pins s σ H x vs v us Q I rx rv h;obtain ⟨l,bs,rfl,rfl,hH,q⟩:=h;cases rx
 obtain ⟨u,rfl,ru⟩:=rv.one;cases ru
 obtain ⟨z,its,m,r,hl,e⟩:=I.lstM hH;obtain rfl:=rD r;refine Bk F.slot_list_count ⟨_,e,rfl⟩ F.entry_list_count (F.args_list_count_2 _ _) (MeetsSeq.list_count l (bs.map mz).toArray m (.bool true) eqT kER) ⟨e,?_⟩;refine ⟨.int (bs.countP id:Nat),H,I.tok _,⟨s.toks,?_⟩,q⟩;rw [List.toList_toArray,kET]
end
end L2
namespace L2
open PySem PySem.W PyProof.Rows
section
variable {K:GR} {nm q:Str} {C N:ag} {bs bm:List af} {hdct:Bool} {sn:List Str} {sub:List af} {ab:Bool} {col:Option Bool} {dd:Option ag} {k0 k1 k2 k3 k5:Option af} {i:String}
theorem pE (l:K.lookup C=some (excClassObj nm q C N bs bm hdct sn sub ab col dd k0 k1 k2 k3 k5 i)) (b:af):mroIn K C b=some ((eD C::bm).contains b):=by
 unfold mroIn clsIn;rw [l]
 rfl
theorem kLD (l:K.lookup C=some (excClassObj nm q C N bs bm true sn sub ab col dd k0 k1 k2 k3 k5 i)) (hp:∀ self,refuseLoop self "__setattr__" (.ref C::bm)=pure ()) (hb:bm.contains (.type "BaseException")=true) (ho:bm.contains (.type "object")=true)
  (ty:typeIn K (.ref C)=some (.type "type")) (sa:findIn K (.ref C) "__setattr__" = some (some (.builtin "object.__setattr__"))) (ga:findIn K (.ref C) "__getattribute__" = some (some (.builtin "BaseException.__getattribute__"))) (gh:findIn K (.ref C) "__getattr__" = some none)
  (cl:findIn K (.ref C) "__class__" = some (some (.builtin "object.__class__"))) (cg:specialIn K (.builtin "object.__class__") "__get__" = some (some (.builtin "getset_descriptor.__get__"))) (ct:takesIn K (.builtin "object.__class__")=some true):Ex.XK0 K C:=by
 refine ⟨?_,by rw [pE l,ml,hb,xv],by rw [pE l,ml,ho,xv],ty,sa,ga,gh,cl,cg,ct⟩;refine ⟨_,by unfold clsIn;rw [l],rfl,rfl,hp⟩
theorem kLX (C:ag) (self:af):refuseLoop self "__setattr__" [.ref C,.type "ValueError",.type "Exception",.type "BaseException",.type "object"]=pure ():=by
 rw [Es];exact PySem.F.store_ValueError.passes self
theorem kQC (C D:ag) (self:af):refuseLoop self "__setattr__" [.ref C,.ref D,.type "ValueError",.type "Exception",.type "BaseException",.type "object"]=pure ():=by
 rw [Es];exact kLX D self
theorem up2 (D:ag):Ex.Up "ValueError" [.ref D,.type "ValueError",.type "Exception",.type "BaseException",.type "object"]:=by
 refine ⟨?_,?_,?_⟩<;>(rw [ml];first | rfl | decide | simp)
theorem kNW {D:ag} {b:Bool} (c:isClsIn K D=true) (t:typeIn K (.ref D)=some (.type "type")) (s:subIn K (.ref C) (.ref D)=some b) (h:C=D->b=true):kitOne K (.ref C) (.ref D)=some b:=by
 unfold kitOne;by_cases e:C=D
 ·rw [if_pos (by rw [e];exact beq_self_eq_true _),h e]
 ·rw [if_neg (λ z=>e (FW (beq_iff_eq.mp z)))]
  unfold kitCls;have c':(clsIn K D).isSome=true:=c;simp only [c',t,ud,beq_self_eq_true,if_true];exact s
theorem kNV {b:Bool} (s:subIn K (.ref C) (.type "ValueError")=some b):kitOne K (.ref C) (.type "ValueError")=some b:=by
 unfold kitOne;rw [if_neg (λ z=>by cases beq_iff_eq.mp z)];unfold kitCls;have k:kitMeta "ValueError" = true:=by decide +kernel
 simp only [k,if_true];exact s
end
end L2
namespace L2
open PySem PySem.Spec PyProof.Rows
section
variable {X:Cx} {E:XK}
theorem kEA (hst:X.stack=X.env::X.outer) (hf:X.env.frame=some X.env.locals) (hex:X.ex=[])
  (hx:X.xe=λ e s'=>br (model X.prog X.w) X.A (leaving X.env e) (λ _ s''=>CXo X.prog X.w X.outer X.H₀ X.s₀ E e s'') (λ e' s''=>CXo X.prog X.w X.outer X.H₀ X.s₀ E e' s'') s') :
  bD (CXo X.prog X.w) X (λ cls dx H'=>∀ a C t1 T,cls=.ref C->H' a=some (.ext (XO a C dx t1))->H' T=none->T≠a->E cls dx (tr2 H' a C dx T)):=by
 intro pins σ H s e s' I h;obtain ⟨a,C,dx,T,H',rfl,os,bare,un,hok,xa,na,hT,q⟩:=h;have I1:Inv X pins σ H' s':=I.call' os un hok bare (λ b z=>absurd z (by simp));rw [hx];refine kHV I1 hst hf xa.1 (.inr ⟨T,rfl,na,hT⟩) λ T' h' nT na' un' hok'=>?_;refine ⟨a,C,dx,T',_,rfl,I1.os,I1.bare,?_,hok',⟨kD,λ d e=>?_⟩,na',?_,q a C _ T' rfl xa.1 nT na'⟩
 ·have b0:=I1.base
  rw [hex] at b0;refine b0.transL un' λ b o e hb=>?_;rcases gu.mp (I1.stkSub b hb) with z | z
  ·subst z
   exact absurd (be (bf e) I1.ok.above) (iQ _)
  ·exact z
 ·obtain ⟨fs,z⟩:=xa.2 d e
  refine ⟨fs,?_⟩;have n1:d≠a:=λ y=>by subst y;rw [xa.1] at z;cases z
  unfold tr2;rw [kN n1,kN (kR z nT)];exact z
 ·unfold tr2
  rw [kN na',kD]
end
end L2
namespace L2
open PySem PyProof.Rows
inductive cQ (K:ai) (vs:List V) (H:Hp) (Q:VK) (Y:XK):Prop
 | mk:∀ (a C:ag) (x:Str),(vs=[.ref a,.str x])->(H a=some (.ext (XO a C none .none)))->(Ex.XK0 K C)->(ip K C (.type "ValueError")=some true)->Q .non H->cQ K vs H Q Y
theorem kMI (D:ag):([.ref D,.type "ValueError",.type "Exception",.type "BaseException",.type "object"]:List af).contains (.type "BaseException")=true/\([.ref D,.type "ValueError",.type "Exception",.type "BaseException",.type "object"]:List af).contains (.type "object")=true:=by
 constructor<;>(rw [ml];first | rfl | simp)
structure XgAt (K:ai):Prop where
 vf:oz K (.type "ValueError") (.type "type") "__init__" = some (.val (.builtin "ValueError.__init__"))
 zv:eB K cu "ValueError" = some none
def kPB (K:ai):Prop:=∃ D:ag,eB K cu "DrawError" = some (some (.ref D))/\Ex.XK0 K D/\Ao K (.ref D) (.type "tuple")=some false
section
variable {K:ai} {C N D F:ag} {nm qn n:Str} {bs sub:List af} {sn:List Str} {ab:Bool} {col:Option Bool} {dd:Option ag} {x0 x1 x2 x3 x5:Option af}
theorem dx_mk (a:eB K cu "DrawError" = some (some (.ref C))) (l:K.lookup C=some (excClassObj nm qn C N bs [.type "ValueError",.type "Exception",.type "BaseException",.type "object"] true sn sub ab col dd x0 x1 x2 x3 x5 "ValueError.__new__"))
  (t:xw K (.ref C)=some (.type "type")) (sa:eV K (.ref C) "__setattr__" = some (some (.builtin "object.__setattr__"))) (ga:eV K (.ref C) "__getattribute__" = some (some (.builtin "BaseException.__getattribute__")))
  (gh:eV K (.ref C) "__getattr__" = some none) (cl:eV K (.ref C) "__class__" = some (some (.builtin "object.__class__"))) (cg:kl K (.builtin "object.__class__") "__get__" = some (some (.builtin "getset_descriptor.__get__")))
  (ct:Br K (.builtin "object.__class__")=some true) (it:Ao K (.ref C) (.type "tuple")=some false):kPB K :=
 ⟨C,a,kLD l (kLX _) rfl rfl t sa ga gh cl cg ct,it⟩
def zJ (K:ai) (n c:Str) (b:Bool):Prop:=∃ C G:ag,eB K cu n=some (some (.ref C))/\eB K cu c=some (some (.ref G))/\ir K (.ref C) (.ref G)=some b
theorem kd_mk {c:Str} {G:ag} {b:Bool} (a:eB K cu n=some (some (.ref C))) (d:eB K cu c=some (some (.ref G))) (i:PySem.W.isClsIn K G=true) (t:xw K (.ref G)=some (.type "type")) (s:Cq K (.ref C) (.ref G)=some b) (ss:Cq K (.ref C) (.ref C)=some true):zJ K n c b :=
 ⟨C,G,a,d,kNW i t s λ e=>by subst e;rw [ss] at s;exact (eO s).symm⟩
def kLC (K:ai) (n:Str):Prop:=∃ C:ag,eB K cu n=some (some (.ref C))/\ir K (.ref C) (.type "ValueError")=some true
theorem kv_mk' (a:eB K cu n=some (some (.ref C))) (s:Cq K (.ref C) (.type "ValueError")=some true):kLC K n:=⟨C,a,kNV s⟩
end
section
variable {P:cw} {w:eK} {K:ai} {mg:Str->Option af} {base:eH}
theorem kOD {n:Str} {st:fq} {N ps:List Str} {k:Nat} {sp:Sp} (X:∃ h:eH,K.In h/\h.Ns cu mg) (d:qH K n st) (S:FnScope N ps (kM st))
  (hbody:∀ (f:ag) (cdv:af) (A:dj) (outer:List Env) (s:aj) (H:Hp) (vs:List V) (Q:VK) (E:XK),N.Nodup->RoomN k (A.deeper (envOfC n (kM st) s.heap.objs.size f cdv))->sp vs H Q E ->
   ∃ t,PSs (cxN P w K mg base N n (kM st) f cdv A outer s H) (qZ st) t/\t { nx:=λ _ H'=>Q .non H',rt:=Q } (start N vs) H)
  (len:∀ vs H Q E,sp vs H Q E->vs.length=ps.length)
  (b:∀ (kV doc pm:af) (an:Option ag) (cdv ct:af) (us:List af),us.length=ps.length->bindArgs (iN n n (xA st) (qZ st) (kM st) .none kV doc pm an cdv ct) ⟨us,[]⟩=pure (ps.zip us)):kOY P w K mg base n ps (k+1) sp:=by
 obtain ⟨h,x,g⟩:=X;obtain ⟨f,fd,a,F⟩:=d;exact ⟨f,fd,F.okN S len λ cdv A outer s H vs Q E hr hs=>hbody f cdv A outer s H vs Q E S.nd hr hs,F.binds b,F.kp,jj x g a⟩
def kOX (P:cw) (w:eK) (K:ai) (mg:Str->Option af) (base:eH) (x:Str) (ps:List Str) (k:Nat) (sp:Sp):Prop :=
 ∃ (f:ag) (fd:fj),FnOk P w K mg base (CXo P w) k f fd ps sp/\Binds K fd ps []/\iD K (.ref f)=true/\mg x=some (.ref f)
theorem kIC {n:Str} {st:fq} {N ps:List Str} {k:Nat} {sp:Sp} (X:∃ h:eH,K.In h/\h.Ns cu mg) (d:qH K n st) (S:FnScope N ps (kM st))
  (hbody:∀ (f:ag) (cdv:af) (A:dj) (outer:List Env) (s:aj) (H:Hp) (vs:List V) (Q:VK) (E:XK),N.Nodup->Room k (A.deeper (envOfC n (kM st) s.heap.objs.size f cdv))->sp vs H Q E ->
   ∃ t,PSs (qE (CXo P w) P w K mg base N n (kM st) f cdv A outer s H E) (qZ st) t/\t { nx:=λ _ H'=>Q .non H',rt:=Q } (start N vs) H)
  (len:∀ vs H Q E,sp vs H Q E->vs.length=ps.length)
  (b:∀ (kV doc pm:af) (an:Option ag) (cdv ct:af) (us:List af),us.length=ps.length->bindArgs (iN n n (xA st) (qZ st) (kM st) .none kV doc pm an cdv ct) ⟨us,[]⟩=pure (ps.zip us)):kOX P w K mg base n ps (k+1) sp:=by
 obtain ⟨h,x,g⟩:=X;obtain ⟨f,fd,a,F⟩:=d;exact ⟨f,fd,F.okX S len λ cdv A outer s H vs Q E hr hs=>hbody f cdv A outer s H vs Q E S.nd hr hs,F.binds b,F.kp,jj x g a⟩
theorem kQK {n c:Str} {b:Bool} (X:∃ h:eH,K.In h/\h.Ns cu mg) (d:zJ K n c b):∃ C G:ag,mg n=some (.ref C)/\mg c=some (.ref G)/\ir K (.ref C) (.ref G)=some b:=by
 obtain ⟨h,x,g⟩:=X;obtain ⟨C,G,a1,a2,k⟩:=d;exact ⟨C,G,jj x g a1,jj x g a2,k⟩
theorem kQJ {n:Str} (X:∃ h:eH,K.In h/\h.Ns cu mg) (d:kLC K n):∃ C:ag,mg n=some (.ref C)/\ir K (.ref C) (.type "ValueError")=some true:=by
 obtain ⟨h,x,g⟩:=X;obtain ⟨C,a1,k⟩:=d;exact ⟨C,jj x g a1,k⟩
theorem kQV (X:∃ h:eH,K.In h/\h.Ns cu mg) (d:kPB K):∃ D:ag,mg "DrawError" = some (.ref D)/\Ex.XK0 K D/\Ao K (.ref D) (.type "tuple")=some false:=by
 obtain ⟨h,x,g⟩:=X;obtain ⟨D,a,b⟩:=d;exact ⟨D,jj x g a,b⟩
end
end L2
namespace L2
open PySem PySem.Spec PyProof.Rows
section
variable {prog:cw} {w:eK} {A:dj} {R:Do->aj->Prop} {I:ag} {fp wr:List ag} {n:Nat} {P:Nat->af->Prop} {St:Nat->eH->Prop}
def kPD (prog:cw) (w:eK) (A:dj) (C:eH->Prop) (P:Nat->af->Prop) (bt:Nat->Nat->Bool):Prop :=
 ∀ i j vi vj (s:aj) (Q:af->aj->Prop) (E:af->aj->Prop),C s.heap->P i vi->P j vj->Q (.bool (bt i j)) s->br (model prog w) A (richCompare .Lt vi vj) Q E s
theorem kEH (W:Walks prog w A.in1 I fp wr n P St) (bt:Nat->Nat->Bool) (C:eH->Prop) (hcmp:kPD prog w A.in1 C P bt) (S:ag) (hSf:S∉fp)
  (hC:∀ h h':eH,C h->(∀ b o,b∉wr->b≠S->h.get? b=some o->h'.get? b=some o)->C h') :
  ∀ (k j:Nat) (s:aj) (vb:af) (c:Nat),n-(j+1)=k->j+1<=n->St (j+1) s.heap->C s.heap->P (argBest bt j) vb ->
  s.heap.get? S=some { cls:=.type "list",dict:=none,data:=.seq #[vb,vb] c,slots:=#[] } ->
  (∀ v h' tk,P (argBest bt (n-1)) v->(∀ b o,b∉wr->b≠S->s.heap.get? b=some o->h'.get? b=some o)->R (.ok (.ret v)) { s with heap:=h',toks:=tk }) ->
  codeAny (model prog w) A (.builtin "min.loop" ⟨[.ref I,.none,.ref S],[]⟩) R s:=by
 have hSw:S∉wr:=λ h=>hSf (W.sub _ h);have hname:(toString "min"++toString ".loop" : String) = "min.loop":=by decide
 intro k
 induction k with
 | zero =>
  intro j s vb c hk hj hst hc0 hPb hS hR;have hin:j+1=n:=by omega
  refine wg ya ?_;rw [zj iU _];show br _ A.in1 (seqItems? (.ref S) >>= _) _ _ s;refine aa (rm hS rfl ?_);show br _ A.in1 (tryCatch (pyNext (.ref I)) _ >>= _) _ _ s;refine aa (Ap (W.done s _ _ (hin ▸ hst) λ h' tk hk'=>?_));have hS':=hk' S _ hSw hS;show br _ A.in1 (updateSeq S (λ _=>#[]) >>= _) _ _ _;refine aa ?_;refine Bw hS' rfl (aa (BE (aq ?_)));refine hR vb _ tk (by rw [<-hin];exact hPb) λ b o hbw hbS e=>(eA _ _ (iY hbS)).trans (hk' b o hbw e)
 | succ k ih =>
  intro j s vb c hk hj hst hc0 hPb hS hR;have hlt:j+1<n:=by omega
  refine wg ya ?_;rw [zj iU _];show br _ A.in1 (seqItems? (.ref S) >>= _) _ _ s;refine aa (rm hS rfl ?_);show br _ A.in1 (tryCatch (pyNext (.ref I)) _ >>= _) _ _ s;refine aa (Ap (W.item (j+1) s _ _ hlt hst λ v h' tk hP hst' hk'=>?_));have hS':=hk' S _ hSw hS;have hc1:=hC _ h' hc0 λ b o hb _ e=>hk' b o hb e;show br _ A.in1 (tryCatch (holding [v,v] (richCompare .Lt v vb >>= _)) _ >>= _) _ _ _;refine aa (Ap (eQ (aa (hcmp (j+1) (argBest bt j) v vb _ _ _ hc1 hP hPb ?_))));refine aa (eQ (kj ?_));refine aa (BE (aq ?_))
  cases hb:bt (j+1) (argBest bt j) with
  | true =>
   simp only [if_true];refine aa ?_;refine Bw hS' rfl (aa (BE ?_));rw [hname]
   refine aq ⟨BN iU _,ih (j+1) _ v _ (by omega) hlt (W.frame _ _ _ hst' λ b hbf o e=>?_) (hC _ _ hc1 λ b o _ hbS e=>(eA _ _ (iY hbS)).trans e) (by simp only [argBest,hb,if_true];exact hP) (ff _ hS' rfl)
    λ v' h'' tk'' hP' hk''=>?_⟩
   ·exact (eA _ _ (λ h:S=b=>hSf (by rw [h];exact hbf))).trans e
   ·exact hR v' h'' tk'' hP' λ b o hbw hbS e=>hk'' b o hbw hbS ((eA _ _ (iY hbS)).trans (hk' b o hbw e))
  | false =>
   simp only [bj,if_false];refine aa (BE ?_);rw [hname];refine aq ⟨BN iU _,ih (j+1) _ vb c (by omega) hlt hst' hc1 (by simp only [argBest,hb,bj,if_false];exact hPb) hS' λ v' h'' tk'' hP' hk''=>?_⟩;exact hR v' h'' tk'' hP' λ b o hbw hbS e=>hk'' b o hbw hbS (hk' b o hbw e)
theorem kAM (W:Walks prog w A.in1 I fp wr n P St) (bt:Nat->Nat->Bool) (C:eH->Prop) (hcmp:kPD prog w A.in1 C P bt) (S:ag) (hSf:S∉fp)
  (hC:∀ h h':eH,C h->(∀ b o,b∉wr->b≠S->h.get? b=some o->h'.get? b=some o)->C h') (hn:0<n) {s:aj} {c:Nat} (hst:St 0 s.heap) (hc0:C s.heap)
  (hS:s.heap.get? S=some { cls:=.type "list",dict:=none,data:=.seq #[] c,slots:=#[] })
  (hR:∀ v h' tk,P (argBest bt (n-1)) v->(∀ b o,b∉wr->b≠S->s.heap.get? b=some o->h'.get? b=some o)->R (.ok (.ret v)) { s with heap:=h',toks:=tk }) :
  codeAny (model prog w) A (.builtin "min.loop" ⟨[.ref I,.none,.ref S],[]⟩) R s:=by
 have hSw:S∉wr:=λ h=>hSf (W.sub _ h);have hname:(toString "min"++toString ".loop" : String) = "min.loop":=by decide
 refine wg ya ?_;rw [zj iU _];show br _ A.in1 (seqItems? (.ref S) >>= _) _ _ s;refine aa (rm hS rfl ?_);show br _ A.in1 (tryCatch (pyNext (.ref I)) _ >>= _) _ _ s;refine aa (Ap (W.item 0 s _ _ hn hst λ v h' tk hP hst' hk'=>?_));have hS':=hk' S _ hSw hS;show br _ A.in1 (updateSeq S (λ _=>#[v,v]) >>= _) _ _ _;refine aa ?_;refine Bw hS' rfl ?_;rw [hname];refine aq ⟨BN iU _,kEH W bt C hcmp S hSf hC _ 0 _ v _ rfl hn (W.frame _ _ _ hst' λ b hbf o e=>?_) (hC _ _ hc0 λ b o hbw hbS e=>(eA _ _ (iY hbS)).trans (hk' b o hbw e)) hP (ff _ hS' rfl) λ v' h'' tk'' hP' hk''=>?_⟩
 ·exact (eA _ _ (λ h:S=b=>hSf (by rw [h];exact hbf))).trans e
 ·exact hR v' h'' tk'' hP' λ b o hbw hbS e=>hk'' b o hbw hbS ((eA _ _ (iY hbS)).trans (hk' b o hbw e))
theorem kEG {s:aj} {E:af->aj->Prop} {x:af} {Q:af->aj->Prop}
  (h:br (model prog w) A.in1 (pyIter x) (λ it s₂=>∃ I fp wr n P St bt C,it=.ref I/\Walks prog w A.in1 I fp wr n P St/\St 0 s₂.heap/\C s₂.heap/\(∀ b∈fp,b<s₂.heap.objs.size)/\0<n/\kPD prog w A.in1 C P bt /\
   (∀ h h':eH,C h->(∀ b o,b∉wr->b≠s₂.heap.objs.size->h.get? b=some o->h'.get? b=some o)->C h') /\
   ∀ v h' tk,P (argBest bt (n-1)) v->(∀ b o,b∉wr->s₂.heap.get? b=some o->h'.get? b=some o)->Q v { s₂ with heap:=h',toks:=tk }) E s) :
  br (model prog w) A (call (.builtin "min") [x]) Q E s:=by
 have hname:(toString "min"++toString ".loop" : String) = "min.loop":=by decide
 refine call_function_tree PySem.F.kind_min PySem.F.plain_min PySem.F.entry_min (PySem.F.args_min1 _) ?_;show br _ A.in1 (AO "min" ["key","default"] 0 ⟨[],[]⟩ >>= _) _ _ s;refine aa (EL (show AO "min" ["key","default"] 0 ⟨[],[]⟩=pure [none,none] from rfl) ?_);refine aa (aq ?_);refine aa (jc h (λ it s₂ h₂=>?_) λ _ _ e=>e);obtain ⟨I,fp,wr,n,P,St,bt,C,rfl,W,hst,hc0,hfp,hn,hcmp,hC,hQ⟩:=h₂;refine aa (fu ?_);have hSf:s₂.heap.objs.size∉fp:=λ hm=>iQ _ (hfp _ hm);rw [hname];refine aq ⟨BN iU _,kAM W bt C hcmp s₂.heap.objs.size hSf hC hn (W.frame _ _ _ hst λ b _ o e=>ak _ e) (hC _ _ hc0 λ b o _ _ e=>ak _ e) (cv _ rfl) λ v h' tk hP hk=>?_⟩;exact hQ v h' tk hP λ b o hbw e=>hk b o hbw (dh (bf e)) (ak _ e)
end
def ltP (a b:Int×Int):Bool:=decide (a.1<b.1\/(a.1=b.1/\a.2<b.2))
theorem tI (f:Nat->Int×Int):∀ n,argBest (λ i j=>ltP (f i) (f j)) n<=n/\∀ i,i<=n->ltP (f i) (f (argBest (λ i j=>ltP (f i) (f j)) n))=false
 | 0=>⟨ba _,λ i hi=>by
  obtain rfl:i=0:=by omega
  show ltP (f 0) (f 0)=false;unfold ltP;exact decide_eq_false (by omega)⟩
 | n+1=>by
  obtain ⟨a,b⟩:=tI f n;have e:argBest (λ i j=>ltP (f i) (f j)) (n+1)=if ltP (f (n+1)) (f (argBest (λ i j=>ltP (f i) (f j)) n))=true then n+1 else argBest (λ i j=>ltP (f i) (f j)) n:=rfl;rw [e];generalize argBest (λ i j=>ltP (f i) (f j)) n=m at *;by_cases c:ltP (f (n+1)) (f m)=true
  ·rw [if_pos c]
   refine ⟨ba _,λ i hi=>?_⟩;rcases (by omega:i=n+1\/i<=n) with rfl | hi
   ·unfold ltP;exact decide_eq_false (by omega)
   ·have:=b i hi
    unfold ltP at this c ⊢;have c:=of_decide_eq_true c;have:=of_decide_eq_false this;exact decide_eq_false (by omega)
  ·rw [if_neg c]
   refine ⟨by omega,λ i hi=>?_⟩;rcases (by omega:i=n+1\/i<=n) with rfl | hi
   ·exact fv.mpr c
   ·exact b i hi
inductive gW (K:ai) (xs:List V) (H:Hp) (Q:VK):Prop
 | mk:∀ (a:ag) (ps:List ag) (ns:List (Int×Int)),(xs=[.ref a])->(H a=some (.lst (ps.map V.ref)))->(ps.length=ns.length)->(∀ (i:Nat) (p:ag) (x:Int×Int),ps[i]?=some p->ns[i]?=some x->H p=some (.tup [.int x.1,.int x.2]))->(0<ns.length) ->
   (∀ (k:Nat) (p:ag) (x:Int×Int),ps[k]?=some p->ns[k]?=some x->(∀ y∈ns,ltP y x=false)->Q (.ref p) H)->gW K xs H Q
theorem kAR (a b:Int×Int):HT.lexLt [a.1,a.2] [b.1,b.2]=ltP a b:=by
 unfold ltP;rw [HT.lexLt_cons,HT.lexLt_cons,HT.lexLt_nil_nil];by_cases c:a.1=b.1
 ·rw [if_pos c]
  by_cases d:a.2=b.2
  ·rw [if_pos d]
   exact (decide_eq_false (by omega)).symm
  ·rw [if_neg d]
   congr 1
   rw [eq_iff_iff];omega
 ·rw [if_neg c]
  congr 1
  rw [eq_iff_iff];omega
section
variable {X:Cx}
theorem kEY (hc:X.calm=true) (hu:X.A.units+64<cLine):xB X (.builtin "min") (gW X.K):=by
 intro pins s σ H xs us Q I r h;obtain ⟨a,ps,ns,rfl,ha,l,hp,hne,q⟩:=h;obtain ⟨u,rfl,r1⟩:=zL r;cases r1
 obtain ⟨its,rv,ht,hz⟩:=I.list (SqL.of ha);have hl:=ht.isList;have li:its.length=ps.length:=by have:=rv.length;rw [bg] at this;omega
 have hne':a≠s.heap.objs.size:=by obtain ⟨o,e,_⟩:=hl;exact dh (bf e)
 have at_:∀ (i:Nat) (v:af),its[i]?=some v->∃ p x,ps[i]?=some p/\ns[i]?=some x/\v=.ref p:=λ i v e=>by
  have hi:=(au.mp e).1;have e1:ps[i]?=some ps[i]:=ao (by omega);have e2:ns[i]?=some ns[i]:=ao (by omega);obtain ⟨w,hw,rw'⟩:=rv.get (x:=V.ref ps[i]) (by rw [bq,e1];rfl);rw [e] at hw;cases hw
  cases rw'
  exact ⟨_,_,e1,e2,rfl⟩
 have tup:∀ (i:Nat) (p:ag) (x:Int×Int),ps[i]?=some p->ns[i]?=some x->∃ its2:List af,CF s.heap p its2.toArray/\uj its2 [x.1,x.2]:=λ i p x e1 e2=>by
  obtain ⟨its2,r2,p2,_⟩:=I.tuple (SqT.of (K:=X.K) (hp i p x e1 e2));exact ⟨its2,p2,kAU (ns:=[x.1,x.2]) r2⟩
 refine kEG (xh hl ⟨_,_,_,_,_,_,λ i j=>ltP (ns.getD i (0,0)) (ns.getD j (0,0)),λ h=>∀ (i:Nat) (p:ag) (x:Int×Int),ps[i]?=some p->ns[i]?=some x->∃ its2:List af,CF h p its2.toArray/\uj its2 [x.1,x.2],rfl,GI (A:=X.A.in1) (I.ok.hd hc) _ a hne' its.toArray,⟨⟨_,cv _ rfl,rfl,rfl⟩,hl.push _⟩,?_,?_,?_,?_,?_,λ v h' tk hP hk=>?_⟩)
 ·intro i p x e1 e2
  obtain ⟨its2,p2,i2⟩:=tup i p x e1 e2;obtain ⟨o,e,r⟩:=p2;exact ⟨its2,⟨o,ak _ e,r⟩,i2⟩
 ·intro b hb
  show b<(s.heap.push _).objs.size;rw [ni];rcases gu.mp hb with rfl | hb
  ·exact Dz _
  ·cases eu.mp hb
   obtain ⟨o,e,_⟩:=hl;exact BA (bf e)
 ·rw [dq]
  omega
 ·intro i j vi vj s2 Q2 E2 hC hi hj hQ
  have hi:its[i]?=some vi:=by simpa using hi
  have hj:its[j]?=some vj:=by simpa using hj
  obtain ⟨p,x,e1,e2,rfl⟩:=at_ i vi hi;obtain ⟨p',x',e3,e4,rfl⟩:=at_ j vj hj;obtain ⟨a1,b1,c1⟩:=hC i p x e1 e2;obtain ⟨a2,b2,c2⟩:=hC j p' x' e3 e4;have g1:ns.getD i (0,0)=x:=by simp [EF,e2]
  have g2:ns.getD j (0,0)=x':=by simp [EF,e4]
  dsimp only at hQ;rw [g1,g2,<-kAR] at hQ;exact HT.lt_tupInts b1 b2 (by simpa using c1) (by simpa using c2) (by show X.A.units+1<cLine;omega) hQ
 ·intro h1 h2 hC hk i p x e1 e2
  obtain ⟨its2,⟨o,e,r⟩,i2⟩:=hC i p x e1 e2;obtain ⟨_,⟨o',e',_⟩,_⟩:=tup i p x e1 e2;have lt:=bf e'
  exact ⟨its2,⟨o,hk p o (λ z=>by rw [eu.mp z] at lt;exact iQ _ lt) (λ z=>by
   have z:p=(s.heap.push { cls:=.type "list_iterator",data:=.fields #[.ref a,.int 0 0] }).objs.size:=z;rw [ni] at z;rw [z] at lt;exact absurd lt (Nat.not_lt.mpr (BC _))) e,r⟩,i2⟩
 ·have hP:its[argBest (λ i j=>ltP (ns.getD i (0,0)) (ns.getD j (0,0))) (its.toArray.size-1)]?=some v:=by simpa using hP
  obtain ⟨p,x,e1,e2,rfl⟩:=at_ _ v hP;obtain ⟨b1,b2⟩:=tI (λ i=>ns.getD i (0,0)) (its.toArray.size-1);refine ⟨.ref p,H,I.kept λ b o e'=>hk b o (λ z=>?_) (ak _ e'),rfl,q _ p x e1 e2 λ y hy=>?_⟩
  ·rw [eu.mp z] at e'
   exact absurd (bf e') (iQ _)
  ·obtain ⟨i,hi,rfl⟩:=List.getElem_of_mem hy
   have g1:ns.getD i (0,0)=ns[i]:=by simp [EF,ao hi]
   have g2:ns.getD (argBest (λ i j=>ltP (ns.getD i (0,0)) (ns.getD j (0,0))) (its.toArray.size-1)) (0,0)=x:=by rw [EF,e2];rfl
   have:=b2 i (by rw [dq];omega);rw [g1] at this;rwa [g2] at this
end
theorem Room.u80 {k:Nat} {A:dj} (r:Room k A):A.units+80<cLine:=by have:=r.un;omega
end L2
namespace L2
open PySem PyProof.Rows
inductive wS (K:ai) (attr:Str) (vs:List V) (H:Hp) (Q:VK) (Y:XK):Prop
 | mk:∀ (a C:ag) (y:V),(vs=[.ref a,y])->(H a=some (.ext (XO a C none .none)))->(Ex.XK0 K C)->(ip K C (.type "ValueError")=some true)->(eV K (.ref C) attr=some none) ->
   (∀ d,H d=none->d≠a->Q .non (upd (upd H d (.xd [(attr,y)])) a (.ext (XO a C (some d) .none))))->wS K attr vs H Q Y
def kPC (K:ai) (st:fq):Prop:=∃ (D G:ag) (gd:fj),eB K cu "DrawError" = some (some (.ref D))/\Fun K "__init__" "DrawError.__init__" st G gd/\iD K (.ref G)=true /\
 kl K (.ref D) "__getattribute__" = some (some (.builtin "type.__getattribute__"))/\AC K D (.type "type")=true/\oz K (.ref D) (.type "type") "__init__" = some (.val (.ref G))
def kOT (K:ai) (n qn attr:Str) (st:fq):Prop:=∃ (C D F:ag) (fd:fj),eB K cu n=some (some (.ref C))/\eB K cu "DrawError" = some (some (.ref D))/\XM K C F/\Fun K "__init__" qn st F fd /\
 ip K C (.type "ValueError")=some true/\ip K C (.ref D)=some true/\eV K (.ref C) attr=some none
section
variable {K:ai} {C N D F G:ag} {nm qn n n0 attr:Str} {bs sub:List af} {sn:List Str} {ab:Bool} {col:Option Bool} {dd:Option ag} {x0 x1 x2 x3 x5:Option af}
theorem di_mk {st:fq} {oc:af} {od an:Option ag} {osl:Array (Option af)} {kV doc pm cdv ctv:af} (a:eB K cu "DrawError" = some (some (.ref D))) (dg:kl K (.ref D) "__getattribute__" = some (some (.builtin "type.__getattribute__")))
  (dr:AC K D (.type "type")=true) (df:oz K (.ref D) (.type "type") "__init__" = some (.val (.ref G)))
  (fl:K.lookup G=some ⟨oc,od,.func (iN "__init__" "DrawError.__init__" (xA st) (qZ st) (kM st) .none kV doc pm an cdv ctv),osl⟩) (fc:qz K cdv "DrawError.__init__" = true) (fk:iD K (.ref G)=true):kPC K st :=
 ⟨D,G,_,a,kAV fl fc fk,fk,dg,dr,df⟩
theorem ox_mk {st:fq} {oc:af} {od an:Option ag} {osl:Array (Option af)} {kV doc pm cdv ctv:af} (a:eB K cu n=some (some (.ref C))) (d:eB K cu "DrawError" = some (some (.ref D))) (l:K.lookup C=some (excClassObj nm qn C N bs [.ref D,.type "ValueError",.type "Exception",.type "BaseException",.type "object"] true sn sub ab col dd x0 x1 x2 x3 x5 "ValueError.__new__"))
  (t:xw K (.ref C)=some (.type "type")) (sa:eV K (.ref C) "__setattr__" = some (some (.builtin "object.__setattr__"))) (ga:eV K (.ref C) "__getattribute__" = some (some (.builtin "BaseException.__getattribute__")))
  (gh:eV K (.ref C) "__getattr__" = some none) (cl:eV K (.ref C) "__class__" = some (some (.builtin "object.__class__"))) (cg:kl K (.builtin "object.__class__") "__get__" = some (some (.builtin "getset_descriptor.__get__")))
  (ct:Br K (.builtin "object.__class__")=some true) (na:eV K (.ref C) attr=some none) (i:eV K (.ref C) "__init__" = some (some (.ref F))) (f:xw K (.ref F)=some (.type "function")) (k:iD K (.ref C)=true)
  (fl:K.lookup F=some ⟨oc,od,.func (iN "__init__" n0 (xA st) (qZ st) (kM st) .none kV doc pm an cdv ctv),osl⟩) (fc:qz K cdv n0=true) (fk:iD K (.ref F)=true):kOT K n n0 attr st:=by
 refine ⟨C,D,F,_,a,d,⟨kLD l (kQC _ _) (kMI _).1 (kMI _).2 t sa ga gh cl cg ct,⟨_,_,_,_,_,_,_,_,_,_,_,_,_,_,_,_,l,up2 _⟩,i,f,k⟩,kAV fl fc fk,?_,?_,na⟩
 ·rw [pE l,ml,(up2 _).b,xv]
 ·rw [pE l];simp
end
section
variable {P:cw} {w:eK} {K:ai} {mg:Str->Option af} {base:eH}
def DrI (P:cw) (w:eK) (K:ai) (mg:Str->Option af) (base:eH):Prop:=∃ (D f:ag) (fd:fj),FnOk P w K mg base CX0 1 f fd ["self","words"] (cQ K)/\Binds K fd ["self","words"] []/\iD K (.ref f)=true/\mg "DrawError" = some (.ref D) /\
  kl K (.ref D) "__getattribute__" = some (some (.builtin "type.__getattribute__"))/\AC K D (.type "type")=true/\oz K (.ref D) (.type "type") "__init__" = some (.val (.ref f))
theorem kQY {st:fq} (X:∃ h:eH,K.In h/\h.Ns cu mg) (d:kPC K st) (xg:XgAt K)
  (ok:∀ (f:ag) (fd:fj),Fun K "__init__" "DrawError.__init__" st f fd->mg "ValueError" = none->FnOk P w K mg base CX0 1 f fd ["self","words"] (cQ K))
  (b:∀ (f:ag) (fd:fj),Fun K "__init__" "DrawError.__init__" st f fd->Binds K fd ["self","words"] []):DrI P w K mg base:=by
 obtain ⟨h,x,g⟩:=X;obtain ⟨D,G,gd,a,F,k,h1,h2,h3⟩:=d;exact ⟨D,G,gd,ok G gd F (DB x g xg.zv),b G gd F,k,jj x g a,h1,h2,h3⟩
theorem kQE {n qn attr p:Str} {st:fq} (X:∃ h:eH,K.In h/\h.Ns cu mg) (d:kOT K n qn attr st) (di:DrI P w K mg base)
  (ok:∀ (f:ag) (fd:fj),Fun K "__init__" qn st f fd->DrI P w K mg base->FnOk P w K mg base CX0 2 f fd ["self",p] (wS K attr))
  (b:∀ (f:ag) (fd:fj),Fun K "__init__" qn st f fd->Binds K fd ["self",p] []) :
  ∃ (C D F:ag) (fd:fj),mg n=some (.ref C)/\mg "DrawError" = some (.ref D)/\XM K C F/\FnOk P w K mg base CX0 2 F fd ["self",p] (wS K attr)/\Binds K fd ["self",p] []/\ip K C (.type "ValueError")=some true/\ip K C (.ref D)=some true/\eV K (.ref C) attr=some none:=by
 obtain ⟨h,x,g⟩:=X;obtain ⟨C,D,F,fd,a1,a2,m,fn,v1,v2,na⟩:=d;exact ⟨C,D,F,fd,jj x g a1,jj x g a2,m,ok F fd fn di,b F fd fn,v1,v2,na⟩
end
theorem PS.nox {X:Cx} {st:fq} {t:TS} (h:PS X.nox st t):PS X st t:=λ pins s σ H D I hw =>
 jc (h pins s σ H D (I.wish _) hw) (λ _ _ q=>q.unwish) λ _ _ z=>iL z
end L2
namespace Ang
open Mth
end Ang
namespace Dcv
open PySem PySem.Spec PyProof.Rows L2 Dcl
end Dcv
namespace Ang
open PySem L2 Dcl
def low (S:List Nat):Nat:=S.foldl min (S.headD 0)
theorem mY:∀ (S:List Nat) (a:Nat),S.foldl min a<=a/\(∀ i∈S,S.foldl min a<=i)/\(S.foldl min a=a\/S.foldl min a∈S)
 | [],a=>⟨ba _,(λ i h=>nomatch h),.inl rfl⟩
 | x::S,a=>by
  obtain ⟨h1,h2,h3⟩:=mY S (min a x);rw [wd];have m1:=Nat.min_le_left a x;have m2:=Dp a x;refine ⟨by omega,λ i hi=>?_,?_⟩
  ·rcases gu.mp hi with rfl | hi
   ·omega
   ·exact h2 i hi
  ·rcases h3 with h3 | h3
   ·rcases Nat.le_total a x with c | c
    ·exact .inl (by rw [h3,ju c])
    ·exact .inr (by rw [h3,Dv c];exact fe)
   ·exact .inr (eY _ h3)
theorem kKJ {S:List Nat} (h:S≠[]):low S∈S/\∀ i∈S,low S<=i:=by
 obtain ⟨x,r,rfl⟩:=List.exists_cons_of_ne_nil h;obtain ⟨_,h2,h3⟩:=mY (x::r) x;refine ⟨?_,h2⟩;rcases h3 with h3 | h3
 ·show List.foldl min x (x::r)∈x::r
  rw [h3];exact fe
 ·exact h3
theorem kHP {S:List Nat} {M:Nat} (h:M∈S) (l:∀ i∈S,M<=i):M=low S:=by
 obtain ⟨a,b⟩:=kKJ (S:=S) (List.ne_nil_of_mem h);exact Nat.le_antisymm (l _ a) (b _ h)
end Ang
namespace Ex
open PySem
end Ex
namespace L2
open PySem PySem.Spec PyProof.Rows
section
variable {X:Cx} {pins:List (ag×Obj)} {σ:St} {H:Hp} {s:aj} {a C:ag} {dx:Option ag} {t1 v:af}
def SameE (H H':Hp):Prop:=∀ b o,(∀ φ,o≠.ext φ)->H b=some o->H' b=some o
theorem SameE.trans {H H1 H2:Hp} (x:SameE H H1) (y:SameE H1 H2):SameE H H2:=λ b o n e=>y b o n (x b o n e)
end
section
variable {X:Cx} {e tg iter el:fm} {ifs:List fm} {gens rest:List BJ} {sc:qw} {pos:Pos} {Nc:List Str} {js:List (Option Nat)} {wi:TI}
end
end L2
namespace Prf
open PySem L2 Own Tri Cyc Rnd
def top (i:Nat):fq:=PySem.Challenge.pw_restdraw_k43_meetings_of_a_web.main.body.getD i (.Pass ⟨0,0,0,0⟩)
abbrev xR:fq:=top 19
theorem vA:FnScope ["one","other"] ["one","other"] (kM xR):=qA
abbrev fB:fq:=top 20
theorem rZ:FnScope ["n","d","divisor"] ["n","d"] (kM fB):=qA
abbrev kGM:fq:=top 21
theorem kJK:FnScope ["one","other"] ["one","other"] (kM kGM):=qA
abbrev kGN:fq:=top 22
theorem kJL:FnScope ["one","other"] ["one","other"] (kM kGN):=qA
abbrev kBV:fq:=top 23
theorem kGG:FnScope ["one","other"] ["one","other"] (kM kBV):=qA
abbrev kGL:fq:=top 24
theorem kJJ:FnScope ["one"] ["one"] (kM kGL):=qA
abbrev dP:fq:=top 26
theorem rO:FnScope ["web"] ["web"] (kM dP):=qA
abbrev kGK:fq:=top 27
theorem kJI:FnScope ["web"] ["web"] (kM kGK):=qA
abbrev sB:fq:=top 29
theorem kDU:FnScope ["point","n","d","m","e"] ["point"] (kM sB):=qA
abbrev sC:fq:=top 30
theorem kDW:FnScope ["one","other","a","b","c","k","m","n"] ["one","other"] (kM sC):=qA
abbrev kGO:fq:=top 31
theorem kJM:FnScope ["p","q","r","a","b","c","x","y","z"] ["p","q","r"] (kM kGO):=qA
abbrev kBX:fq:=top 32
theorem kGI:FnScope ["one","other"] ["one","other"] (kM kBX):=qA
abbrev zW:fq:=top 33
theorem cF:FnScope ["point","one","x","y","start","end","wide","high"] ["point","one"] (kM zW):=qA
abbrev mI:fq:=top 34
theorem tZ:FnScope ["one","other"] ["one","other"] (kM mI):=qA
abbrev fD:fq:=top 35
theorem sA:FnScope ["one","other","first","second","x","y","z"] ["one","other"] (kM fD):=qA
abbrev kLT:fq:=top 36
theorem kNB:FnScope ["one","other","here","there"] ["one","other"] (kM kLT):=qA
abbrev uN:fq:=top 37
theorem lL:FnScope ["one","other"] ["one","other"] (kM uN):=qA
abbrev mH:fq:=top 38
theorem tY:FnScope ["drawing","tie","other","one","second","found"] ["drawing","tie","other"] (kM mH):=qA
abbrev kBY:fq:=top 39
theorem kGJ:FnScope ["drawing","firsts","pairs","q","point","p"] ["drawing"] (kM kBY):=qA
abbrev yS:fq:=top 40
theorem uH:FnScope ["drawing","pair"] ["drawing"] (kM yS):=qA
abbrev dQ:fq:=top 41
theorem rP:FnScope ["web","drawing","told","some","at","tie","other","found"] ["web","drawing"] (kM dQ):=qA
abbrev mK:fq:=top 43
theorem kAB:FnScope ["_law_script","_law_k","_law_cell"] ["_law_script","_law_k"] (kM mK):=qA
abbrev bN:fq:=top 44
theorem oG:FnScope ["_law_pot_here","_law_many","_law_digit_here"] ["_law_pot_here","_law_many"] (kM bN):=qA
abbrev mL:fq:=top 45
theorem kAC:FnScope ["_law_n","_law_d","_law_one","_law_other"] ["_law_n","_law_d"] (kM mL):=qA
abbrev dU:fq:=top 46
theorem rS:FnScope ["_law_one","_law_other"] ["_law_one","_law_other"] (kM dU):=qA
abbrev dY:fq:=top 47
theorem rW:FnScope ["_law_one","_law_other"] ["_law_one","_law_other"] (kM dY):=qA
abbrev bH:fq:=top 48
theorem nZ:FnScope ["_law_one","_law_other"] ["_law_one","_law_other"] (kM bH):=qA
abbrev dS:fq:=top 49
theorem rR:FnScope ["_law_one"] ["_law_one"] (kM dS):=qA
abbrev uM:fq:=top 50
theorem lK:FnScope ["_law_pot_here","_law_mode","_law_far"] ["_law_pot_here","_law_mode"] (kM uM):=qA
abbrev vF:fq:=top 51
theorem dO:FnScope ["_law_one","_law_other","_law_part"] ["_law_one","_law_other","_law_part"] (kM vF):=qA
abbrev bJ:fq:=top 52
theorem oB:FnScope ["_law_pot_here","_law_points_here","_law_mode","_law_p","_law_q","_law_part"] ["_law_pot_here","_law_points_here","_law_mode"] (kM bJ):=qA
abbrev uL:fq:=top 53
theorem lJ:FnScope ["_law_pot_here","_law_many","_law_mode","_law_found","_law_k","_law_point_here"] ["_law_pot_here","_law_many"] (kM uL):=qA
abbrev bP:fq:=top 54
theorem oI:FnScope ["_law_one","_law_other"] ["_law_one","_law_other"] (kM bP):=qA
abbrev fA:fq:=top 55
theorem rY:FnScope ["_law_p","_law_q","_law_r","_law_a","_law_b","_law_c","_law_d"] ["_law_p","_law_q","_law_r"] (kM fA):=qA
abbrev zZ:fq:=top 56
theorem cH:FnScope ["_law_p","_law_q"] ["_law_p","_law_q"] (kM zZ):=qA
abbrev bM:fq:=top 57
theorem oF:FnScope ["_law_p","_law_q"] ["_law_p","_law_q"] (kM bM):=qA
abbrev dZ:fq:=top 58
theorem rX:FnScope ["_law_p","_law_q"] ["_law_p","_law_q"] (kM dZ):=qA
abbrev zM:fq:=top 59
theorem aV:FnScope ["_law_r","_law_tie_here","_law_low_here","_law_high"] ["_law_r","_law_tie_here"] (kM zM):=qA
abbrev wA:fq:=top 60
theorem cI:FnScope ["_law_one","_law_other","_law_low_here"] ["_law_one","_law_other"] (kM wA):=qA
abbrev yB:fq:=top 61
theorem vO:FnScope ["_law_one","_law_other"] ["_law_one","_law_other"] (kM yB):=qA
abbrev yT:fq:=top 62
theorem uI:FnScope ["_law_p","_law_q","_law_r"] ["_law_p","_law_q","_law_r"] (kM yT):=qA
abbrev dX:fq:=top 63
theorem rV:FnScope ["_law_tie_here","_law_p","_law_q","_law_a","_law_b"] ["_law_tie_here"] (kM dX):=qA
abbrev bL:fq:=top 64
theorem oE:FnScope ["_law_a","_law_b","_law_c","_law_d"] ["_law_a","_law_b","_law_c","_law_d"] (kM bL):=qA
abbrev dW:fq:=top 65
theorem rT:FnScope ["_law_one","_law_other"] ["_law_one","_law_other"] (kM dW):=qA
abbrev yA:fq:=top 66
theorem vN:FnScope ["_law_one","_law_other","_law_a","_law_b","_law_c","_law_d","_law_e","_law_f","_law_under"] ["_law_one","_law_other"] (kM yA):=qA
abbrev vD:fq:=top 67
theorem dM:FnScope ["_law_drawing","_law_tie_here","_law_other","_law_ends","_law_one","_law_two","_law_q"] ["_law_drawing","_law_tie_here","_law_other"] (kM vD):=qA
abbrev bK:fq:=top 68
theorem oC:FnScope ["_law_rows","_law_found","_law_p","_law_row"] ["_law_rows"] (kM bK):=qA
abbrev zY:fq:=top 69
theorem cG:FnScope ["_law_drawing","_law_pairs_here","_law_found","_law_k","_law_tie_here","_law_other","_law_due"] ["_law_drawing","_law_pairs_here"] (kM zY):=qA
abbrev mJ:fq:=top 70
theorem kAA:FnScope ["_law_pot_here","_law_rows","_law_p","_law_q"] ["_law_pot_here","_law_rows","_law_p","_law_q"] (kM mJ):=qA
abbrev wB:fq:=top 71
theorem cJ:FnScope ["_law_pot_here","_law_n","_law_rows","_law_k","_law_p","_law_q"] ["_law_pot_here","_law_n"] (kM wB):=qA
abbrev yU:fq:=top 72
theorem uJ:FnScope ["_law_row","_law_at"] ["_law_row"] (kM yU):=qA
abbrev dR:fq:=top 73
theorem rQ:FnScope ["_law_rows"] ["_law_rows"] (kM dR):=qA
abbrev bQ:fq:=top 74
theorem oJ:FnScope ["_law_drawing","_law_p","_law_q"] ["_law_drawing"] (kM bQ):=qA
abbrev vE:fq:=top 75
theorem dN:FnScope ["_law_e","_law_some"] ["_law_e"] (kM vE):=qA
abbrev bO:fq:=top 76
theorem oH:FnScope ["_law_web","_law_drawing","_law_e"] ["_law_web","_law_drawing"] (kM bO):=qA
abbrev bI:fq:=top 77
theorem oA:FnScope ["_law_web","_law_drawing","_law_due","_law_found"] ["_law_web","_law_drawing","_law_due"] (kM bI):=qA
abbrev kBW:fq:=top 78
theorem sc_law:FnScope ["_law_script","_law_k","_law_pot_here","_law_rows","_law_drawing","_law_fewer","_law_some","_law_due"] ["_law_script"] (kM kBW):=qA
def kMA (s:fq) (j:Nat):fq:=match s with
 | .ClassDef _ _ _ b _ _ _ _ _ _ _=>b.getD j (.Pass ⟨0,0,0,0⟩)
 | _=>.Pass ⟨0,0,0,0⟩
abbrev zC:fq:=kMA (top 16) 0
theorem lM:FnScope ["self","places"] ["self","places"] (kM zC):=qA
abbrev xC:fq:=kMA (top 1) 0
theorem uK:FnScope ["self","words"] ["self","words"] (kM xC):=qA
structure FxG (K:ai) (mg:Str->Option af):Prop where
 X:∃ h:eH,K.In h/\h.Ns cu mg
 d0:qH K "greatest_divisor" xR
 d1:qH K "fraction" fB
 d2:qH K "plus" kGM
 d3:qH K "less" kGN
 d4:qH K "times" kBV
 d5:qH K "sign" kGL
 d6:qH K "steps_of" dP
 d7:qH K "ties" kGK
 d8:qH K "spread" sB
 d9:qH K "across" sC
 d10:qH K "hand" kGO
 d11:qH K "hands" kBX
 d12:qH K "lies_between" zW
 d13:qH K "overlap" mI
 d14:qH K "crossing" fD
 d15:qH K "met" kLT
 d16:qH K "joined_met" uN
 d17:qH K "tie_met" mH
 d18:qH K "alike" kBY
 d19:qH K "must_be_unlike" yS
 d20:qH K "meetings" dQ
 d21:qH K "_law_pot" mK
 d22:qH K "_law_digit" bN
 d23:qH K "_law_low" mL
 d24:qH K "_law_plus" dU
 d25:qH K "_law_less" dY
 d26:qH K "_law_times" bH
 d27:qH K "_law_sign" dS
 d28:qH K "_law_number" uM
 d29:qH K "_law_between" vF
 d30:qH K "_law_point" bJ
 d31:qH K "_law_points" uL
 d32:qH K "_law_apart" bP
 d33:qH K "_law_hand" fA
 d34:qH K "_law_is_ahead" zZ
 d35:qH K "_law_first" bM
 d36:qH K "_law_last" dZ
 d37:qH K "_law_is_within" zM
 d38:qH K "_law_are_over" wA
 d39:qH K "_law_are_crossed" yB
 d40:qH K "_law_lead_alike" yT
 d41:qH K "_law_line" dX
 d42:qH K "_law_mixed" bL
 d43:qH K "_law_over" dW
 d44:qH K "_law_cross_point" yA
 d45:qH K "_law_meeting" vD
 d46:qH K "_law_pairs" bK
 d47:qH K "_law_meetings" zY
 d48:qH K "_law_tie" mJ
 d49:qH K "_law_any_rows" wB
 d50:qH K "_law_from_least" yU
 d51:qH K "_law_told" dR
 d52:qH K "_law_alike" bQ
 d53:qH K "_law_is_just" vE
 d54:qH K "_law_asked" bO
 d55:qH K "_law_right" bI
 d56:qH K "law" kBW
 y0:eB K cu "enumerate" = some none
 y1:eB K cu "isinstance" = some none
 y2:eB K cu "max" = some none
 y3:eB K cu "abs" = some none
 y4:eB K cu "divmod" = some none
 y5:eB K cu "int" = some none
 y6:eB K cu "len" = some none
 y7:eB K cu "range" = some none
 y8:eB K cu "tuple" = some none
 y9:eB K cu "min" = some none
 y10:eB K cu "any" = some none
 y11:eB K cu "sorted" = some none
 y12:eB K cu "list" = some none
 y13:eB K cu "ValueError" = some none
 xg:XgAt K
 xd:kPB K
 xi:kPC K xC
 o_Alike:kOT K "Alike" "Alike.__init__" "places" zC
 kv_Alike:kLC K "Alike"
 kd_Alike_NoText:zJ K "Alike" "NoText" false
 kd_Alike_NotFlat:zJ K "Alike" "NotFlat" false
 kd_Alike_NotTied:zJ K "Alike" "NotTied" false
 kd_Alike_NotCornered:zJ K "Alike" "NotCornered" false
 kd_Alike_NoRim:zJ K "Alike" "NoRim" false
 kd_Alike_NoCorners:zJ K "Alike" "NoCorners" false
 kd_Alike_NoBase:zJ K "Alike" "NoBase" false
 kd_Alike_NoOrder:zJ K "Alike" "NoOrder" false
 kd_Alike_NoWoods:zJ K "Alike" "NoWoods" false
 kd_Alike_NoWeights:zJ K "Alike" "NoWeights" false
 kd_Alike_NoFace:zJ K "Alike" "NoFace" false
 kd_Alike_Doubled:zJ K "Alike" "Doubled" false
 kd_Alike_NoTie:zJ K "Alike" "NoTie" false
 kd_Alike_Parted:zJ K "Alike" "Parted" false
 kd_Alike_Alike:zJ K "Alike" "Alike" true
 kd_Alike_Folded:zJ K "Alike" "Folded" false
theorem FxG.z {K:ai} {mg:Str->Option af} (B:FxG K mg) {n:Str} (y:eB K cu n=some none):mg n=none:=by
 obtain ⟨h,x,g⟩:=B.X;exact DB x g y
def Bad (c:Cn):Prop:=FxG c.K c.mg/\∃ f fd,Fun c.K "law" "law" kBW f fd/\¬ FnOk c.P c.w c.K c.mg c.base CX0 12 f fd ["_law_script"] (mB c.K)
noncomputable def c0:Cn:=DV Bad
noncomputable def P:cw:=c0.P
noncomputable def w:eK:=c0.w
noncomputable def K:ai:=c0.K
noncomputable def mg:Str->Option af:=c0.mg
noncomputable def base:eH:=c0.base
abbrev Fx:=FxG K mg
abbrev Hs:=Own.Has P w K mg base
theorem kE {H:Hp} {p:ag} (h:H p=none) (o:HO):Same H (upd H p o):=λ b u q=>by rw [kN (kR q h)];exact q
def SameBut (a:ag) (H H':Hp):Prop:=∀ b o,b≠a->H b=some o->H' b=some o
theorem pW (i:Int):(if i<0 then -i else i)=(i.natAbs:Int):=by split<;>omega
inductive kLM (K:ai) (vs:List V) (H:Hp) (Q:VK) (Y:XK):Prop
 | mk:∀ (a:ag) (ns:List Int) (k:Int),(vs=[.ref a,.int k])->(SqL K H a (ns.map V.int))->(ns.length<=63)->(0<=k)->(k<=63)->(∀ (p:ag) (x y:Int) (H':Hp),0<=x->Same H H'->H p=none->H' p=some (.lst [.int x,.int y])->Q (.ref p) H')->kLM K vs H Q Y
def PotAt (H:Hp) (a:ag):Prop:=∃ x y:Int,H a=some (.lst [.int x,.int y])/\0<=x
inductive kBO (vs:List V) (H:Hp) (Q:VK) (Y:XK):Prop
 | mk:∀ (a:ag) (m:Int),(vs=[.ref a,.int m])->(PotAt H a)->(0<m)->(m.natAbs<2 ^ 9000)->(∀ (d:Int) (H':Hp),0<=d->d<m->SameBut a H H'->PotAt H' a->Q (.int d) H')->kBO vs H Q Y
def vn (n:Nat):V:=.int (n:Int)
def ci (n:Nat):Int:=n
theorem nU (ns:List Nat):ns.map vn=(ns.map ci).map V.int:=by
 rw [Dg]
 rfl
section
theorem at0 {x y:V}:atI [x,y] 0=some x:=rfl
theorem at1 {x y:V}:atI [x,y] 1=some y:=rfl
theorem kIT (ns:List Int) (lo hi:Option Int):∃ ms:List Int,zR (ns.map V.int) lo hi=ms.map V.int/\ms.length<=ns.length:=by
 refine ⟨(ns.drop (HT.sIx (ns.map V.int).length 0 lo)).take (HT.sIx (ns.map V.int).length (ns.map V.int).length hi-HT.sIx (ns.map V.int).length 0 lo),?_,?_⟩
 ·unfold zR
  rw [Cr,yv]
 ·rw [gw,fh]
  omega
theorem kEQ (ms:List Int):∃ c:Int,atI (ms.map V.int++[V.int 0]) 0=some (V.int c):=by
 cases ms with
 | nil=>exact ⟨0,rfl⟩
 | cons x r=>exact ⟨x,jH (j:=0) rfl⟩
theorem uF {n:Nat} (h:n<=20000):n<sizeLine:=cj h (by rw [mj];decide)
theorem kLR {n:Nat} (h:n<=1000):n<=sizeLine:=va (qR h)
theorem kAJ (B:Fx):Hs "_law_pot" ["_law_script","_law_k"] 1 (kLM K):=by
 refine qC B.X B.d21 kAB λ f cdv A outer s H vs Q E nN hr h=>?_;obtain ⟨a,ns,k,rfl,hS,h63,k0,k1,q⟩:=h
 refine ⟨_,(kF (pst 2 nN (pix kT (kO vR (xV uG (pv 0) (xL (pv 1)) (xL (kO jG (pv 1) kC))) (jF (p1 kC))) kC))
   (kI (kP (jF (p2 (kS (nJ rfl) rfl (B.z B.y2) CC (p2 kC (kO xD (pv 2) (kO fG kC kC)))) (kO jG (kO vQ (kO jG (kO jG (kS wO rfl (B.z B.y3) nv (p1 (pv 2))) (kO vP kC (pv 1))) kC) kC) kC)))))),?_⟩
 try dsimp only [qE]
 obtain ⟨ms,em,lm⟩:=kIT ns (some k) (some (k+1));obtain ⟨c,hc⟩:=kEQ ms;refine ⟨_,rfl,_,rfl,k,rfl,_,rfl,_,_,rfl,rfl,k+1,rfl,a,_,rfl,hS,λ p1 h1=>?_⟩;refine ⟨yS1,λ p2 h2=>?_⟩;have n12:p1≠p2:=kR kD h2;refine ⟨p1,p2,_,_,rfl,rfl,(by rw [kN n12];exact kD),kD,(by rw [em,bg,jg];exact kLR (by omega)),λ p3 h3=>?_⟩;refine ⟨p3,_,_,_,rfl,rfl,SqL.of kD,(by rw [em];exact hc),?_⟩;have g1:Same H (upd H p1 (.lst (zR (ns.map V.int) (some k) (some (k+1))))):=kE h1 _;have g2:=kE h2 (.lst [V.int 0]);have g3:=kE h3 (.lst (zR (ns.map V.int) (some k) (some (k+1))++[V.int 0]));have g:=g1.trans (g2.trans g3);refine ⟨_,rfl,_,_,rfl,rfl,⟨by decide,by decide,by decide⟩,_,_,rfl,rfl,_,_,rfl,_,rfl,c,rfl,_,rfl,_,_,rfl,rfl,.inl ⟨by decide,by decide⟩,_,_,rfl,rfl,_,_,rfl,rfl,_,_,rfl,rfl,(by show (0:Int)<2147483629;decide),_,_,rfl,rfl,yS2,λ p4 h4=>?_⟩;refine q p4 _ _ _ ?_ (g.trans (kE h4 _)) (g.free h4) kD
 split<;>omega
theorem SameBut.refl (a:ag) (H:Hp):SameBut a H H:=λ _ _ _ h=>h
theorem SameBut.trans {a:ag} {H H1 H2:Hp} (x:SameBut a H H1) (y:SameBut a H1 H2):SameBut a H H2:=λ b o n h=>y b o n (x b o n h)
theorem SameBut.of {a:ag} {H H':Hp} (h:Same H H'):SameBut a H H':=λ b o _ e=>h b o e
theorem aN {a:ag} {H:Hp} {o:HO}:SameBut a H (upd H a o):=λ b u n h=>by rw [kN n];exact h
theorem kW (B:Fx):Hs "_law_digit" ["_law_pot_here","_law_many"] 1 (kBO):=by
 refine qC B.X B.d22 oG λ f cdv A outer s H vs Q E nN hr h=>?_;obtain ⟨a,m,rfl,⟨x,y,ha,hx⟩,m0,m1,q⟩:=h
 refine ⟨_,(kF (qP (kU uP (pix kT (pv 0) kC) kC (kX _)) (kF (jX (kS pS rfl (B.z B.y4) FX (p2 (pix kT (pv 0) kC) (pv 1))) (jE (n:=2) rfl (kQ (kHD (pv 0) kC rN) (kQ (pgn 2 nN) qJ))))
   (kI (kP (pv 2)))) qB)
   (kF (jX (kO vQ (kO jG (kO vP (pix kT (pv 0) kC) kC) kC) kC) (kHD (pv 0) kC rN))
   (kI (kP (kO vQ (kO kCI (kO vQ (kO vP (pix kT (pv 0) kC) (pix kT (pv 0) kC)) kC) kC) (pv 1)))))),?_⟩
 try dsimp only [qE]
 refine ⟨_,rfl,a,_,_,_,rfl,rfl,SqL.of ha,at0,_,_,rfl,rfl,_,rfl,?_⟩;refine jC (λ c=>?_) (λ c=>?_)
 ·refine ⟨_,rfl,a,_,_,_,rfl,rfl,SqL.of ha,at0,_,rfl,x,m,rfl,⟨m0,m1⟩,λ p hp=>?_⟩
  have nap:a≠p:=kR ha hp;refine ⟨p,_,rfl,SqT.of kD,rfl,_,_,rfl,_,rfl,a,_,_,0,rfl,rfl,(by rw [kN nap];exact ha),rfl,_,_,rfl,rfl,?_⟩;refine ⟨_,rfl,?_⟩;refine q _ _ (AD _ (by omega)) (Aq _ m0) ((SameBut.of (kE hp _)).trans aN) ⟨_,_,kD,?_⟩;exact Int.ediv_nonneg hx (by omega)
 ·refine ⟨_,rfl,a,_,_,_,rfl,rfl,SqL.of ha,at1,_,_,rfl,rfl,.inr ⟨by decide,by decide⟩,_,_,rfl,rfl,_,_,rfl,rfl,(by show (0:Int)<2147483647;decide),?_⟩
  refine ⟨_,rfl,a,_,_,1,rfl,rfl,ha,rfl,?_⟩;have b1:0<=(y*48271+39373) % 2147483647:=AD _ (by decide);have b2:(y*48271+39373) % 2147483647<2147483647:=Aq _ (by decide);refine ⟨_,rfl,a,_,_,_,rfl,rfl,SqL.of kD,at1,_,rfl,a,_,_,_,rfl,rfl,SqL.of kD,at1,_,_,rfl,rfl,.inl ⟨?_,?_⟩,_,_,rfl,rfl,(by show (0:Int)<2147483629;decide),_,_,rfl,rfl,⟨by decide,by decide⟩,_,rfl,_,_,rfl,rfl,m0,?_⟩
  ·show -(2 ^ 64)<(y*48271+39373) % 2147483647
   omega
  ·show (y*48271+39373) % 2147483647<2 ^ 64
   omega
  ·exact q _ _ (AD _ (by omega)) (Aq _ m0) aN ⟨_,_,kD,hx⟩
theorem keep {H H1 H2:Hp} {p:ag} (g:Same H H1) (n:H p=none) (b:SameBut p H1 H2):Same H H2:=λ c o e=>b c o (kR e n) (g c o e)
theorem PotAt.kept {H H':Hp} {p:ag} (h:PotAt H p) (g:Same H H'):PotAt H' p:=by
 obtain ⟨x,y,e,z⟩:=h;exact ⟨x,y,g _ _ e,z⟩
theorem uV {i:Int} (h:i.natAbs<2 ^ 200):i.natAbs<2 ^ 9000:=be h (pk (by decide) (by decide))
theorem PotAt.other {H:Hp} {a l:ag} {o:HO} (h:PotAt H a) (n:a≠l):PotAt (upd H l o) a:=by
 obtain ⟨x,y,e,z⟩:=h;exact ⟨x,y,by rw [kN n];exact e,z⟩
end
open Mth Sca
def kPA (n d:Int) (H:Hp) (Q:VK):Prop:=∀ (n' d':Int) (p:ag) (H':Hp),Fr n d n' d'->Same H H'->H' p=some (.tup [.int n',.int d'])->Q (.ref p) H'
inductive kNA (vs:List V) (H:Hp) (Q:VK) (Y:XK):Prop
 | mk:∀ (n d:Int),(vs=[.int n,.int d])->(d≠0)->(d.natAbs<2 ^ 9000)->(kPA n d H Q)->kNA vs H Q Y
inductive dI (top bot:Int->Int->Int->Int->Int) (vs:List V) (H:Hp) (Q:VK) (Y:XK):Prop
 | mk:∀ (a b:ag) (a0 a1 b0 b1:Int),(vs=[.ref a,.ref b])->(H a=some (.tup [.int a0,.int a1]))->(H b=some (.tup [.int b0,.int b1]))->((a0.natAbs<2 ^ 4000/\a1.natAbs<2 ^ 4000/\b0.natAbs<2 ^ 4000/\b1.natAbs<2 ^ 4000))->(bot a0 a1 b0 b1≠0)->(kPA (top a0 a1 b0 b1) (bot a0 a1 b0 b1) H Q)->dI top bot vs H Q Y
inductive tU (vs:List V) (H:Hp) (Q:VK) (Y:XK):Prop
 | mk:∀ (a:ag) (a0 a1:Int),(vs=[.ref a])->(H a=some (.tup [.int a0,.int a1]))->(Q (.int (sgn a0)) H)->tU vs H Q Y
def Sz (B:Nat) (P:Pt):Prop:=0<P.d/\0<P.e/\P.n.natAbs<2 ^ B/\P.d.natAbs<2 ^ B/\P.m.natAbs<2 ^ B/\P.e.natAbs<2 ^ B
def PtAt (H:Hp) (p:ag) (P:Pt):Prop:=∃ x y,H p=some (.tup [.ref x,.ref y])/\H x=some (.tup [.int P.n,.int P.d])/\H y=some (.tup [.int P.m,.int P.e])
def Fz (B:Nat) (n d:Int):Prop:=0<d/\n.natAbs<2 ^ B/\d.natAbs<2 ^ B
inductive rJ (vs:List V) (H:Hp) (Q:VK) (Y:XK):Prop
 | mk:∀ (p:ag) (P:Pt),(vs=[.ref p])->(PtAt H p P)->(Sz 1000 P)->(∀ q,H q=none->Q (.ref q) (upd H q (.tup [.int (P.n*P.e),.int (P.m*P.d),.int (P.d*P.e)])))->rJ vs H Q Y
inductive rM (vs:List V) (H:Hp) (Q:VK) (Y:XK):Prop
 | mk:∀ (p q:ag) (a b c k m n:Int),(vs=[.ref p,.ref q])->(H p=some (.tup [.int a,.int b,.int c]))->(H q=some (.tup [.int k,.int m,.int n]))->((a.natAbs<2 ^ 4000/\b.natAbs<2 ^ 4000/\c.natAbs<2 ^ 4000/\k.natAbs<2 ^ 4000/\m.natAbs<2 ^ 4000/\n.natAbs<2 ^ 4000))->(∀ t,H t=none->Q (.ref t) (upd H t (.tup [.int (b*n-c*m),.int (c*k-a*n),.int (a*m-b*k)])))->rM vs H Q Y
inductive kGE (f:Pt->Pt->Pt->Int) (vs:List V) (H:Hp) (Q:VK) (Y:XK):Prop
 | mk:∀ (p q r:ag) (P P' R:Pt),(vs=[.ref p,.ref q,.ref r])->(PtAt H p P)->(PtAt H q P')->(PtAt H r R)->(Sz 1000 P)->(Sz 1000 P')->(Sz 1000 R)->(∀ H',Same H H'->Q (.int (sgn (f P P' R))) H')->kGE f vs H Q Y
def Lw (P:Pt):Prop:=0<P.d/\0<P.e/\iE P.n P.d=1/\iE P.m P.e=1
def Cd (S V:Nat) (n d:Int):Prop:=∃ X:Int,Sc (S:Int) X n d/\X.natAbs<=V*S
def sc:Nat->Nat
 | 0=>6
 | i+1=>sc i*(6*((7+i)*(11+i)))
def vv:Nat->Nat
 | 0=>4
 | i+1=>5*vv i+6
inductive mF (vs:List V) (H:Hp) (Q:VK) (Y:XK):Prop
 | mk:∀ (a b c:ag) (a0 a1 b0 b1 c0 c1:Int) (B:Nat),(vs=[.ref a,.ref b,.ref c])->(H a=some (.tup [.int a0,.int a1]))->(H b=some (.tup [.int b0,.int b1]))->(H c=some (.tup [.int c0,.int c1]))->(Fz B a0 a1)->(Fz B b0 b1)->(Fz 2 c0 c1)->(B<=300)->(∀ (n d:Int) (p:ag) (H':Hp),(∀ S X Y C:Int,Sc S X a0 a1->Sc S Y b0 b1->Sc 6 C c0 c1->Sc (S*6) (X*6+C*(Y-X)) n d)->iE n d=1->Same H H'->H' p=some (.tup [.int n,.int d])->Q (.ref p) H')->mF vs H Q Y
inductive kBQ (vs:List V) (H:Hp) (Q:VK) (Y:XK):Prop
 | mk:∀ (a b:ag) (a0 a1 b0 b1:Int),(vs=[.ref a,.ref b])->(H a=some (.tup [.int a0,.int a1]))->(H b=some (.tup [.int b0,.int b1]))->((a0.natAbs<2 ^ 1700/\a1.natAbs<2 ^ 1700/\b0.natAbs<2 ^ 1700/\b1.natAbs<2 ^ 1700))->(∀ t,H t=none->Q (.ref t) (upd H t (.tup [.int (b0*a1-a0*b1),.int (a1*b1)])))->kBQ vs H Q Y
inductive kBN (vs:List V) (H:Hp) (Q:VK) (Y:XK):Prop
 | mk:∀ (p q r:ag) (P P' R:Pt),(vs=[.ref p,.ref q,.ref r])->(PtAt H p P)->(PtAt H q P')->(PtAt H r R)->(Sz 210 P)->(Sz 210 P')->(Sz 1700 R)->(∀ H',Same H H'->Q (.int (sgn (pF P P' R))) H')->kBN vs H Q Y
inductive kLP (vs:List V) (H:Hp) (Q:VK) (Y:XK):Prop
 | mk:∀ (i j:Int),(vs=[.int i,.int j])->(Q (.int (iE i j:Int)) H)->kLP vs H Q Y
theorem w9 {a:Int} {B:Nat} (h:a.natAbs<2 ^ B) (hB:B<=9000:=by decide):a.natAbs<2 ^ 9000:=up h hB
theorem m9 {a b:Int} {B C:Nat} (h:a.natAbs<2 ^ B) (h':b.natAbs<2 ^ C) (hB:B+C<=9000:=by decide):(a*b).natAbs<2 ^ 9000:=up (kL h h') hB
theorem kCJ (B:Fx):Hs "sign" ["one"] 1 (tU):=by
 refine qC B.X B.d5 kJJ λ f cdv A outer s H vs Q E nN hr h=>?_;obtain ⟨a,a0,a1,rfl,ha,q⟩:=h
 refine ⟨_,(kF (qP (kU wG (pix kJ (pv 0) kC) kC (kX _)) (kI (kP (sF dA kC))) qB)
   (kI (kP (xW (kU uP (pix kJ (pv 0) kC) kC (kX _)) kC kC)))),?_⟩
 try dsimp only [qE]
 refine ⟨_,rfl,a,_,_,_,rfl,rfl,SqT.of ha,at0,_,_,rfl,rfl,_,rfl,?_⟩;refine jC (λ c=>?_) (λ c=>?_)
 ·have c':a0<0:=of_decide_eq_true c
  refine ⟨_,rfl,?_⟩;rw [show sgn a0 = -1 by unfold sgn;rw [if_pos c']] at q;exact q
 ·have c':¬ a0<0:=of_decide_eq_false (fv.mpr c)
  refine ⟨_,rfl,a,_,_,_,rfl,rfl,SqT.of ha,at0,_,_,rfl,rfl,_,rfl,?_⟩;refine jC (λ c=>?_) (λ c=>?_)
  ·have c2:0<a0:=of_decide_eq_true c
   rw [show sgn a0=1 by unfold sgn;rw [if_neg c',if_pos c2]] at q;exact q
  ·have c2:¬ 0<a0:=of_decide_eq_false (fv.mpr c)
   rw [show sgn a0=0 by unfold sgn;rw [if_neg c',if_neg c2]] at q;exact q
theorem xF (B:Fx):Hs "_law_low" ["_law_n","_law_d"] 1 (kNA):=by
 refine qC B.X B.d23 kAC λ f cdv A outer s H vs Q E nN hr h=>?_;obtain ⟨n,d,rfl,d0,hz,q⟩:=h
 refine ⟨_,(kF (wE (i:=2) (j:=3) rfl nN rfl rfl (by decide) rfl rfl (p2 (kS wO rfl (B.z B.y3) nv (p1 (pv 0))) (kS wO rfl (B.z B.y3) nv (p1 (pv 1)))) rfl)
   (kF (sE Bt (kU uP (pv 3) kC (kX _)) (kI (wE (i:=2) (j:=3) rfl nN rfl rfl (by decide) rfl rfl (p2 (pv 3) (kO vQ (pv 2) (pv 3))) rfl)))
   (kF (qP (kU wG (pv 1) kC (kX _)) (kI (pst 2 nN (sF dA (pv 2)))) qB)
   (kI (kP (kY (p2 (kO Own.op_fdivW (pv 0) (pv 2)) (kO Own.op_fdivW (pv 1) (pv 2))))))))),?_⟩
 try dsimp only [qE]
 have gl:=kIH (n:=n) d0;have gp:=aA (n:=n) d0;refine ⟨_,rfl,n,rfl,_,rfl,d,rfl,_,_,rfl,?_⟩;refine rC (λ σ H1=>H1=H/\∃ a b:Nat,σ=[some (.int n),some (.int d),some (.int a),some (.int b)]/\DU a b=iE n d) (λ σ _=>match σ with | [_,_,_,some (.int b)]=>b.toNat | _=>0) ⟨rfl,n.natAbs,d.natAbs,?_,rfl⟩ ?_ ?_
 ·show [some (V.int n),some (V.int d),some (V.int (if n<0 then -n else n)),some (V.int (if d<0 then -d else d))]=_
  rw [pW,pW]
 ·rintro σ H1 ⟨rfl,a,b,rfl,e⟩
  refine ⟨_,rfl,_,_,rfl,rfl,_,rfl,?_⟩;refine jC (λ c=>?_) (λ c=>?_)
  ·have hb:(0:Int)<b:=of_decide_eq_true c
   refine ⟨_,rfl,_,rfl,_,rfl,_,_,rfl,rfl,(by omega),_,_,rfl,⟨rfl,b,a % b,?_,?_⟩,?_⟩
   ·rw [yp]<;>rfl
   ·rw [tE];exact e
   ·show ((a:Int) % (b:Int)).toNat<((b:Nat):Int).toNat
    rw [<-yp,iZ,iZ];exact GL _ (by omega)
  ·have hb:¬ (0:Int)<b:=of_decide_eq_false (fv.mpr c)
   have hb:b=0:=by omega
   subst hb;rw [DC] at e;subst e;refine ⟨_,rfl,_,_,rfl,rfl,_,rfl,?_⟩;refine jC (λ c=>?_) (λ c=>?_)
   ·have c':d<0:=of_decide_eq_true c
    refine ⟨_,rfl,_,rfl,?_⟩;have hd:tJ n (-(iE n d:Int)):=⟨by omega,by omega⟩;refine ⟨_,rfl,_,rfl,_,_,rfl,rfl,hd,_,rfl,_,rfl,_,_,rfl,rfl,hd,yS2,λ p hp=>?_⟩;exact q _ _ p _ (mX d0 (.inr rfl) (jV d0 (.inr ⟨c',rfl⟩))) (kE hp _) kD
   ·have c':¬ d<0:=of_decide_eq_false (fv.mpr c)
    have hd:tJ n (iE n d:Int):=⟨by omega,by omega⟩;refine ⟨_,rfl,_,rfl,_,_,rfl,rfl,hd,_,rfl,_,rfl,_,_,rfl,rfl,hd,yS2,λ p hp=>?_⟩;exact q _ _ p _ (mX d0 (.inl rfl) (jV d0 (.inl ⟨by omega,rfl⟩))) (kE hp _) kD
 ·rintro σ H1 Q1 Q2 m ⟨v,e1,i1,j1,e3,e4,k,e2,q1⟩
  exact ⟨v,e1,i1,j1,e3,e4,k,e2,m _ _ q1⟩
theorem yD (B:Fx):Hs "_law_plus" ["_law_one","_law_other"] 2 (dI (λ a0 a1 b0 b1=>a0*b1+b0*a1) (λ _ a1 _ b1=>a1*b1)):=by
 refine qC B.X B.d24 rS λ f cdv A outer s H vs Q E nN hr h=>?_;obtain ⟨a,b,a0,a1,b0,b1,rfl,ha,hb,⟨z1,z2,z3,z4⟩,nz,q⟩:=h;refine ⟨_,(kI (kP (pf (xF B) hr (p2 (kO jG (kO Own.op_mulW (pix kJ (pv 0) kC) (pix kJ (pv 1) kC)) (kO Own.op_mulW (pix kJ (pv 1) kC) (pix kJ (pv 0) kC))) (kO Own.op_mulW (pix kJ (pv 0) kC) (pix kJ (pv 1) kC)))))),?_⟩
 try dsimp only [qE]
 refine ⟨_,rfl,a,_,_,_,rfl,rfl,SqT.of ha,at0,_,rfl,b,_,_,_,rfl,rfl,SqT.of hb,at1,_,_,rfl,rfl,⟨w9 z1,w9 z4⟩,?_⟩;refine ⟨_,rfl,b,_,_,_,rfl,rfl,SqT.of hb,at0,_,rfl,a,_,_,_,rfl,rfl,SqT.of ha,at1,_,_,rfl,rfl,⟨w9 z3,w9 z2⟩,_,_,rfl,rfl,?_⟩;refine ⟨_,rfl,a,_,_,_,rfl,rfl,SqT.of ha,at1,_,rfl,b,_,_,_,rfl,rfl,SqT.of hb,at1,_,_,rfl,rfl,⟨w9 z2,w9 z4⟩,?_⟩;exact ⟨_,_,rfl,nz,m9 z2 z4,q⟩
theorem yE (B:Fx):Hs "_law_less" ["_law_one","_law_other"] 2 (dI (λ a0 a1 b0 b1=>a0*b1-b0*a1) (λ _ a1 _ b1=>a1*b1)):=by
 refine qC B.X B.d25 rW λ f cdv A outer s H vs Q E nN hr h=>?_;obtain ⟨a,b,a0,a1,b0,b1,rfl,ha,hb,⟨z1,z2,z3,z4⟩,nz,q⟩:=h;refine ⟨_,(kI (kP (pf (xF B) hr (p2 (kO xD (kO Own.op_mulW (pix kJ (pv 0) kC) (pix kJ (pv 1) kC)) (kO Own.op_mulW (pix kJ (pv 1) kC) (pix kJ (pv 0) kC))) (kO Own.op_mulW (pix kJ (pv 0) kC) (pix kJ (pv 1) kC)))))),?_⟩
 try dsimp only [qE]
 refine ⟨_,rfl,a,_,_,_,rfl,rfl,SqT.of ha,at0,_,rfl,b,_,_,_,rfl,rfl,SqT.of hb,at1,_,_,rfl,rfl,⟨w9 z1,w9 z4⟩,?_⟩;refine ⟨_,rfl,b,_,_,_,rfl,rfl,SqT.of hb,at0,_,rfl,a,_,_,_,rfl,rfl,SqT.of ha,at1,_,_,rfl,rfl,⟨w9 z3,w9 z2⟩,_,_,rfl,rfl,?_⟩;refine ⟨_,rfl,a,_,_,_,rfl,rfl,SqT.of ha,at1,_,rfl,b,_,_,_,rfl,rfl,SqT.of hb,at1,_,_,rfl,rfl,⟨w9 z2,w9 z4⟩,?_⟩;exact ⟨_,_,rfl,nz,m9 z2 z4,q⟩
theorem jZ (B:Fx):Hs "_law_times" ["_law_one","_law_other"] 2 (dI (λ a0 a1 b0 b1=>a0*b0) (λ _ a1 _ b1=>a1*b1)):=by
 refine qC B.X B.d26 nZ λ f cdv A outer s H vs Q E nN hr h=>?_;obtain ⟨a,b,a0,a1,b0,b1,rfl,ha,hb,⟨z1,z2,z3,z4⟩,nz,q⟩:=h;refine ⟨_,(kI (kP (pf (xF B) hr (p2 (kO Own.op_mulW (pix kJ (pv 0) kC) (pix kJ (pv 1) kC)) (kO Own.op_mulW (pix kJ (pv 0) kC) (pix kJ (pv 1) kC)))))),?_⟩
 try dsimp only [qE]
 refine ⟨_,rfl,a,_,_,_,rfl,rfl,SqT.of ha,at0,_,rfl,b,_,_,_,rfl,rfl,SqT.of hb,at0,_,_,rfl,rfl,⟨w9 z1,w9 z3⟩,?_⟩;refine ⟨_,rfl,a,_,_,_,rfl,rfl,SqT.of ha,at1,_,rfl,b,_,_,_,rfl,rfl,SqT.of hb,at1,_,_,rfl,rfl,⟨w9 z2,w9 z4⟩,?_⟩;exact ⟨_,_,rfl,nz,m9 z2 z4,q⟩
theorem sM (B:Fx):Hs "_law_sign" ["_law_one"] 1 (tU):=by
 refine qC B.X B.d27 rR λ f cdv A outer s H vs Q E nN hr h=>?_;obtain ⟨a,a0,a1,rfl,ha,q⟩:=h;refine ⟨_,(kI (kP (kO xD (qW wX rfl (B.z B.y5) uh (p1 (jR uP (pix kJ (pv 0) kC) kC (kX _)))) (qW wX rfl (B.z B.y5) uh (p1 (jR wG (pix kJ (pv 0) kC) kC (kX _))))))),?_⟩
 try dsimp only [qE]
 refine ⟨_,rfl,a,_,_,_,rfl,rfl,SqT.of ha,at0,_,_,rfl,rfl,.inr ⟨_,rfl,?_⟩⟩;refine ⟨_,rfl,a,_,_,_,rfl,rfl,SqT.of ha,at0,_,_,rfl,rfl,.inr ⟨_,rfl,_,_,rfl,rfl,?_⟩⟩
 have e:sgn a0=(if decide (0<a0)=true then (1:Int) else 0)-(if decide (a0<0)=true then 1 else 0):=by
  unfold sgn;by_cases h1:a0<0
  ·have h2:¬ 0<a0:=by omega
   simp [h1,h2]
  ·by_cases h2:0<a0<;>simp [h1,h2]
 rw [e] at q;exact q
theorem xE (B:Fx):Hs "spread" ["point"] 1 (rJ):=by
 refine qC B.X B.d8 kDU λ f cdv A outer s H vs Q E nN hr h=>?_;obtain ⟨p,P,rfl,⟨x,y,hp,hx,hy⟩,⟨_,_,z1,z2,z3,z4⟩,q⟩:=h
 refine ⟨_,(kF (jX (pv 0) (jE (n:=2) rfl (kQ (jE (n:=2) rfl (kQ (pgn 1 nN) (kQ (pgn 2 nN) qJ))) (kQ (jE (n:=2) rfl (kQ (pgn 3 nN) (kQ (pgn 4 nN) qJ))) qJ))))
   (kI (kP (kY (kH (kO Own.op_mulW (pv 1) (pv 4)) (kH (kO Own.op_mulW (pv 3) (pv 2)) (kH (kO Own.op_mulW (pv 2) (pv 4)) kZ))))))),?_⟩
 try dsimp only [qE]
 refine ⟨_,rfl,p,_,rfl,SqT.of hp,rfl,_,_,rfl,x,_,rfl,SqT.of hx,rfl,_,_,rfl,_,_,rfl,rfl,_,_,rfl,y,_,rfl,SqT.of hy,rfl,_,_,rfl,_,_,rfl,rfl,rfl,?_⟩;exact ⟨_,rfl,_,rfl,_,_,rfl,rfl,⟨w9 z1,w9 z4⟩,_,rfl,_,rfl,_,_,rfl,rfl,⟨w9 z3,w9 z2⟩,_,rfl,_,rfl,_,_,rfl,rfl,⟨w9 z2,w9 z4⟩,yS3,q⟩
theorem wU (B:Fx):Hs "across" ["one","other"] 1 (rM):=by
 refine qC B.X B.d9 kDW λ f cdv A outer s H vs Q E nN hr h=>?_;obtain ⟨p,q',a,b,c,k,m,n,rfl,hp,hq,⟨z1,z2,z3,z4,z5,z6⟩,q⟩:=h
 refine ⟨_,(kF (jX (pv 0) (jE (n:=3) rfl (kQ (pgn 2 nN) (kQ (pgn 3 nN) (kQ (pgn 4 nN) qJ)))))
   (kF (jX (pv 1) (jE (n:=3) rfl (kQ (pgn 5 nN) (kQ (pgn 6 nN) (kQ (pgn 7 nN) qJ)))))
   (kI (kP (kY (kH (kO xD (kO Own.op_mulW (pv 3) (pv 7)) (kO Own.op_mulW (pv 4) (pv 6))) (kH (kO xD (kO Own.op_mulW (pv 4) (pv 5)) (kO Own.op_mulW (pv 2) (pv 7))) (kH (kO xD (kO Own.op_mulW (pv 2) (pv 6)) (kO Own.op_mulW (pv 3) (pv 5))) kZ)))))))),?_⟩
 try dsimp only [qE]
 have u:∀ {i:Int},i.natAbs<2 ^ 4000->i.natAbs<2 ^ 9000:=λ h=>up h (by decide);refine ⟨_,rfl,p,_,rfl,SqT.of hp,rfl,_,_,rfl,_,_,rfl,_,_,rfl,rfl,?_⟩;refine ⟨_,rfl,q',_,rfl,SqT.of hq,rfl,_,_,rfl,_,_,rfl,_,_,rfl,rfl,?_⟩;refine ⟨_,rfl,_,rfl,_,_,rfl,rfl,⟨u z2,u z6⟩,_,rfl,_,rfl,_,_,rfl,rfl,⟨u z3,u z5⟩,_,_,rfl,rfl,?_⟩;refine ⟨_,rfl,_,rfl,_,_,rfl,rfl,⟨u z3,u z4⟩,_,rfl,_,rfl,_,_,rfl,rfl,⟨u z1,u z6⟩,_,_,rfl,rfl,?_⟩;exact ⟨_,rfl,_,rfl,_,_,rfl,rfl,⟨u z1,u z5⟩,_,rfl,_,rfl,_,_,rfl,rfl,⟨u z2,u z4⟩,_,_,rfl,rfl,yS3,q⟩
theorem xN (B:Fx):Hs "_law_apart" ["_law_one","_law_other"] 1 (kBQ):=by
 refine qC B.X B.d32 oI λ f cdv A outer s H vs Q E nN hr h=>?_;obtain ⟨a,b,a0,a1,b0,b1,rfl,ha,hb,⟨z1,z2,z3,z4⟩,q⟩:=h;refine ⟨_,(kI (kP (kY (p2 (kO xD (kO Own.op_mulW (pix kJ (pv 1) kC) (pix kJ (pv 0) kC)) (kO Own.op_mulW (pix kJ (pv 0) kC) (pix kJ (pv 1) kC))) (kO Own.op_mulW (pix kJ (pv 0) kC) (pix kJ (pv 1) kC)))))),?_⟩
 try dsimp only [qE]
 have w9:∀ {i:Int},i.natAbs<2 ^ 1700->i.natAbs<2 ^ 9000:=λ h=>up h (by decide);refine ⟨_,rfl,b,_,_,_,rfl,rfl,SqT.of hb,at0,_,rfl,a,_,_,_,rfl,rfl,SqT.of ha,at1,_,_,rfl,rfl,⟨w9 z3,w9 z2⟩,?_⟩;refine ⟨_,rfl,a,_,_,_,rfl,rfl,SqT.of ha,at0,_,rfl,b,_,_,_,rfl,rfl,SqT.of hb,at1,_,_,rfl,rfl,⟨w9 z1,w9 z4⟩,_,_,rfl,rfl,?_⟩;exact ⟨_,rfl,a,_,_,_,rfl,rfl,SqT.of ha,at1,_,rfl,b,_,_,_,rfl,rfl,SqT.of hb,at1,_,_,rfl,rfl,⟨w9 z2,w9 z4⟩,yS2,q⟩
theorem vB (B:Fx):Hs "greatest_divisor" ["one","other"] 1 (kLP):=by
 refine qC B.X B.d0 vA λ f cdv A outer s H vs Q E nN hr h=>?_;obtain ⟨i,j,rfl,q⟩:=h
 refine ⟨_,(kF (pst 0 nN (kS wO rfl (B.z B.y3) nv (p1 (pv 0))))
   (kF (pst 1 nN (kS wO rfl (B.z B.y3) nv (p1 (pv 1))))
   (kF (sE Bt (kU sI (pv 1) kC (kX _)) (kI (wE (i:=0) (j:=1) rfl nN rfl rfl (by decide) rfl rfl (p2 (pv 1) (kO vQ (pv 0) (pv 1))) rfl)))
   (kI (kP (pv 0)))))),?_⟩
 try dsimp only [qE]
 refine ⟨_,rfl,i,rfl,_,rfl,j,rfl,?_⟩;refine rC (λ σ H1=>H1=H/\∃ a b:Nat,σ=[some (.int a),some (.int b)]/\DU a b=iE i j) (λ σ _=>match σ with | [_,some (.int b)]=>b.toNat | _=>0) ⟨rfl,i.natAbs,j.natAbs,?_,rfl⟩ ?_ ?_
 ·show [some (V.int (if i<0 then -i else i)),some (V.int (if j<0 then -j else j))]=_
  rw [pW,pW]
 ·rintro σ H1 ⟨rfl,a,b,rfl,e⟩
  refine ⟨_,rfl,rfl,_,rfl,?_⟩;refine jC (λ c=>?_) (λ c=>?_)
  ·have hb:b≠0:=λ z=>by subst z;simp at c
   refine ⟨_,rfl,_,rfl,_,rfl,_,_,rfl,rfl,(by omega),_,_,rfl,⟨rfl,b,a % b,?_,?_⟩,?_⟩
   ·rw [yp]<;>rfl
   ·rw [tE];exact e
   ·show ((a:Int) % (b:Int)).toNat<((b:Nat):Int).toNat
    rw [<-yp,iZ,iZ];exact GL _ (by omega)
  ·have hb:b=0:=by
    simp at c;omega
   subst hb;refine ⟨_,rfl,?_⟩;rw [DC] at e;rw [<-e] at q;exact q
 ·rintro σ H1 Q1 Q2 m ⟨v,e1,s1,k,e2,q1⟩
  exact ⟨v,e1,s1,k,e2,m _ _ q1⟩
theorem xH (B:Fx):Hs "fraction" ["n","d"] 2 (kNA):=by
 refine qC B.X B.d1 rZ λ f cdv A outer s H vs Q E nN hr h=>?_;obtain ⟨n,d,rfl,d0,hz,q⟩:=h
 refine ⟨_,(kF (pst 2 nN (pf (vB B) hr (p2 (pv 0) (pv 1))))
   (kF (qP (kU wG (pv 1) kC (kX _)) (kI (pst 2 nN (sF dA (pv 2)))) qB)
   (kI (kP (kY (p2 (kO Own.op_fdivW (pv 0) (pv 2)) (kO Own.op_fdivW (pv 1) (pv 2)))))))),?_⟩
 try dsimp only [qE]
 have gl:=kIH (n:=n) d0;have gp:=aA (n:=n) d0;refine ⟨_,rfl,_,rfl,n,d,rfl,?_⟩;refine ⟨_,rfl,_,_,rfl,rfl,_,rfl,?_⟩;refine jC (λ c=>?_) (λ c=>?_)
 ·have c':d<0:=of_decide_eq_true c
  refine ⟨_,rfl,_,rfl,?_⟩;have hd:tJ n (-(iE n d:Int)):=⟨by omega,by omega⟩;refine ⟨_,rfl,_,rfl,_,_,rfl,rfl,hd,_,rfl,_,rfl,_,_,rfl,rfl,hd,yS2,λ p hp=>?_⟩;exact q _ _ p _ (mX d0 (.inr rfl) (jV d0 (.inr ⟨c',rfl⟩))) (kE hp _) kD
 ·have c':¬ d<0:=of_decide_eq_false (fv.mpr c)
  have hd:tJ n (iE n d:Int):=⟨by omega,by omega⟩;refine ⟨_,rfl,_,rfl,_,_,rfl,rfl,hd,_,rfl,_,rfl,_,_,rfl,rfl,hd,yS2,λ p hp=>?_⟩;exact q _ _ p _ (mX d0 (.inl rfl) (jV d0 (.inl ⟨by omega,rfl⟩))) (kE hp _) kD
theorem cU (B:Fx):Hs "less" ["one","other"] 3 (dI (λ a0 a1 b0 b1=>a0*b1-b0*a1) (λ _ a1 _ b1=>a1*b1)):=by
 refine qC B.X B.d3 kJL λ f cdv A outer s H vs Q E nN hr h=>?_;obtain ⟨a,b,a0,a1,b0,b1,rfl,ha,hb,⟨z1,z2,z3,z4⟩,nz,q⟩:=h;refine ⟨_,(kI (kP (pf (xH B) hr (p2 (kO xD (kO Own.op_mulW (pix kJ (pv 0) kC) (pix kJ (pv 1) kC)) (kO Own.op_mulW (pix kJ (pv 1) kC) (pix kJ (pv 0) kC))) (kO Own.op_mulW (pix kJ (pv 0) kC) (pix kJ (pv 1) kC)))))),?_⟩
 try dsimp only [qE]
 refine ⟨_,rfl,a,_,_,_,rfl,rfl,SqT.of ha,at0,_,rfl,b,_,_,_,rfl,rfl,SqT.of hb,at1,_,_,rfl,rfl,⟨w9 z1,w9 z4⟩,?_⟩;refine ⟨_,rfl,b,_,_,_,rfl,rfl,SqT.of hb,at0,_,rfl,a,_,_,_,rfl,rfl,SqT.of ha,at1,_,_,rfl,rfl,⟨w9 z3,w9 z2⟩,_,_,rfl,rfl,?_⟩;refine ⟨_,rfl,a,_,_,_,rfl,rfl,SqT.of ha,at1,_,rfl,b,_,_,_,rfl,rfl,SqT.of hb,at1,_,_,rfl,rfl,⟨w9 z2,w9 z4⟩,?_⟩;exact ⟨_,_,rfl,nz,m9 z2 z4,q⟩
theorem PtAt.kept {H H':Hp} {p:ag} {P:Pt} (h:PtAt H p P) (g:Same H H'):PtAt H' p P:=by
 obtain ⟨x,y,h1,h2,h3⟩:=h;exact ⟨x,y,g _ _ h1,g _ _ h2,g _ _ h3⟩
theorem PtAt.but {H H':Hp} {p a:ag} {P:Pt} {xs:List V} (h:PtAt H p P) (ha:H a=some (.lst xs)) (g:SameBut a H H'):PtAt H' p P:=by
 obtain ⟨x,y,h1,h2,h3⟩:=h;exact ⟨x,y,g _ _ (wI h1 ha (by intro z;cases z)) h1,g _ _ (wI h2 ha (by intro z;cases z)) h2,g _ _ (wI h3 ha (by intro z;cases z)) h3⟩
theorem kFX {P:Pt} (z:Sz 1000 P):(P.n*P.e).natAbs<2 ^ 2000/\(P.m*P.d).natAbs<2 ^ 2000/\(P.d*P.e).natAbs<2 ^ 2000:=by
 obtain ⟨_,_,z1,z2,z3,z4⟩:=z;exact ⟨kL z1 z4,kL z3 z2,kL z2 z4⟩
theorem kCK (B:Fx):Hs "hand" ["p","q","r"] 2 (kGE det):=by
 refine qC B.X B.d10 kJM λ f cdv A outer s H vs Q E nN hr h=>?_;obtain ⟨p,q',r,P,P',R,rfl,hp,hq,hR,zp,zq,zr,q⟩:=h
 refine ⟨_,(kF (jX (pf (wU B) hr (p2 (pf (xE B) hr (p1 (pv 0))) (pf (xE B) hr (p1 (pv 1))))) (jE (n:=3) rfl (kQ (pgn 3 nN) (kQ (pgn 4 nN) (kQ (pgn 5 nN) qJ)))))
   (kF (jX (pf (xE B) hr (p1 (pv 2))) (jE (n:=3) rfl (kQ (pgn 6 nN) (kQ (pgn 7 nN) (kQ (pgn 8 nN) qJ)))))
   (kI (kP (pf (kCJ B) hr (p1 (kY (p2 (kO jG (kO jG (kO Own.op_mulW (pv 3) (pv 6)) (kO Own.op_mulW (pv 4) (pv 7))) (kO Own.op_mulW (pv 5) (pv 8))) kC)))))))),?_⟩
 try dsimp only [qE]
 obtain ⟨s1,s2,s3⟩:=kFX zp;obtain ⟨t1,t2,t3⟩:=kFX zq;obtain ⟨u1,u2,u3⟩:=kFX zr;have v:∀ {i:Int},i.natAbs<2 ^ 2000->i.natAbs<2 ^ 4000:=λ h=>up h (by decide);have v9:∀ {i:Int},i.natAbs<2 ^ 2000->i.natAbs<2 ^ 9000:=λ h=>up h (by decide);refine ⟨_,rfl,p,P,rfl,hp,zp,λ a1 n1=>?_⟩;have g1:=kE n1 (.tup [.int (P.n*P.e),.int (P.m*P.d),.int (P.d*P.e)]);refine ⟨_,rfl,q',P',rfl,hq.kept g1,zq,λ a2 n2=>?_⟩;have g2:=kE n2 (.tup [.int (P'.n*P'.e),.int (P'.m*P'.d),.int (P'.d*P'.e)]);refine ⟨a1,a2,_,_,_,_,_,_,rfl,g2 _ _ kD,kD,⟨v s1,v s2,v s3,v t1,v t2,v t3⟩,λ a3 n3=>?_⟩;refine ⟨a3,_,rfl,SqT.of kD,rfl,_,_,rfl,_,_,rfl,_,_,rfl,rfl,?_⟩;have g3:=(g1.trans g2).trans (kE n3 (.tup [.int (P.m*P.d*(P'.d*P'.e)-P.d*P.e*(P'.m*P'.d)),.int (P.d*P.e*(P'.n*P'.e)-P.n*P.e*(P'.d*P'.e)),.int (P.n*P.e*(P'.m*P'.d)-P.m*P.d*(P'.n*P'.e))]));refine ⟨_,rfl,r,R,rfl,hR.kept g3,zr,λ a4 n4=>?_⟩;have g4:=g3.trans (kE n4 (.tup [.int (R.n*R.e),.int (R.m*R.d),.int (R.d*R.e)]));refine ⟨a4,_,rfl,SqT.of kD,rfl,_,_,rfl,_,_,rfl,_,_,rfl,rfl,?_⟩;have w:∀ {i j k l:Int},i.natAbs<2 ^ 2000->j.natAbs<2 ^ 2000->k.natAbs<2 ^ 2000->l.natAbs<2 ^ 2000->(i*j-k*l).natAbs<2 ^ 9000:=λ h1 h2 h3 h4=>up (qI (kL h1 h2) (kL h3 h4)) (by decide);refine ⟨_,rfl,_,rfl,_,_,rfl,rfl,⟨w s2 t3 s3 t2,v9 u1⟩,_,rfl,_,rfl,_,_,rfl,rfl,⟨w s3 t1 s1 t3,v9 u2⟩,_,_,rfl,rfl,_,rfl,_,rfl,_,_,rfl,rfl,⟨w s1 t2 s2 t1,v9 u3⟩,_,_,rfl,rfl,yS2,λ a5 n5=>?_⟩;refine ⟨a5,_,_,rfl,kD,?_⟩;exact q _ (g4.trans (kE n5 _))
theorem jK (B:Fx):Hs "_law_hand" ["_law_p","_law_q","_law_r"] 2 (kBN):=by
 refine qC B.X B.d33 rY λ f cdv A outer s H vs Q E nN hr h=>?_;obtain ⟨p,q',r,P,P',R,rfl,⟨px,py,hp,hpx,hpy⟩,⟨qx,qy,hq,hqx,hqy⟩,⟨rx,ry,hR,hrx,hry⟩,⟨_,_,o1,o2,o3,o4⟩,⟨_,_,q1,q2,q3,q4⟩,⟨_,_,r1,r2,r3,r4⟩,q⟩:=h
 refine ⟨_,(kF (wE (i:=3) (j:=4) rfl nN rfl rfl (by decide) rfl rfl (p2 (pf (xN B) hr (p2 (pix kJ (pv 0) kC) (pix kJ (pv 1) kC))) (pf (xN B) hr (p2 (pix kJ (pv 0) kC) (pix kJ (pv 1) kC)))) rfl)
   (kF (wE (i:=5) (j:=6) rfl nN rfl rfl (by decide) rfl rfl (p2 (pf (xN B) hr (p2 (pix kJ (pv 0) kC) (pix kJ (pv 2) kC))) (pf (xN B) hr (p2 (pix kJ (pv 0) kC) (pix kJ (pv 2) kC)))) rfl)
   (kI (kP (pf (sM B) hr (p1 (kY (p2 (kO xD (kO Own.op_mulW (kO Own.op_mulW (kO Own.op_mulW (pix kJ (pv 3) kC) (pix kJ (pv 6) kC)) (pix kJ (pv 4) kC)) (pix kJ (pv 5) kC)) (kO Own.op_mulW (kO Own.op_mulW (kO Own.op_mulW (pix kJ (pv 4) kC) (pix kJ (pv 5) kC)) (pix kJ (pv 3) kC)) (pix kJ (pv 6) kC))) kC)))))))),?_⟩
 try dsimp only [qE]
 have ul:∀ {i:Int},i.natAbs<2 ^ 210->i.natAbs<2 ^ 1700:=λ h=>up h (by decide)
 refine ⟨_,rfl,p,_,_,_,rfl,rfl,SqT.of hp,at0,_,rfl,q',_,_,_,rfl,rfl,SqT.of hq,at0,px,qx,_,_,_,_,rfl,hpx,hqx,⟨ul o1,ul o2,ul q1,ul q2⟩,λ t1 n1=>?_⟩;have g1:=kE n1 (.tup [.int (P'.n*P.d-P.n*P'.d),.int (P.d*P'.d)]);refine ⟨_,rfl,p,_,_,_,rfl,rfl,SqT.of (g1 _ _ hp),at1,_,rfl,q',_,_,_,rfl,rfl,SqT.of (g1 _ _ hq),at1,py,qy,_,_,_,_,rfl,g1 _ _ hpy,g1 _ _ hqy,⟨ul o3,ul o4,ul q3,ul q4⟩,λ t2 n2=>?_⟩;refine ⟨_,_,rfl,?_⟩;have g2:=g1.trans (kE n2 (.tup [.int (P'.m*P.e-P.m*P'.e),.int (P.e*P'.e)]));have b1:=(kE n2 (.tup [.int (P'.m*P.e-P.m*P'.e),.int (P.e*P'.e)])) _ _ (kD (H:=H) (a:=t1) (o:=.tup [.int (P'.n*P.d-P.n*P'.d),.int (P.d*P'.d)]));have b2:=kD (H:=upd H t1 (.tup [.int (P'.n*P.d-P.n*P'.d),.int (P.d*P'.d)])) (a:=t2) (o:=.tup [.int (P'.m*P.e-P.m*P'.e),.int (P.e*P'.e)])
 generalize upd (upd H t1 (.tup [.int (P'.n*P.d-P.n*P'.d),.int (P.d*P'.d)])) t2 (.tup [.int (P'.m*P.e-P.m*P'.e),.int (P.e*P'.e)])=H2 at *
 refine ⟨_,rfl,p,_,_,_,rfl,rfl,SqT.of (g2 _ _ hp),at0,_,rfl,r,_,_,_,rfl,rfl,SqT.of (g2 _ _ hR),at0,px,rx,_,_,_,_,rfl,g2 _ _ hpx,g2 _ _ hrx,⟨ul o1,ul o2,r1,r2⟩,λ t3 n3=>?_⟩;have g3:=kE n3 (.tup [.int (R.n*P.d-P.n*R.d),.int (P.d*R.d)]);have h3:=g2.trans g3;refine ⟨_,rfl,p,_,_,_,rfl,rfl,SqT.of (h3 _ _ hp),at1,_,rfl,r,_,_,_,rfl,rfl,SqT.of (h3 _ _ hR),at1,py,ry,_,_,_,_,rfl,h3 _ _ hpy,h3 _ _ hry,⟨ul o3,ul o4,r3,r4⟩,λ t4 n4=>?_⟩;refine ⟨_,_,rfl,?_⟩;have g4:=kE n4 (.tup [.int (R.m*P.e-P.m*R.e),.int (P.e*R.e)]);have h4:=h3.trans g4;have b3:=g4 _ _ (kD (H:=H2) (a:=t3) (o:=.tup [.int (R.n*P.d-P.n*R.d),.int (P.d*R.d)]));have b4:=kD (H:=upd H2 t3 (.tup [.int (R.n*P.d-P.n*R.d),.int (P.d*R.d)])) (a:=t4) (o:=.tup [.int (R.m*P.e-P.m*R.e),.int (P.e*R.e)]);have b1:=(g3.trans g4) _ _ b1;have b2:=(g3.trans g4) _ _ b2;generalize upd (upd H2 t3 (.tup [.int (R.n*P.d-P.n*R.d),.int (P.d*R.d)])) t4 (.tup [.int (R.m*P.e-P.m*R.e),.int (P.e*R.e)])=H4 at *;have c1:(P'.n*P.d-P.n*P'.d).natAbs<2 ^ 421:=qI (kL q1 o2) (kL o1 q2);have c3:(P'.m*P.e-P.m*P'.e).natAbs<2 ^ 421:=qI (kL q3 o4) (kL o3 q4);have c2:(R.m*P.e-P.m*R.e).natAbs<2 ^ 1911:=qI (up (kL r3 o4) (by decide)) (up (kL o3 r4) (by decide));have c4:(R.n*P.d-P.n*R.d).natAbs<2 ^ 1911:=qI (up (kL r1 o2) (by decide)) (up (kL o1 r2) (by decide));have v1:∀ {i:Int},i.natAbs<2 ^ 421->i.natAbs<2 ^ 9000:=λ h=>up h (by decide);have v2:∀ {i:Int},i.natAbs<2 ^ 1911->i.natAbs<2 ^ 9000:=λ h=>up h (by decide);have m2:∀ {i j:Int},i.natAbs<2 ^ 210->j.natAbs<2 ^ 210->(i*j).natAbs<2 ^ 9000:=λ h1 h2=>up (kL h1 h2) (by decide);have m3:∀ {i j:Int},i.natAbs<2 ^ 210->j.natAbs<2 ^ 1700->(i*j).natAbs<2 ^ 9000:=λ h1 h2=>up (kL h1 h2) (by decide);have u4:∀ {i j:Int},i.natAbs<2 ^ 421->j.natAbs<2 ^ 1911->(i*j).natAbs<2 ^ 9000:=λ h h'=>up (kL h h') (by decide);have u6:∀ {i j k l:Int},i.natAbs<2 ^ 421->j.natAbs<2 ^ 1911->k.natAbs<2 ^ 210->l.natAbs<2 ^ 210->(i*j*(k*l)).natAbs<2 ^ 9000:=λ h h' h2 h3=>up (kL (kL h h') (kL h2 h3)) (by decide);refine ⟨_,rfl,t1,_,_,_,rfl,rfl,SqT.of b1,at0,_,rfl,t4,_,_,_,rfl,rfl,SqT.of b4,at0,_,_,rfl,rfl,⟨v1 c1,v2 c2⟩,_,rfl,t2,_,_,_,rfl,rfl,SqT.of b2,at1,_,_,rfl,rfl,⟨u4 c1 c2,m2 o4 q4⟩,_,rfl,t3,_,_,_,rfl,rfl,SqT.of b3,at1,_,_,rfl,rfl,⟨u6 c1 c2 o4 q4,m3 o2 r2⟩,?_⟩;refine ⟨_,rfl,t2,_,_,_,rfl,rfl,SqT.of b2,at0,_,rfl,t3,_,_,_,rfl,rfl,SqT.of b3,at0,_,_,rfl,rfl,⟨v1 c3,v2 c4⟩,_,rfl,t1,_,_,_,rfl,rfl,SqT.of b1,at1,_,_,rfl,rfl,⟨u4 c3 c4,m2 o2 q2⟩,_,rfl,t4,_,_,_,rfl,rfl,SqT.of b4,at1,_,_,rfl,rfl,⟨u6 c3 c4 o2 q2,m3 o4 r4⟩,_,_,rfl,rfl,yS2,λ t5 n5=>?_⟩;refine ⟨t5,_,_,rfl,kD,?_⟩;exact q _ (h4.trans (kE n5 _))
theorem Fz.of_fr {B:Nat} {n d n' d':Int} (fr:Fr n d n' d') (hn:n.natAbs<2 ^ B) (hd:d.natAbs<2 ^ B):Fz B n' d':=⟨fr.pos,cj fr.ln hn,cj fr.ld hd⟩
theorem kRR {d u:Int} (h0:0<=d) (h1:d<3) (u0:0<u) (u1:u.natAbs<2 ^ 190):∃ f:Int,atI [V.int (10 ^ (3:Int).toNat),V.int (10 ^ (12:Int).toNat),V.int u] d=some (.int f)/\0<f/\f.natAbs<2 ^ 190:=by
 have:d=0\/d=1\/d=2:=by omega
 rcases this with rfl | rfl | rfl
 ·exact ⟨_,rfl,by decide,by decide⟩
 ·exact ⟨_,rfl,by decide,by decide⟩
 ·exact ⟨_,rfl,u0,u1⟩
theorem kKA (B:Fx):Hs "plus" ["one","other"] 3 (dI (λ a0 a1 b0 b1=>a0*b1+b0*a1) (λ _ a1 _ b1=>a1*b1)):=by
 refine qC B.X B.d2 kJK λ f cdv A outer s H vs Q E nN hr h=>?_;obtain ⟨a,b,a0,a1,b0,b1,rfl,ha,hb,⟨z1,z2,z3,z4⟩,nz,q⟩:=h;refine ⟨_,(kI (kP (pf (xH B) hr (p2 (kO jG (kO Own.op_mulW (pix kJ (pv 0) kC) (pix kJ (pv 1) kC)) (kO Own.op_mulW (pix kJ (pv 1) kC) (pix kJ (pv 0) kC))) (kO Own.op_mulW (pix kJ (pv 0) kC) (pix kJ (pv 1) kC)))))),?_⟩
 try dsimp only [qE]
 refine ⟨_,rfl,a,_,_,_,rfl,rfl,SqT.of ha,at0,_,rfl,b,_,_,_,rfl,rfl,SqT.of hb,at1,_,_,rfl,rfl,⟨w9 z1,w9 z4⟩,?_⟩;refine ⟨_,rfl,b,_,_,_,rfl,rfl,SqT.of hb,at0,_,rfl,a,_,_,_,rfl,rfl,SqT.of ha,at1,_,_,rfl,rfl,⟨w9 z3,w9 z2⟩,_,_,rfl,rfl,?_⟩;refine ⟨_,rfl,a,_,_,_,rfl,rfl,SqT.of ha,at1,_,rfl,b,_,_,_,rfl,rfl,SqT.of hb,at1,_,_,rfl,rfl,⟨w9 z2,w9 z4⟩,?_⟩;exact ⟨_,_,rfl,nz,m9 z2 z4,q⟩
theorem sJ (B:Fx):Hs "times" ["one","other"] 3 (dI (λ a0 a1 b0 b1=>a0*b0) (λ _ a1 _ b1=>a1*b1)):=by
 refine qC B.X B.d4 kGG λ f cdv A outer s H vs Q E nN hr h=>?_;obtain ⟨a,b,a0,a1,b0,b1,rfl,ha,hb,⟨z1,z2,z3,z4⟩,nz,q⟩:=h;refine ⟨_,(kI (kP (pf (xH B) hr (p2 (kO Own.op_mulW (pix kJ (pv 0) kC) (pix kJ (pv 1) kC)) (kO Own.op_mulW (pix kJ (pv 0) kC) (pix kJ (pv 1) kC)))))),?_⟩
 try dsimp only [qE]
 refine ⟨_,rfl,a,_,_,_,rfl,rfl,SqT.of ha,at0,_,rfl,b,_,_,_,rfl,rfl,SqT.of hb,at0,_,_,rfl,rfl,⟨w9 z1,w9 z3⟩,?_⟩;refine ⟨_,rfl,a,_,_,_,rfl,rfl,SqT.of ha,at1,_,rfl,b,_,_,_,rfl,rfl,SqT.of hb,at1,_,_,rfl,rfl,⟨w9 z2,w9 z4⟩,?_⟩;exact ⟨_,_,rfl,nz,m9 z2 z4,q⟩
open Mth Sca
inductive uE (vs:List V) (H:Hp) (Q:VK) (Y:XK):Prop
 | mk:∀ (a:ag) (mode:Int),(vs=[.ref a,.int mode])->(PotAt H a)->(0<=mode)->(∀ (n d:Int) (p:ag) (H':Hp),Fz (if mode<2 then 10 else 200) n d->iE n d=1->(mode<2->Cd 6 4 n d)->SameBut a H H'->PotAt H' a->H' p=some (.tup [.int n,.int d])->Q (.ref p) H')->uE vs H Q Y
def Okp (mode:Int) (i:Nat) (P:Pt):Prop:=Lw P/\Sz 206 P/\(mode<2->Cd (sc i) (vv i) P.n P.d/\Cd (sc i) (vv i) P.m P.e)
def Okq (mode:Int) (i:Nat) (P:Pt):Prop:=Lw P/\Sz 200 P/\(mode<2->Cd (sc i*6) (5*vv i+4) P.n P.d/\Cd (sc i*6) (5*vv i+4) P.m P.e)
def ListAt (H:Hp) (l:ag) (mode:Int) (i n:Nat):Prop:=∃ ps:List ag,H l=some (.lst (ps.map V.ref))/\ps.length=n/\∀ p∈ps,∃ P,PtAt H p P/\Okp mode i P
inductive kBI (vs:List V) (H:Hp) (Q:VK) (Y:XK):Prop
 | mk:∀ (a l:ag) (mode:Int) (i n:Nat),(vs=[.ref a,.ref l,.int mode])->(PotAt H a)->(ListAt H l mode i n)->(a≠l)->(0<=mode)->(i<=11)->(n<=12)->(∀ (P:Pt) (p:ag) (H':Hp),Okq mode i P->SameBut a H H'->PotAt H' a->PtAt H' p P->Q (.ref p) H')->kBI vs H Q Y
inductive rK (vs:List V) (H:Hp) (Q:VK) (Y:XK):Prop
 | mk:∀ (a:ag) (m:Nat),(vs=[.ref a,.int (m:Int)])->(PotAt H a)->(m<=12)->(∀ (t:ag) (ps:List ag) (H':Hp),SameBut a H H'->PotAt H' a->H' t=some (.tup (ps.map V.ref))->ps.length=m->(∀ p∈ps,∃ P,PtAt H' p P/\Sz 206 P/\Lw P)->Q (.ref t) H')->rK vs H Q Y
theorem kBU {t r:TS} {D:Ends} {σ:St} {H:Hp} (I:St->Hp->Prop) (k:∀ σ H,I σ H->r D σ H) (h:(∀ σ H,I σ H->r D σ H)->kMX t r D σ H):kMX t r D σ H:=h k
theorem kIW {n d n' d':Int} (h0:n.natAbs<=4) (h1:0<d) (h2:d<=3) (f:Fr n d n' d'):Cd 6 4 n' d':=by
 have e:=f.eq;have:d=1\/d=2\/d=3:=by omega
 rcases this with rfl | rfl | rfl
 ·have z:n'*6=6*n*d':=by
   have:n'=n*d':=by omega
   rw [this]
   grind
  exact ⟨6*n,⟨f.pos,z⟩,by omega⟩
 ·have z:n'*6=3*n*d':=by
   have:n'*6=3*(n'*2):=by omega
   rw [this,e]
   grind
  exact ⟨3*n,⟨f.pos,z⟩,by omega⟩
 ·have z:n'*6=2*n*d':=by
   have:n'*6=2*(n'*3):=by omega
   rw [this,e]
   grind
  exact ⟨2*n,⟨f.pos,z⟩,by omega⟩
theorem vH (B:Fx):Hs "_law_number" ["_law_pot_here","_law_mode"] 2 (uE):=by
 refine qC B.X B.d28 lK λ f cdv A outer s H vs Q E nN hr h=>?_;obtain ⟨a,mode,rfl,ha,m0,q⟩:=h
 refine ⟨_,(kF (qP (kU vG (pv 1) kC (kX _)) (kI (kP (pf (xF B) hr (p2 (kO xD (pf (kW B) hr (p2 (pv 0) kC)) kC) (kO jG kC (pf (kW B) hr (p2 (pv 0) kC))))))) qB)
   (kF (qP (kU vG (pv 1) kC (kX _)) (kI (kP (kY (p2 (kO xD (pf (kW B) hr (p2 (pv 0) kC)) kC) kC)))) qB)
   (kF (pst 2 nN (pix kT (jF (kH (kO fG kC kC) (kH (kO fG kC kC) (kH (pix kT (jF (p2 (kO fG kC kC) (kO fG kC kC))) (qW wX rfl (B.z B.y5) uh (p1 (jR vG (pv 1) kC (kX _))))) kZ)))) (pf (kW B) hr (p2 (pv 0) kC))))
   (kI (kP (pf (xF B) hr (p2 (kO xD (pf (kW B) hr (p2 (pv 0) (kO Own.op_mulW kC (pv 2)))) (pv 2)) (kO jG kC (pf (kW B) hr (p2 (pv 0) (pv 2))))))))))),?_⟩
 try dsimp only [qE]
 refine ⟨_,rfl,rfl,_,rfl,?_⟩;refine jC (λ e=>?_) (λ e=>?_)
 ·have e':mode=0:=by simpa using e
  rw [if_pos (by omega)] at q;refine ⟨_,rfl,a,9,rfl,ha,by decide,uV (by decide),λ c H1 c0 c1 s1 p1=>⟨_,_,rfl,rfl,?_⟩⟩;refine ⟨_,rfl,a,3,rfl,p1,by decide,uV (by decide),λ d H2 d0 d1 s2 p2=>⟨_,_,rfl,rfl,?_⟩⟩;refine ⟨_,_,rfl,(by omega),uV (md (m:=20) (by omega) (by decide)),λ n' d' p H3 fr g hp=>?_⟩;exact q n' d' p H3 (Fz.of_fr fr (md (m:=20) (by omega) (by decide)) (md (m:=20) (by omega) (by decide))) fr.co (λ _=>kIW (by omega) (by omega) (by omega) fr) (s1.trans (s2.trans (.of g))) (p2.kept g) hp
 refine ⟨_,rfl,rfl,_,rfl,?_⟩;refine jC (λ e=>?_) (λ e2=>?_)
 ·have e':mode=1:=by simpa using e
  rw [if_pos (by omega)] at q;refine ⟨_,rfl,a,7,rfl,ha,by decide,uV (by decide),λ c H1 c0 c1 s1 p1=>⟨_,_,rfl,rfl,yS2,λ p hp=>?_⟩⟩;exact q _ _ p _ ⟨by decide,md (m:=20) (by omega) (by decide),by decide⟩ (Int.gcd_one_right ..) (λ _=>⟨(c-3)*6,⟨by decide,by omega⟩,by omega⟩) (s1.trans (.of (kE hp _))) (p1.kept (kE hp _)) kD
 have e':mode≠0:=λ z=>e (by subst z;rfl);have e2':mode≠1:=λ z=>e2 (by subst z;rfl);rw [if_neg (by omega)] at q;refine ⟨_,_,rfl,rfl,⟨by decide,by decide,by decide⟩,_,_,rfl,rfl,⟨by decide,by decide,by decide⟩,_,_,rfl,rfl,⟨by decide,by decide,by decide⟩,_,_,rfl,rfl,⟨by decide,by decide,by decide⟩,yS2,λ l0 hl0=>?_⟩;have g00:=kE hl0 (.lst [V.int (10 ^ (57:Int).toNat),V.int (10 ^ (12:Int).toNat)])
 obtain ⟨u,hu,u0,u1⟩ : ∃ u:Int,atI [V.int (10 ^ (57:Int).toNat),V.int (10 ^ (12:Int).toNat)] (if decide (V.int mode=V.int 3)=true then 1 else 0)=some (.int u)/\0<u/\u.natAbs<2 ^ 190:=by
  by_cases c:decide (V.int mode=V.int 3)=true
  ·rw [if_pos c]
   exact ⟨_,rfl,by decide,by decide⟩
  ·rw [if_neg c]
   exact ⟨_,rfl,by decide,by decide⟩
 refine ⟨_,rfl,rfl,.inr ⟨_,rfl,l0,_,_,_,rfl,rfl,SqL.of kD,hu,yS3,λ l hl=>?_⟩⟩;have g0:=g00.trans (kE hl (.lst [V.int (10 ^ (3:Int).toNat),V.int (10 ^ (12:Int).toNat),V.int u]))
 have la:l≠a:=by
  obtain ⟨x,y,z,_⟩:=ha;exact (kR (g00 _ _ z) hl).symm
 refine ⟨_,rfl,a,3,rfl,ha.kept g0,by decide,uV (by decide),λ c H1 c0 c1 s1 p1=>?_⟩;obtain ⟨f,hf,f0,f1⟩:=kRR c0 c1 u0 u1;refine ⟨l,_,_,_,rfl,rfl,SqL.of (s1 _ _ la kD),hf,?_⟩;have k1:=(SameBut.of (a:=a) g0).trans s1;have f9:f.natAbs<2 ^ 9000:=up f1 (by decide)
 have f2:(2*f).natAbs<2 ^ 191:=by
  rw [show (2:Nat) ^ 191=2 ^ 190*2 by decide];omega
 refine ⟨_,rfl,_,rfl,_,_,rfl,rfl,⟨uV (by decide),f9⟩,a,_,rfl,p1,(by omega),up f2 (by decide),λ d H2 d0 d1 s2 p2=>⟨_,rfl,_,_,rfl,rfl,?_⟩⟩;refine ⟨_,rfl,_,rfl,a,_,rfl,p2,f0,f9,λ d' H3 d0' d1' s3 p3=>⟨_,_,rfl,rfl,?_⟩⟩;have b1:(d-f).natAbs<2 ^ 200:=cj (m:=(2*f).natAbs) (by omega) (up f2 (by decide));have b2:(1+d').natAbs<2 ^ 200:=cj (m:=(2*f).natAbs) (by omega) (up f2 (by decide));refine ⟨_,_,rfl,(by omega),uV b2,λ n' d' p H4 fr g hp=>?_⟩;exact q n' d' p H4 (Fz.of_fr fr b1 b2) fr.co (λ z=>by omega) (k1.trans (s2.trans (s3.trans (.of g)))) (p3.kept g) hp
theorem fS {a b:Int} (h:a≠0) (h':b≠0):a*b≠0:=λ e=>by
 rcases eZ.mp e with z | z
 ·exact h z
 ·exact h' z
theorem xU {a:Int} (h:0<a):a≠0:=by omega
theorem wH (B:Fx):Hs "_law_between" ["_law_one","_law_other","_law_part"] 3 (mF):=by
 refine qC B.X B.d29 dO λ f cdv A outer s H vs Q E nN hr h=>?_;obtain ⟨a,b,c,a0,a1,b0,b1,c0,c1,B0,rfl,ha,hb,hc,⟨ap,az,ay⟩,⟨bp,bz,bY⟩,⟨cp,cz,cy⟩,hB,q⟩:=h;refine ⟨_,(kI (kP (pf (yD B) hr (p2 (pv 0) (pf (jZ B) hr (p2 (pv 2) (pf (yE B) hr (p2 (pv 1) (pv 0))))))))),?_⟩
 try dsimp only [qE]
 have u:∀ {i:Int},i.natAbs<2 ^ B0->i.natAbs<2 ^ 4000:=λ h=>up h (by omega);have u2:∀ {i:Int},i.natAbs<2 ^ 2->i.natAbs<2 ^ 4000:=λ h=>up h (by omega);refine ⟨_,rfl,_,rfl,_,rfl,_,rfl,b,a,b0,b1,a0,a1,rfl,hb,ha,⟨u bz,u bY,u az,u ay⟩,fS (xU bp) (xU ap),λ n1 d1 p1 H1 fr1 g1 hp1=>?_⟩;have x1:n1.natAbs<2 ^ (B0+B0+1):=cj fr1.ln (qI (kL bz ay) (kL az bY));have x2:d1.natAbs<2 ^ (B0+B0):=cj fr1.ld (kL bY ay);refine ⟨c,p1,c0,c1,n1,d1,rfl,g1 _ _ hc,hp1,⟨u2 cz,u2 cy,up x1 (by omega),up x2 (by omega)⟩,fS (xU cp) (xU fr1.pos),λ n2 d2 p2 H2 fr2 g2 hp2=>?_⟩;have y1:n2.natAbs<2 ^ (2+(B0+B0+1)):=cj fr2.ln (kL cz x1);have y2:d2.natAbs<2 ^ (2+(B0+B0)):=cj fr2.ld (kL cy x2);refine ⟨a,p2,a0,a1,n2,d2,rfl,(g1.trans g2) _ _ ha,hp2,⟨u az,u ay,up y1 (by omega),up y2 (by omega)⟩,fS (xU ap) (xU fr2.pos),λ n3 d3 p3 H3 fr3 g3 hp3=>?_⟩;refine q n3 d3 p3 H3 (λ S X Y C h1 h2 h3=>?_) fr3.co (g1.trans (g2.trans g3)) hp3;have e:=(h1.up 6).plus ((h3.times (h2.less h1 fr1) fr2).up 1 |> λ z=>(by rw [EI,EI,jx 6 S] at z;exact z)) fr3;exact e
theorem Sz.up {B0 C:Nat} {P:Pt} (h:Sz B0 P) (hbc:B0<=C):Sz C P:=by
 obtain ⟨z1,z2,z3,z4,z5,z6⟩:=h;exact ⟨z1,z2,Mth.up z3 hbc,Mth.up z4 hbc,Mth.up z5 hbc,Mth.up z6 hbc⟩
theorem ListAt.but {H H':Hp} {l a:ag} {mode:Int} {i n:Nat} (h:ListAt H l mode i n) (ha:PotAt H a) (ne:l≠a) (g:SameBut a H H'):ListAt H' l mode i n:=by
 obtain ⟨ps,h1,h2,h3⟩:=h;obtain ⟨x,y,e,_⟩:=ha;refine ⟨ps,g _ _ ne h1,h2,λ p hp=>?_⟩;obtain ⟨P,k1,k2⟩:=h3 p hp;exact ⟨P,k1.but e g,k2⟩
theorem ListAt.pick {H:Hp} {l:ag} {mode:Int} {i n:Nat} (h:ListAt H l mode i n) {d:Int} (d0:0<=d) (d1:d<n):∃ (ps:List ag) (p:ag) (P:Pt),H l=some (.lst (ps.map V.ref))/\atI (ps.map V.ref) d=some (.ref p)/\PtAt H p P/\Okp mode i P:=by
 obtain ⟨ps,h1,h2,h3⟩:=h;obtain ⟨j,rfl⟩:=lg d0;have hj:j<ps.length:=by omega
 obtain ⟨P,k1,k2⟩:=h3 ps[j] (si hj);refine ⟨ps,ps[j],P,h1,jH ?_,k1,k2⟩;rw [bq,ao hj]
 rfl
theorem kQD {d:Int} (h0:0<=d) (h1:d<4) {a b c e:V}:∃ v,atI [a,b,c,e] d=some v/\(v=a\/v=b\/v=c\/v=e):=by
 have:d=0\/d=1\/d=2\/d=3:=by omega
 rcases this with rfl | rfl | rfl | rfl
 ·exact ⟨_,rfl,.inl rfl⟩
 ·exact ⟨_,rfl,.inr (.inl rfl)⟩
 ·exact ⟨_,rfl,.inr (.inr (.inl rfl))⟩
 ·exact ⟨_,rfl,.inr (.inr (.inr rfl))⟩
theorem Fz.sz {B0:Nat} {n d m e:Int} (h:Fz B0 n d) (h':Fz B0 m e):Sz B0 ⟨n,d,m,e⟩:=⟨h.1,h'.1,h.2.1,h.2.2,h'.2.1,h'.2.2⟩
open Mth Sca
theorem Cd.wide {n d:Int} (h:Cd 6 4 n d) (i:Nat):Cd (sc i*6) (5*vv i+4) n d:=by
 obtain ⟨X,h1,h2⟩:=h;have e:=h1.up (sc i:Int);rw [jx] at e;refine ⟨X*sc i,by rw [show ((sc i*6:Nat):Int)=(sc i:Int)*((6:Nat):Int) by omega];exact e,?_⟩;rw [iu];have a:X.natAbs*(sc i:Int).natAbs<=24*sc i:=ki (by omega) (by omega);have b:(5*vv i+4)*(sc i*6)=24*sc i+5*vv i*(sc i*6):=by rw [ER];omega
 omega
theorem Cd.pos {S V:Nat} {n d:Int} (h:Cd S V n d):0<d:=let ⟨_,h1,_⟩:=h;h1.1
theorem Cd.btw {S V:Nat} {a0 a1 b0 b1 c0 c1 C n d:Int} (h:Cd S V a0 a1) (k:Cd S V b0 b1) (hC:Sc 6 C c0 c1) (c12:C.natAbs<=12) (z:∀ S X Y C:Int,Sc S X a0 a1->Sc S Y b0 b1->Sc 6 C c0 c1->Sc (S*6) (X*6+C*(Y-X)) n d):Cd (S*6) (5*V+4) n d:=by
 obtain ⟨X,h1,h2⟩:=h;obtain ⟨Y,k1,k2⟩:=k;refine ⟨_,by rw [show ((S*6:Nat):Int)=(S:Int)*6 by omega];exact z _ _ _ _ h1 k1 hC,?_⟩
 have a:(C*(Y-X)).natAbs<=12*(2*(V*S)):=by
  rw [iu];exact ki c12 (by omega)
 have b:(5*V+4)*(S*6)=30*(V*S)+24*S:=by
  rw [ER,show 5*V*(S*6)=30*(V*S) by rw [Nat.mul_mul_mul_comm,Fm 5 S,<-yw]<;>grind];omega
 omega
theorem kGH:∀ i,i<=11->(5*vv i+4)*(sc i*6)<2 ^ 200/\sc i*6<2 ^ 200:=by decide
theorem kDV:∀ i,i<=12->vv i*sc i<2 ^ 206/\sc i<2 ^ 206/\0<sc i:=by decide
theorem Cd.size {S V:Nat} {n d:Int} (h:Cd S V n d) (co:iE n d=1) (S0:0<S):n.natAbs<=V*S/\d.natAbs<=S:=by
 obtain ⟨X,h1,h2⟩:=h;obtain ⟨s1,s2⟩:=h1.size co (by omega);omega
theorem Cd.fz {i:Nat} {n d:Int} (h:Cd (sc i*6) (5*vv i+4) n d) (hi:i<=11) (co:iE n d=1):Fz 200 n d:=by
 obtain ⟨s1,s2⟩:=kGH i hi;have p:=(kDV i (by omega)).2.2;obtain ⟨a,b⟩:=h.size co (by omega);exact ⟨h.pos,by omega,by omega⟩
theorem Cd.up {S V:Nat} {n d:Int} (h:Cd S V n d) (c W:Nat) (hW:V<=W):Cd (S*c) W n d:=by
 obtain ⟨X,h1,h2⟩:=h;refine ⟨X*c,by rw [show ((S*c:Nat):Int)=(S:Int)*(c:Int) by simp];exact h1.up c,?_⟩;rw [iu];have a:X.natAbs*(c:Int).natAbs<=V*S*c:=ki h2 (by omega);have b:V*S*c<=W*(S*c):=by rw [yw];exact ki hW (ba _)
 omega
theorem oX (B:Fx):Hs "_law_point" ["_law_pot_here","_law_points_here","_law_mode"] 4 (kBI):=by
 refine qC B.X B.d30 oB λ f cdv A outer s H vs Q E nN hr h=>?_;obtain ⟨a,l,mode,i,n,rfl,ha,hl,nal,m0,hi,hn,q⟩:=h
 refine ⟨_,(kF (qP (PW.pt (wC (kU wG (pv 2) kC (kX _)) (wC (kU uP (kS qM rfl (B.z B.y6) jr (p1 (pv 1))) kC (kX _)) (zD (kU vG (pf (kW B) hr (p2 (pv 0) kC)) kC (kX _)))))) (kF (pst 3 nN (pix kT (pv 1) (pf (kW B) hr (p2 (pv 0) (kS qM rfl (B.z B.y6) jr (p1 (pv 1)))))))
   (kF (pst 4 nN (pix kT (pv 1) (pf (kW B) hr (p2 (pv 0) (kS qM rfl (B.z B.y6) jr (p1 (pv 1)))))))
   (kF (pst 5 nN (pix kT (jF (kH (kY (p2 kC kC)) (kH (kY (p2 kC kC)) (kH (kY (p2 (sF dA kC) kC)) (kH (kY (p2 kC kC)) kZ nY) nY) nY) nY)) (pf (kW B) hr (p2 (pv 0) kC))))
   (kI (kP (kY (p2 (pf (wH B) hr (kH (pix kJ (pv 3) kC) (kH (pix kJ (pv 4) kC) (kH (pv 5) kZ)))) (pf (wH B) hr (kH (pix kJ (pv 3) kC) (kH (pix kJ (pv 4) kC) (kH (pv 5) kZ))))))))))) qB)
   (kI (kP (kY (p2 (pf (vH B) hr (p2 (pv 0) (pv 2))) (pf (vH B) hr (p2 (pv 0) (pv 2)))))))),?_⟩
 try dsimp only [qE]
 have last:∀ H4,SameBut a H H4->PotAt H4 a->(kPK (kPG (vC (dD uE [] E0 (vC (tS 0) (vC (tS 2) kDQ))) (vC (dD uE [] E0 (vC (tS 0) (vC (tS 2) kDQ))) kDQ))))
   { nx:=λ _ H'=>Q .non H',rt:=Q } [some (.ref a),some (.ref l),some (.int mode),none,none,none] H4:=λ H4 g p4=>by
  refine ⟨_,rfl,_,rfl,a,mode,rfl,p4,m0,λ n1 d1 r1 H5 z1 co1 cd1 s5 p5 h1=>?_⟩;refine ⟨_,rfl,_,rfl,a,mode,rfl,p5,m0,λ n2 d2 r2 H6 z2 co2 cd2 s6 p6 h2=>⟨yS2,λ p hp=>?_⟩⟩;have g7:=kE hp (.tup [.ref r1,.ref r2])
  have h1':H6 r1=some (.tup [.int n1,.int d1]):=by
   obtain ⟨x,y,e,_⟩:=p5;exact s6 _ _ (wI h1 e (by intro z;cases z)) h1
  refine q ⟨n1,d1,n2,d2⟩ p _ ⟨⟨z1.1,z2.1,co1,co2⟩,?_,λ c=>⟨(cd1 c).wide i,(cd2 c).wide i⟩⟩ (g.trans (s5.trans (s6.trans (.of g7)))) (p6.kept g7) ⟨r1,r2,kD,g7 _ _ h1',g7 _ _ h2⟩;have z:=z1.sz z2;refine z.up ?_
  split<;>omega
 obtain ⟨ps,hps,hlen,hpt⟩:=id hl;refine ⟨_,rfl,_,_,rfl,rfl,_,rfl,?_⟩;refine jC (λ c=>?_) (λ c=>last H (SameBut.refl a H) ha);have c':mode<2:=of_decide_eq_true c;refine ⟨_,rfl,l,_,rfl,.inl (SqL.of hps),_,_,rfl,rfl,_,rfl,?_⟩;refine jC (λ c2=>?_) (λ c2=>last H (SameBut.refl a H) ha)
 have c2':1<n:=by
  have:=of_decide_eq_true c2;rw [bg] at this;omega
 have hl4:((ps.map V.ref).length:Int)=n:=by rw [bg,hlen]
 have n9:((n:Int)).natAbs<2 ^ 9000:=uV (md (m:=20) (by omega) (by decide));refine ⟨_,rfl,a,4,rfl,ha,by decide,uV (by decide),λ d1 H1 _ _ s1 p1=>?_⟩;have l1:=hl.but ha nal.symm s1;refine ⟨rfl,_,rfl,?_⟩
 refine jC (λ c3=>?_) (λ c3=>last H1 s1 p1)
 obtain ⟨ps1,e1,_⟩:=id l1;have ps1e:H1 l=some (.lst (ps.map V.ref)):=s1 _ _ nal.symm hps;refine ⟨_,rfl,_,rfl,_,rfl,l,_,rfl,.inl (SqL.of ps1e),a,_,rfl,p1,(by rw [hl4];omega),(by rw [hl4];exact n9),λ d2 H2 x0 x1 s2 p2=>?_⟩;rw [hl4] at x1;have l2:=l1.but p1 nal.symm s2;obtain ⟨ps2,pa,PA,hp2,at2,kA,lA,zA,cA⟩:=l2.pick x0 x1
 refine ⟨l,_,_,_,rfl,rfl,SqL.of hp2,at2,?_⟩
 have ps2e:H2 l=some (.lst (ps.map V.ref)):=s2 _ _ nal.symm ps1e;refine ⟨_,rfl,_,rfl,_,rfl,l,_,rfl,.inl (SqL.of ps2e),a,_,rfl,p2,(by rw [hl4];omega),(by rw [hl4];exact n9),λ d3 H3 y0 y1 s3 p3=>?_⟩;rw [hl4] at y1;have l3:=l2.but p2 nal.symm s3;obtain ⟨ps3,pb,PB,hp3,at3,kB,lB,zB,cB⟩:=l3.pick y0 y1;refine ⟨l,_,_,_,rfl,rfl,SqL.of hp3,at3,?_⟩;obtain ⟨xx,yy,potA,_⟩:=id p2
 have kA:=kA.but potA s3
 refine ⟨yS2,λ t1 n1=>⟨yS2,λ t2 n2=>⟨_,rfl,yS2,λ t3 n3=>⟨yS2,λ t4 n4=>⟨yS4,λ lp nlp=>?_⟩⟩⟩⟩⟩;have g1:=kE n1 (.tup [.int 1,.int 2]);have g2:=kE n2 (.tup [.int 2,.int 1]);have g3:=kE n3 (.tup [.int (-1),.int 1]);have g4:=kE n4 (.tup [.int 1,.int 3]);have g5:=kE nlp (.lst [.ref t1,.ref t2,.ref t3,.ref t4]);have b1:=g5 _ _ (g4 _ _ (g3 _ _ (g2 _ _ (kD (H:=H3) (a:=t1) (o:=.tup [.int 1,.int 2])))));have b2:=g5 _ _ (g4 _ _ (g3 _ _ (kD (H:=upd H3 t1 (.tup [.int 1,.int 2])) (a:=t2) (o:=.tup [.int 2,.int 1]))));have b3:=g5 _ _ (g4 _ _ (kD (H:=upd (upd H3 t1 (.tup [.int 1,.int 2])) t2 (.tup [.int 2,.int 1])) (a:=t3) (o:=.tup [.int (-1),.int 1])));have b4:=g5 _ _ (kD (H:=upd (upd (upd H3 t1 (.tup [.int 1,.int 2])) t2 (.tup [.int 2,.int 1])) t3 (.tup [.int (-1),.int 1])) (a:=t4) (o:=.tup [.int 1,.int 3]));have bl:=kD (H:=upd (upd (upd (upd H3 t1 (.tup [.int 1,.int 2])) t2 (.tup [.int 2,.int 1])) t3 (.tup [.int (-1),.int 1])) t4 (.tup [.int 1,.int 3])) (a:=lp) (o:=.lst [.ref t1,.ref t2,.ref t3,.ref t4]);have gg:Same H3 _:=g1.trans (g2.trans (g3.trans (g4.trans g5)));generalize upd (upd (upd (upd (upd H3 t1 (.tup [.int 1,.int 2])) t2 (.tup [.int 2,.int 1])) t3 (.tup [.int (-1),.int 1])) t4 (.tup [.int 1,.int 3])) lp (.lst [.ref t1,.ref t2,.ref t3,.ref t4])=H4 at *;have p4:=p3.kept gg;obtain ⟨x4,y4,pot4,_⟩:=id p4
 have lpa:lp≠a:=by
  intro z;subst z;rw [bl] at pot4;cases pot4
 refine ⟨_,rfl,a,4,rfl,p4,by decide,uV (by decide),λ d4 H5 z0 z1 s5 p5=>?_⟩;obtain ⟨v,hv,ev⟩:=kQD z0 z1 (a:=.ref t1) (b:=.ref t2) (c:=.ref t3) (e:=.ref t4);refine ⟨lp,_,_,_,rfl,rfl,SqL.of (s5 _ _ lpa bl),hv,?_⟩;have nt:∀ {t:ag} {xs:List V},H4 t=some (.tup xs)->H5 t=some (.tup xs):=λ h=>s5 _ _ (wI h pot4 (by intro z;cases z)) h
 have hc:∃ (t:ag) (c0 c1 C:Int),v=.ref t/\H5 t=some (.tup [.int c0,.int c1])/\Fz 2 c0 c1/\Sc 6 C c0 c1/\C.natAbs<=12:=by
  rcases ev with rfl | rfl | rfl | rfl
  ·exact ⟨_,_,_,3,rfl,nt b1,⟨by decide,by decide,by decide⟩,⟨by decide,by decide⟩,by decide⟩
  ·exact ⟨_,_,_,12,rfl,nt b2,⟨by decide,by decide,by decide⟩,⟨by decide,by decide⟩,by decide⟩
  ·exact ⟨_,_,_,-6,rfl,nt b3,⟨by decide,by decide,by decide⟩,⟨by decide,by decide⟩,by decide⟩
  ·exact ⟨_,_,_,2,rfl,nt b4,⟨by decide,by decide,by decide⟩,⟨by decide,by decide⟩,by decide⟩
 obtain ⟨t,c0,c1,C,rfl,ht,zt,cC,c12⟩:=hc;have kA:=(kA.kept gg).but pot4 s5;have kB:=(kB.kept gg).but pot4 s5;have sAll:SameBut a H H5:=s1.trans (s2.trans (s3.trans ((SameBut.of gg).trans s5)));obtain ⟨ax,ay,hA,hAx,hAy⟩:=kA;obtain ⟨bx,bY,hB,hBx,hBy⟩:=kB;obtain ⟨a1,a2,a3,a4,a5,a6⟩:=zA;obtain ⟨b1,b2,b3,b4,b5,b6⟩:=zB;refine ⟨_,rfl,pa,_,_,_,rfl,rfl,SqT.of hA,at0,_,rfl,pb,_,_,_,rfl,rfl,SqT.of hB,at0,_,rfl,ax,bx,t,_,_,_,_,_,_,206,rfl,hAx,hBx,ht,⟨a1,a3,a4⟩,⟨b1,b3,b4⟩,zt,by decide,λ n1 d1 r1 H6 z1 co1 g6 h1=>?_⟩;refine ⟨_,rfl,pa,_,_,_,rfl,rfl,SqT.of (g6 _ _ hA),at1,_,rfl,pb,_,_,_,rfl,rfl,SqT.of (g6 _ _ hB),at1,_,rfl,ay,bY,t,_,_,_,_,_,_,206,rfl,g6 _ _ hAy,g6 _ _ hBy,g6 _ _ ht,⟨a2,a5,a6⟩,⟨b2,b5,b6⟩,zt,by decide,λ n2 d2 r2 H7 z2 co2 g7 h2=>⟨yS2,λ p hp=>?_⟩⟩;have g8:=kE hp (.tup [.ref r1,.ref r2]);have gx:=g6.trans (g7.trans g8);obtain ⟨cAx,cAy⟩:=cA c';obtain ⟨cBx,cBy⟩:=cB c';have x1:=cAx.btw cBx cC c12 z1;have x2:=cAy.btw cBy cC c12 z2;exact q ⟨n1,d1,n2,d2⟩ p _ ⟨⟨x1.pos,x2.pos,co1,co2⟩,(x1.fz (by omega) co1).sz (x2.fz (by omega) co2),λ _=>⟨x1,x2⟩⟩ (sAll.trans (.of gx)) (p5.kept gx) ⟨r1,r2,kD,g8 _ _ (g7 _ _ h1),g8 _ _ h2⟩
def ptD (P:Pt):vm:=.tuple [.tuple [.int P.n,.int P.d],.tuple [.int P.m,.int P.e]]
theorem aX (P:Pt):iB (ptD P)=true:=by
 unfold ptD iB;simp [iJ,eX,jb,iS]
theorem PtAt.dt {K:ai} {H:Hp} {p:ag} {P:Pt} (h:PtAt H p P):Dt K H (ptD P) (.ref p):=by
 obtain ⟨x,y,h1,h2,h3⟩:=h
 have two:∀ {z:ag} {i j:Int},H z=some (.tup [.int i,.int j])->Dt K H (.tuple [.int i,.int j]) (.ref z):=λ {z i j} e=>by
  unfold Dt;refine ⟨z,_,rfl,SqT.of e,?_⟩;unfold DtAll;refine ⟨_,_,rfl,(by unfold Dt;rfl),?_⟩;unfold DtAll;refine ⟨_,_,rfl,(by unfold Dt;rfl),?_⟩;unfold DtAll
  rfl
 unfold ptD Dt;refine ⟨p,_,rfl,SqT.of h1,?_⟩;unfold DtAll;refine ⟨_,_,rfl,two h2,?_⟩;unfold DtAll;refine ⟨_,_,rfl,two h3,?_⟩;unfold DtAll
 rfl
theorem kGX {K:ai} {H:Hp}:∀ {ps:List ag},(∀ p∈ps,∃ P,PtAt H p P)->∃ es,DtAll K H es (ps.map V.ref)/\∀ e∈es,iB e=true
 | [],_=>⟨[],(by unfold DtAll;rfl),λ e he=>by cases he⟩
 | p::ps,h=>by
  obtain ⟨P,hP⟩:=h p fe;obtain ⟨es,h1,h2⟩:=kGX (K:=K) (ps:=ps) λ p' hp'=>h p' (eY _ hp');refine ⟨ptD P::es,?_,λ e he=>?_⟩
  ·unfold DtAll
   exact ⟨_,_,rfl,hP.dt,h1⟩
  ·rcases gu.mp he with rfl | he
   ·exact aX P
   ·exact h2 e he
theorem PtAt.upd {H:Hp} {p l:ag} {P:Pt} {xs:List V} {o:HO} (h:PtAt H p P) (hl:H l=some (.lst xs)):PtAt (upd H l o) p P:=h.but hl aN
theorem Okq.next {mode:Int} {i:Nat} {P:Pt} (h:Okq mode i P):Okp mode (i+1) P:=by
 obtain ⟨lw,z,c⟩:=h;refine ⟨lw,z.up (by decide),λ m=>?_⟩;obtain ⟨c1,c2⟩:=c m;have e:sc i*6*((7+i)*(11+i))=sc (i+1):=by show _=sc i*(6*((7+i)*(11+i)));rw [yw]
 have v:5*vv i+4<=vv (i+1):=by show _<=5*vv i+6;omega
 have d1:=c1.up ((7+i)*(11+i)) (vv (i+1)) v;have d2:=c2.up ((7+i)*(11+i)) (vv (i+1)) v;rw [e] at d1 d2;exact ⟨d1,d2⟩
theorem Okp.up {mode:Int} {i:Nat} {P:Pt} (h:Okp mode i P):Okp mode (i+1) P:=by
 obtain ⟨lw,z,c⟩:=h;refine ⟨lw,z,λ m=>?_⟩;obtain ⟨c1,c2⟩:=c m;have v:vv i<=vv (i+1):=by show _<=5*vv i+6;omega
 exact ⟨c1.up _ (vv (i+1)) v,c2.up _ (vv (i+1)) v⟩
theorem Cd.shift {S V u v:Nat} {a0 a1 n d:Int} (h:Cd S V a0 a1) (u0:0<v) (uv:u<=v) (c:Nat) (f:Fr (a0*(v:Int)+(u:Int)*a1) (a1*(v:Int)) n d):Cd (S*(v*c)) (V+1) n d:=by
 obtain ⟨X,h1,h2⟩:=h;have k:Sc (v:Int) (u:Int) (u:Int) (v:Int):=⟨by omega,rfl⟩;have e:=(h1.up (v*c:Nat)).plus ((k.up (S*c:Nat)) |> λ z=>(by rw [show (v:Int)*((S*c:Nat):Int)=(S:Int)*((v*c:Nat):Int) by simp;grind] at z;exact z)) f;refine ⟨_,by rw [show ((S*(v*c):Nat):Int)=(S:Int)*((v*c:Nat):Int) by simp];exact e,?_⟩
 have a:(X*((v*c:Nat):Int)).natAbs<=V*S*(v*c):=by
  rw [iu];exact ki h2 (by omega)
 have b:((u:Int)*((S*c:Nat):Int)).natAbs<=S*(v*c):=by
  rw [iu,DD,DD,show S*(v*c)=v*(S*c) by grind];exact ki uv (ba _)
 have g:(V+1)*(S*(v*c))=V*S*(v*c)+S*(v*c):=by rw [ER,Nat.one_mul,yw]
 omega
theorem lN (B:Fx):Hs "_law_points" ["_law_pot_here","_law_many"] 5 (rK):=by
 refine qC B.X B.d31 lJ λ f cdv A outer s H vs Q E nN hr h=>?_;obtain ⟨a,m,rfl,ha,m8,q⟩:=h
 refine ⟨_,(kF (pst 2 nN (kO vQ (pf (kW B) hr (p2 (pv 0) kC)) (kO xD kC (kO kCI (pv 1) kC))))
   (kF (qP (PW.pt (wC (kU vG (pv 2) kC (kX _)) (zD (kU uP (pv 1) kC (kX _))))) (kI (pst 2 nN kC)) qB)
   (kF (pst 3 nN (jF kZ))
   (kF (aY (yV rfl (B.z B.y7) (p1 (pv 1))) (pgn 4 nN) (kF (pst 5 nN (pf (oX B) hr (kH (pv 0) (kH (pv 3) (kH (pv 2) kZ)))))
   (kF (qP (PW.pt (wC (kU (kNM (Room.units65 hr)) (pv 5) (pv 3) rfl) (zD (kU uP (pf (kW B) hr (p2 (pv 0) kC)) kC (kX _))))) (kI (pst 5 nN (kY (p2 (pf (yD B) hr (p2 (pix kJ (pv 5) kC) (kY (p2 (kO jG (pv 4) kC) (kO jG kC (pv 4)))))) (pf (yD B) hr (p2 (pix kJ (pv 5) kC) (kY (p2 kC (kO jG kC (pv 4)))))))))) qB)
   (kI (jQ (yO jz kg xO (pv 3) (p1 (pv 5))))))))
   (kI (kP (qW jI rfl (B.z B.y8) ji (p1 (pv 3))))))))),?_⟩
 try dsimp only [qE]
 refine ⟨_,rfl,a,3,rfl,ha,by decide,uV (by decide),λ mode H1 m0 _ s1 p1=>?_⟩;refine ⟨_,rfl,_,_,rfl,rfl,⟨by decide,by decide⟩,_,_,rfl,rfl,_,_,rfl,rfl,(by show 0<3-(m:Int) / 9;omega),?_⟩;have m0:=AD mode (show 3-(m:Int) / 9≠0 by omega);generalize mode % (3-(m:Int) / 9)=mode at *;dsimp only;refine kBU (I:=λ σ H'=>H'=H1/\∃ mode:Int,0<=mode/\σ=[some (.ref a),some (.int (m:Int)),some (.int mode),none,none,none]) ?_ (λ j=>?_)
 rotate_left
 ·refine ⟨_,rfl,rfl,_,rfl,?_⟩
  refine jC (λ c=>?_) (λ c=>?_)
  ·refine ⟨_,rfl,_,_,rfl,rfl,_,rfl,?_⟩
   refine jC (λ c=>?_) (λ c=>?_)
   ·exact j _ _ ⟨rfl,3,by decide,rfl⟩
   ·exact j _ _ ⟨rfl,mode,m0,rfl⟩
  ·exact j _ _ ⟨rfl,mode,m0,rfl⟩
 clear m0;rintro σ H1 ⟨rfl,mode,m0,rfl⟩;refine ⟨yS0,λ l nl=>?_⟩
 have la:l≠a:=by
  obtain ⟨x,y,z,_⟩:=p1;exact (kR z nl).symm
 have g0:=kE nl (.lst []);refine ⟨_,rfl,m,rfl,by omega,by omega,?_⟩;rw [show (m:Int).toNat=m by omega]
 refine xP (lo:=0) (n:=m) (λ i σ H2=>∃ (x y:Option V),σ=[some (.ref a),some (.int (m:Int)),some (.int mode),some (.ref l),x,y]/\SameBut a H1 H2/\PotAt H2 a/\ListAt H2 l mode i i)
  ⟨none,none,rfl,.of g0,p1.kept g0,[],kD,rfl,λ p hp=>by cases hp⟩ ?_ ?_
 ·rintro i σ H2 hi ⟨x,y,rfl,s2,p2,l2⟩
  refine ⟨_,rfl,_,rfl,_,rfl,a,l,mode,i,i,rfl,p2,l2,la.symm,m0,by omega,by omega,λ P p H3 okP s3 p3 hP=>?_⟩;have l3:=l2.but p2 la s3
  have fin:∀ (H5:Hp) (p':ag) (P':Pt),SameBut a H3 H5->PotAt H5 a->PtAt H5 p' P'->Okp mode (i+1) P'->∃ xs,H5 l=some (.lst xs)/\xs.length<sizeLine/\SameBut a H1 (upd H5 l (.lst (xs++[.ref p'])))/\PotAt (upd H5 l (.lst (xs++[.ref p']))) a/\ListAt (upd H5 l (.lst (xs++[.ref p']))) l mode (i+1) (i+1):=λ H5 p' P' s5 p5 hP' okP'=>by
   obtain ⟨ps,h1,h2,h3⟩:=l3.but p3 la s5;refine ⟨_,h1,(by rw [bg,h2];exact qR (by omega)),λ b o nb e=>?_,p5.other la.symm,ps++[p'],(by rw [iM];exact kD),(by rw [du,h2];rfl),λ r hr'=>?_⟩
   ·have e5:=s5 b o nb (s3 b o nb (s2 b o nb e))
    rw [kN (kR e nl)];exact e5
   ·rcases gf.mp hr' with z | z
    ·obtain ⟨R,k1,k2⟩:=h3 r z
     exact ⟨R,k1.upd h1,k2.up⟩
    ·have:r=p':=by simpa using z
     subst this;exact ⟨P',hP'.upd h1,okP'⟩
  obtain ⟨ps3,e3,kNT,pts3⟩:=id l3;obtain ⟨es,des,ses⟩:=kGX (K:=K) (H:=H3) (ps:=ps3) λ r hr'=>let ⟨R,k,_⟩:=pts3 r hr';⟨R,k⟩;refine ⟨_,rfl,_,rfl,ptD P,es,l,_,rfl,.inl (SqL.of e3),hP.dt,des,aX P,ses,_,rfl,?_⟩
  have go:∀ (H5:Hp),SameBut a H3 H5->PotAt H5 a->∃ xs,H5 l=some (.lst xs)/\xs.length<sizeLine/\SameBut a H1 (upd H5 l (.lst (xs++[.ref p])))/\PotAt (upd H5 l (.lst (xs++[.ref p]))) a/\ListAt (upd H5 l (.lst (xs++[.ref p]))) l mode (i+1) (i+1):=λ H5 s5 p5=>by
   obtain ⟨x,y,e,_⟩:=id p3;exact fin H5 p P s5 p5 (hP.but e s5) okP.next
  refine jC (λ c=>?_) (λ c=>?_)
  ·refine ⟨_,rfl,a,8,rfl,p3,by decide,uV (by decide),λ d H4 _ _ s4 p4=>⟨_,_,rfl,rfl,_,rfl,?_⟩⟩
   refine jC (λ c2=>?_) (λ c2=>?_)
   ·obtain ⟨x3,y3,e3',_⟩:=id p3
    obtain ⟨px,py,h1,h2,h3⟩:=hP.but e3' s4;obtain ⟨lwP,⟨z1,z2,z3,z4,z5,z6⟩,cP⟩:=id okP;have u:∀ {j:Int},j.natAbs<2 ^ 200->j.natAbs<2 ^ 4000:=λ h=>Mth.up h (by omega);have u4:∀ {j:Int},j.natAbs<2 ^ 5->j.natAbs<2 ^ 4000:=λ h=>Mth.up h (by decide);refine ⟨_,rfl,p,_,_,_,rfl,rfl,SqT.of h1,at0,_,rfl,_,_,rfl,rfl,_,rfl,_,_,rfl,rfl,yS2,λ t1 n1=>?_⟩;have g1:=kE n1 (.tup [.int (0 + ↑i+1),.int (7+(0 + ↑i))]);have k1:(0+(i:Int)+1).natAbs<2 ^ 5:=be (m:=31) (by omega) (by decide);have k2:(7+(0+(i:Int))).natAbs<2 ^ 5:=be (m:=31) (by omega) (by decide);have k3:(1:Int).natAbs<2 ^ 5:=by decide
    have k4:(11+(0+(i:Int))).natAbs<2 ^ 5:=be (m:=31) (by omega) (by decide);refine ⟨px,t1,_,_,_,_,rfl,g1 _ _ h2,kD,⟨u z3,u z4,u4 k1,u4 k2⟩,fS (xU z1) (by omega),λ n2 d2 r2 H6 f2 g2 hr2=>?_⟩;have g12:=g1.trans g2;refine ⟨_,rfl,p,_,_,_,rfl,rfl,SqT.of (g12 _ _ h1),at1,_,rfl,_,_,rfl,rfl,yS2,λ t3 n3=>?_⟩;have g3:=kE n3 (.tup [.int 1,.int (11+(0 + ↑i))]);have g13:=g12.trans g3;refine ⟨py,t3,_,_,_,_,rfl,g13 _ _ h3,kD,⟨u z5,u z6,u4 k3,u4 k4⟩,fS (xU z2) (by omega),λ n4 d4 r4 H7 f4 g4 hr4=>?_⟩;refine ⟨yS2,λ t5 n5=>?_⟩;have g5:=kE n5 (.tup [.ref r2,.ref r4]);have gg:=g13.trans (g4.trans g5);have fz2:Fz 206 n2 d2:=Fz.of_fr f2 (Mth.up (i:=200+5+1) (vZ (kL z3 k2) (Mth.up (kL k1 z4) (by omega))) (by omega)) (Mth.up (kL z4 k2) (by omega));have fz4:Fz 206 n4 d4:=Fz.of_fr f4 (Mth.up (i:=200+5+1) (vZ (kL z5 k4) (Mth.up (kL k3 z6) (by omega))) (by omega)) (Mth.up (kL z6 k4) (by omega))
    have ok':Okp mode (i+1) ⟨n2,d2,n4,d4⟩:=by
     refine ⟨⟨f2.pos,f4.pos,f2.co,f4.co⟩,fz2.sz fz4,λ m=>?_⟩;obtain ⟨c1,c2⟩:=cP m;rw [show (7:Int)+(0+(i:Int))=((7+i:Nat):Int) by omega,show (0:Int)+(i:Int)+1=((i+1:Nat):Int) by omega] at f2;rw [show (11:Int)+(0+(i:Int))=((11+i:Nat):Int) by omega,show (1:Int)=((1:Nat):Int) by omega] at f4;have v:5*vv i+4+1<=vv (i+1):=by show _<=5*vv i+6;omega
     have y1:=(c1.shift (by omega) (by omega) (11+i) f2).up 1 (vv (i+1)) v;have y2:=(c2.shift (by omega) (by omega) (7+i) f4).up 1 (vv (i+1)) v;have e1:sc i*6*((7+i)*(11+i))*1=sc (i+1):=by show _=sc i*(6*((7+i)*(11+i)));rw [Nat.mul_one,yw]
     have e2:sc i*6*((11+i)*(7+i))*1=sc (i+1):=by rw [Fm (11+i)];exact e1
     rw [e1] at y1;rw [e2] at y2;exact ⟨y1,y2⟩
    obtain ⟨xs,w1,w2,w3,w4,w5⟩:=fin _ t5 ⟨n2,d2,n4,d4⟩ (s4.trans (.of gg)) (p4.kept gg) ⟨r2,r4,kD,g5 _ _ (g4 _ _ (g3 _ _ hr2)),g5 _ _ hr4⟩ ok';exact ⟨_,rfl,.inl ⟨rfl,_,SqL.of w1⟩,_,rfl,l,_,_,rfl,rfl,w1,w2,_,_,rfl,w3,w4,w5⟩
   ·obtain ⟨xs,w1,w2,w3,w4,w5⟩:=go H4 s4 p4
    exact ⟨_,rfl,.inl ⟨rfl,_,SqL.of w1⟩,_,rfl,l,_,_,rfl,rfl,w1,w2,_,_,rfl,w3,w4,w5⟩
  ·obtain ⟨xs,w1,w2,w3,w4,w5⟩:=go H3 (SameBut.refl a H3) p3
   exact ⟨_,rfl,.inl ⟨rfl,_,SqL.of w1⟩,_,rfl,l,_,_,rfl,rfl,w1,w2,_,_,rfl,w3,w4,w5⟩
 ·rintro σ H2 ⟨x,y,rfl,s2,p2,ps,h1,h2,h3⟩
  refine ⟨_,rfl,l,_,rfl,.inl ⟨SqL.of h1,λ t nt=>?_⟩⟩;have gt:=kE nt (.tup (ps.map V.ref));refine q t ps _ (s1.trans (s2.trans (.of gt))) (p2.kept gt) kD h2 λ p hp=>?_;obtain ⟨P,k1,lw,sz,_⟩:=h3 p hp;exact ⟨P,k1.kept gt,sz,lw⟩
open Mth Sca Ang
def AllAt {α:Type} (R:Hp->ag->α->Prop) (H:Hp) (ps:List ag) (xs:List α):Prop:=ps.length=xs.length/\∀ (i:Nat) (p:ag) (x:α),ps[i]?=some p->xs[i]?=some x->R H p x
theorem AllAt.nil {α:Type} {R:Hp->ag->α->Prop} {H:Hp}:AllAt R H [] []:=⟨rfl,λ i p x h=>by simp at h⟩
theorem AllAt.get {α:Type} {R:Hp->ag->α->Prop} {H:Hp} {ps:List ag} {xs:List α} {i:Nat} {p:ag} (h:AllAt R H ps xs) (e:ps[i]?=some p):∃ x,xs[i]?=some x/\R H p x:=by
 have hi:i<xs.length:=h.1 ▸ (au.mp e).1;exact ⟨xs[i],ao hi,h.2 i p _ e (ao hi)⟩
theorem AllAt.at {α:Type} {R:Hp->ag->α->Prop} {H:Hp} {ps:List ag} {xs:List α} {i:Nat} {x:α} (h:AllAt R H ps xs) (e:xs[i]?=some x):∃ p,ps[i]?=some p/\R H p x:=by
 have hi:i<ps.length:=h.1 ▸ (au.mp e).1;exact ⟨ps[i],ao hi,h.2 i _ x (ao hi) e⟩
theorem AllAt.imp {α:Type} {R R':Hp->ag->α->Prop} {H H':Hp} {ps:List ag} {xs:List α} (h:AllAt R H ps xs) (g:∀ p x,R H p x->R' H' p x):AllAt R' H' ps xs:=⟨h.1,λ i p x e1 e2=>g p x (h.2 i p x e1 e2)⟩
theorem AllAt.snoc {α:Type} {R:Hp->ag->α->Prop} {H:Hp} {ps:List ag} {xs:List α} {p:ag} {x:α} (h:AllAt R H ps xs) (e:R H p x):AllAt R H (ps++[p]) (xs++[x]):=by
 refine ⟨by rw [du,du,h.1];rfl,λ i q y e1 e2=>?_⟩;rcases vc i ps.length with l | l
 ·rw [dw l] at e1
  rw [dw (h.1 ▸ l)] at e2;exact h.2 i q y e1 e2
 ·rw [bu l] at e1
  rw [bu (h.1 ▸ l),<-h.1] at e2
  match i-ps.length,e1,e2 with
  | 0,e1,e2 =>
   cases e1
   cases e2
   exact e
  | k+1,e1,_=>simp at e1
def nk (P:Pt):jA:=[[.inl P.n,.inl P.d],[.inl P.m,.inl P.e]]
theorem kNQ {P R:Pt} (h:nk P=nk R):P=R:=by
 unfold nk at h;injection h with h1 h2
 injection h2 with h2 _
 injection h1 with a h1
 injection h1 with b _
 injection h2 with c h2
 injection h2 with d _
 cases P
 cases R
 injection a with a
 injection b with b
 injection c with c
 injection d with d
 simp_all
theorem PtAt.nat {H:Hp} {p:ag} {P:Pt} (h:PtAt H p P):NAt H p (nk P):=by
 obtain ⟨x,y,h1,h2,h3⟩:=h;refine ⟨[x,y],h1,rfl,λ i q k e1 e2=>?_⟩
 match i,e1,e2 with
 | 0,e1,e2=>cases e1;cases e2;exact h2
 | 1,e1,e2=>cases e1;cases e2;exact h3
 | n+2,e1,_=>simp at e1
structure Least (Ps:List Pt) (p q:Nat):Prop where
 lt:p<q
 same:∃ P,Ps[p]?=some P/\Ps[q]?=some P
 le:∀ p' q' P,p'<q'->Ps[p']?=some P->Ps[q']?=some P->p<p'\/(p=p'/\q<=q')
structure AkI (ps:List ag) (Ps:List Pt) (j:Nat) (kvs:List (jA×ag×Int)) (ns:List (Int×Int)):Prop where
 len:kvs.length<=j
 mem:∀ e∈kvs,∃ i P,i<j/\Ps[i]?=some P/\ps[i]?=some e.2.1/\e.1=nk P
 one:∀ (P:Pt) (v:Int),look kvs (nk P)=some v->∃ i:Nat,v=i/\i<j/\Ps[i]?=some P/\∀ i',i'<i->Ps[i']?≠some P
 none:∀ P:Pt,look kvs (nk P)=none->∀ i,i<j->Ps[i]?≠some P
 prs:∀ x∈ns,∃ p q:Nat,x=((p:Int),(q:Int))/\p<q/\q<j/\∃ P,Ps[p]?=some P/\Ps[q]?=some P
 all:∀ (p q:Nat) (P:Pt),p<q->q<j->Ps[p]?=some P->Ps[q]?=some P->∃ f:Nat,f<=p/\((f:Int),(q:Int))∈ns
 nl:ns.length<=j
theorem AkI.start {ps:List ag} {Ps:List Pt}:AkI ps Ps 0 [] [] :=
 ⟨ba _,(λ e h=>by cases h),(λ P v h=>by cases h),(λ P _ i hi=>by omega),(λ x h=>by cases h),(λ p q P _ hq=>by omega),ba _⟩
theorem qQ {H H1:Hp} {D:ag} {o:HO} (n:H D=none) (g:Same H H1):Same H (upd H1 D o):=λ b u e=>by
 rw [kN (kR e n)];exact g b u e
theorem mS (kvs:List (jA×ag×Int)) (e:jA×ag×Int) (k:jA):look (kvs++[e]) k=match look kvs k with | some v=>some v | none=>if e.1=k then some e.2.2 else none:=by
 unfold look;rw [List.find?_append]
 cases h:kvs.find? λ x=>decide (x.1=k) with
 | some x=>rfl
 | none =>
  rw [Option.none_or,Bu];by_cases c:e.1=k
  ·rw [decide_eq_true c,if_pos c];rfl
  ·rw [decide_eq_false c,if_neg c];rfl
theorem AkI.new {ps:List ag} {Ps:List Pt} {j:Nat} {kvs:List (jA×ag×Int)} {ns:List (Int×Int)} {P:Pt} {b:ag} (h:AkI ps Ps j kvs ns) (eP:Ps[j]?=some P) (eb:ps[j]?=some b) (hn:look kvs (nk P)=wu):AkI ps Ps (j+1) (kvs++[(nk P,b,(j:Int))]) ns:=by
 refine ⟨?_,λ e he=>?_,λ R v hv=>?_,λ R hR i hi=>?_,λ x hx=>?_,λ p q R pq hq e1 e2=>?_,by have:=h.nl;omega⟩
 ·rw [du]
  have:=h.len;show kvs.length+1<=_;omega
 ·rcases gf.mp he with he | he
  ·obtain ⟨i,R,a,r⟩:=h.mem e he
   exact ⟨i,R,by omega,r⟩
  ·cases eu.mp he
   exact ⟨j,P,by omega,eP,eb,rfl⟩
 ·rw [mS] at hv
  cases c:look kvs (nk R) with
  | some v' =>
   rw [c] at hv;cases hv
   obtain ⟨i,a,b',r⟩:=h.one R _ c;exact ⟨i,a,by omega,r⟩
  | none =>
   rw [c] at hv;by_cases d:nk P=nk R
   ·have hv:(if nk P=nk R then some (j:Int) else wu)=some v:=hv
    rw [if_pos d] at hv;cases hv
    cases kNQ d
    exact ⟨j,rfl,by omega,eP,λ i' hi'=>h.none P hn i' hi'⟩
   ·have hv:(if nk P=nk R then some (j:Int) else wu)=some v:=hv
    rw [if_neg d] at hv;cases hv
 ·rw [mS] at hR
  cases c:look kvs (nk R) with
  | some v'=>rw [c] at hR;cases hR
  | none =>
   rcases (by omega:i=j\/i<j) with rfl | hi
   ·intro e
    rw [eP] at e;cases e
    rw [c] at hR;have hR:(if nk P=nk P then some (i:Int) else wu)=wu:=hR;rw [if_pos rfl] at hR;cases hR
   ·exact h.none R c i hi
 ·obtain ⟨p,q,a,b',c,r⟩:=h.prs x hx
  exact ⟨p,q,a,b',by omega,r⟩
 ·rcases (by omega:q=j\/q<j) with rfl | hq
  ·rw [eP] at e2
   cases e2
   exact absurd e1 (h.none P hn p pq)
  ·exact h.all p q R pq hq e1 e2
theorem AkI.old {ps:List ag} {Ps:List Pt} {j:Nat} {kvs:List (jA×ag×Int)} {ns:List (Int×Int)} {P:Pt} {v:Int} (h:AkI ps Ps j kvs ns) (eP:Ps[j]?=some P) (hv:look kvs (nk P)=some v):v≠(j:Int)/\AkI ps Ps (j+1) kvs (ns++[(v,(j:Int))]):=by
 obtain ⟨i,rfl,hi,ei,fi⟩:=h.one P v hv;refine ⟨by omega,?_,λ e he=>?_,λ R v hv=>?_,λ R hR i' hi'=>?_,λ x hx=>?_,λ p q R pq hq e1 e2=>?_,?_⟩
 ·have:=h.len
  omega
 ·obtain ⟨i,R,a,r⟩:=h.mem e he
  exact ⟨i,R,by omega,r⟩
 ·obtain ⟨i,a,b,r⟩:=h.one R v hv
  exact ⟨i,a,by omega,r⟩
 ·rcases (by omega:i'=j\/i'<j) with rfl | hi'
  ·intro e
   rw [eP] at e;cases e
   rw [hv] at hR;cases hR
  ·exact h.none R hR i' hi'
 ·rcases gf.mp hx with hx | hx
  ·obtain ⟨p,q,a,b,c,r⟩:=h.prs x hx
   exact ⟨p,q,a,b,by omega,r⟩
  ·cases eu.mp hx
   exact ⟨i,j,rfl,hi,by omega,P,ei,eP⟩
 ·rcases (by omega:q=j\/q<j) with rfl | hq
  ·rw [eP] at e2
   cases e2
   refine ⟨i,?_,eg _ (eu.mpr rfl)⟩;rcases (by omega:i<=p\/p<i) with c | c
   ·exact c
   ·exact absurd e1 (fi p c)
  ·obtain ⟨f,a,b⟩:=h.all p q R pq hq e1 e2
   exact ⟨f,a,lh _ b⟩
 ·rw [du]
  have:=h.nl;show ns.length+1<=_;omega
def PrR (H:Hp) (p:ag) (x:Int×Int):Prop:=H p=some (.tup [.int x.1,.int x.2])
inductive nW (vs:List V) (H:Hp) (Q:VK) (Y:XK):Prop
 | mk:∀ (t:ag) (ps:List ag) (Ps:List Pt),(vs=[.ref t])->(H t=some (.tup (ps.map V.ref)))->(AllAt PtAt H ps Ps)->(Ps.length<=900)->(∀ H',Same H H'->(∀ (p q:Nat) (P:Pt),p<q->Ps[p]?=some P->Ps[q]?≠some P)->Q .non H') ->
   (∀ (a:ag) (p q:Nat) (H':Hp),Same H H'->H' a=some (.tup [vn p,vn q])->Least Ps p q->Q (.ref a) H')->nW vs H Q Y
theorem kHK (B:Fx):Hs "alike" ["drawing"] 1 (nW):=by
 refine qC B.X B.d18 kGJ λ f cdv A outer s H vs Q E nN hr h=>?_;obtain ⟨t,ps,Ps,rfl,ht,hP,l8,kn,ks⟩:=h
 refine ⟨_,(kF (pst 1 nN kHG)
   (kF (pst 2 nN (jF kZ))
   (kF (aY (uO false rfl (B.z B.y0) (p1 (pv 0))) (jE (n:=2) rfl (kQ (pgn 3 nN) (kQ (pgn 4 nN) qJ))) (kF (pst 5 nN (kJT hr.u80 (pv 1) (p2 (pv 4) (pv 3))))
   (kI (qP (kU sI (pv 5) (pv 3) (kX _)) (kI (jQ (yO jz kg xO (pv 2) (p1 (kY (p2 (pv 5) (pv 3))))))) qB))))
   (kI (kP (xW (kGY (pv 2) (λ _=>rfl)) (kS (kEY rfl hr.units) rfl (B.z B.y9) ui (p1 (pv 2))) jJ)))))),?_⟩
 try dsimp only [qE]
 refine λ d nd=>?_;have g1:=kE nd (.ext (ND P w d []));have hd1:upd H d (.ext (ND P w d [])) d=some (.ext (ND P w d [])):=kD;generalize upd H d (.ext (ND P w d []))=H1 at *;refine ⟨by show 0<=sizeLine;decide,λ pl npl=>?_⟩;have ndl:pl≠d:=λ z=>by subst z;rw [hd1] at npl;cases npl
 have nplH:H pl=none:=g1.free npl;have g2:=g1.trans (kE npl (.lst []));have lps:=hP.1;refine ⟨_,rfl,t,rfl,⟨_,SqT.of (g2 _ _ ht)⟩,?_⟩
 refine aD (k:=false) (xs:=ps.map V.ref) (λ j σ H2=>∃ (kvs:List (jA×ag×Int)) (us:List ag) (ns:List (Int×Int)) (x3 x4 x5:Option V),σ=[some (.ref t),some (.ref d),some (.ref pl),x3,x4,x5]/\Same H H2/\H2 d=some (.ext (ND P w d kvs))/\H2 pl=some (.lst (us.map V.ref))/\AllAt (λ H p x=>p≠pl/\p≠d/\PrR H p x) H2 us ns/\AkI ps Ps j kvs ns)
  ⟨[],[],[],none,none,none,rfl,g2,by rw [kN (iY ndl)];exact hd1,kD,AllAt.nil,AkI.start⟩ ?_ ?_ ?_
 ·rintro j σ H2 _ ⟨kvs,us,ns,x3,x4,x5,rfl,g,_⟩
  exact SqT.of (g _ _ ht)
 ·rintro j v T σ H2 hv nT ⟨kvs,us,ns,x3,x4,x5,rfl,g,hd,hpl,hus,I⟩
  rw [bq] at hv;obtain ⟨b,eb,rfl⟩:=eE.mp hv;obtain ⟨R,eR,hR⟩:=hP.get eb;have hj:=(au.mp eR).1;have gT:=kE nT (.tup [.int j,.ref b]);have gg:=g.trans gT;have hdT:=gT _ _ hd;have hplT:=gT _ _ hpl;have husT:=hus.imp (R':=λ H p x=>p≠pl/\p≠d/\PrR H p x) λ p x z=>⟨z.1,z.2.1,gT _ _ z.2.2⟩
  have hkv:∀ e∈kvs,NAt (upd H2 T (.tup [.int j,.ref b])) e.2.1 e.1:=λ e he=>by
   obtain ⟨i,S,_,e1,e2,e3⟩:=I.mem e he;rw [e3];exact ((hP.2 i _ _ e2 e1).kept gg).nat
  have lk:=I.len;have small9:∀ n:Nat,n<=1000->n<sizeLine:=λ n h=>qR h;refine ⟨T,_,rfl,SqT.of kD,rfl,_,_,rfl,_,_,rfl,rfl,?_⟩;refine ⟨_,rfl,d,kvs,rfl,hdT,_,rfl,_,rfl,b,j,nk R,rfl,hdT,(hR.kept gg).nat,hkv,small9 _ (by omega),λ v hv=>?_,λ hv=>?_⟩
  ·obtain ⟨ne,I2⟩:=I.old eR hv
   refine ⟨_,rfl,_,rfl,rfl,_,rfl,?_⟩;rw [decide_eq_false (show V.int v≠V.int j from λ z=>ne (by injection z))];refine wL ?_;refine ⟨_,rfl,.inl ⟨rfl,_,SqL.of hplT⟩,_,rfl,_,rfl,yS2,λ p2 n2=>?_⟩;have g3:=kE n2 (.tup [.int v,.int j]);have hpl3:=g3 _ _ hplT;have ln:=I.nl;refine ⟨pl,_,_,rfl,rfl,hpl3,small9 _ (by rw [bg,hus.1];omega),?_⟩;have n2p:p2≠pl:=λ z=>by subst z;rw [hplT] at n2;cases n2
   have n2d:p2≠d:=λ z=>by subst z;rw [hdT] at n2;cases n2
   refine ⟨kvs,us++[p2],ns++[(v,(j:Int))],_,_,_,rfl,qQ nplH (gg.trans g3),by rw [kN (iY ndl)];exact g3 _ _ hdT,by rw [kD,iM];rfl,?_,I2⟩;exact ((husT.imp (R':=λ H p x=>p≠pl/\p≠d/\PrR H p x) λ p x z=>⟨z.1,z.2.1,g3 _ _ z.2.2⟩).snoc ⟨n2p,n2d,show PrR _ p2 (v,(j:Int)) from kD⟩).imp λ p x z=>⟨z.1,z.2.1,by unfold PrR;rw [kN z.1];exact z.2.2⟩
  ·have I2:=I.new eR eb hv
   refine ⟨_,rfl,_,rfl,rfl,_,rfl,?_⟩;rw [decide_eq_true rfl];refine zQ ?_;refine ⟨_,us,ns,_,_,_,rfl,qQ nd gg,kD,by rw [kN ndl];exact hplT,husT.imp λ p x z=>⟨z.1,z.2.1,by unfold PrR;rw [kN z.2.1];exact z.2.2⟩,I2⟩
 ·rintro σ H2 ⟨kvs,us,ns,x3,x4,x5,rfl,g,hd,hpl,hus,I⟩
  rw [bg,lps] at I;refine ⟨_,rfl,_,.inl ⟨_,SqL.of hpl,rfl⟩,?_⟩;refine jC (λ c=>?_) (λ c=>?_)
  ·have hne:0<ns.length:=by
    have l:=hus.1
    cases us with
    | nil=>cases c
    | cons x r=>rw [<-l];exact Nat.succ_pos _
   refine ⟨_,rfl,pl,us,ns,rfl,hpl,hus.1,λ i p x e1 e2=>(hus.2 i p x e1 e2).2.2,hne,λ k p x e1 e2 hx=>?_⟩;obtain ⟨p0,q0,rfl,pq,hq,P0,f1,f2⟩:=I.prs x (eJ e2);refine ks p p0 q0 H2 g (hus.2 k p _ e1 e2).2.2 ⟨pq,⟨P0,f1,f2⟩,λ p' q' R pq' r1 r2=>?_⟩;obtain ⟨f,hf,mf⟩:=I.all p' q' R pq' (au.mp r2).1 r1 r2;have:=hx _ mf;unfold ltP at this;have this:=of_decide_eq_false this;have a1:¬ ((f:Int)<p0\/((f:Int)=p0/\(q':Int)<q0)):=this;omega
  ·have z:ns=[]:=by
    have l:=hus.1
    cases us with
    | nil=>exact wx.mp l.symm
    | cons x r=>exact absurd rfl c
   refine kn H2 g λ p q P0 pq r1 r2=>?_;obtain ⟨f,_,mf⟩:=I.all p q P0 pq (au.mp r2).1 r1 r2;rw [z] at mf;cases mf
open Mth Sca Ang Dcl
theorem kEB {f:ag} {fd:fj} (F:Fun K "__init__" "DrawError.__init__" xC f fd) (z:mg "ValueError" = none) (vf:oz K (.type "ValueError") (.type "type") "__init__" = some (.val (.builtin "ValueError.__init__"))) :
  FnOk P w K mg base CX0 1 f fd ["self","words"] (cQ K):=by
 refine Fun.ok F uK (λ vs H Q E h=>?_) (λ cdv A outer s H vs Q E hr h=>?_)
 ·obtain ⟨a,C,x,rfl,_⟩:=h
  rfl
 obtain ⟨a,C,x,rfl,ha,x0,hv,q⟩:=h;refine ⟨_,(kI (jQ (kHF rfl z vf (kH (pv 0) (kH (pv 1) kZ))))),?_⟩;exact ⟨_,rfl,_,rfl,a,C,none,_,rfl,ha,x0,hv,by simp,q⟩
theorem lQ {f:ag} {fd:fj} (F:Fun K "__init__" "Alike.__init__" zC f fd) (d:DrI P w K mg base):FnOk P w K mg base CX0 2 f fd ["self","places"] (wS K "places"):=by
 refine Fun.ok F lM (λ vs H Q E h=>?_) (λ cdv A outer s H vs Q E hr h=>?_)
 ·obtain ⟨a,C,x,rfl,_⟩:=h
  rfl
 obtain ⟨a,C,y,rfl,ha,x0,hv,n,q⟩:=h;obtain ⟨D,g,gd,G,b,kp,gm,h1,h2,h3⟩:=d;refine ⟨_,(kF (jQ (kHH rfl gm h1 h2 h3 kp G (hr.mono (by decide)) b (kH (pv 0) (kH jY kZ)))) (kI (kJQ (pv 0) (pv 1) rfl))),?_⟩;exact ⟨_,rfl,a,C,_,rfl,ha,x0,hv,_,rfl,_,rfl,a,C,rfl,ha,x0,n,λ d nd na=>q d nd na⟩
theorem dr (B:Fx):DrI P w K mg base:=kQY B.X B.xi B.xg (λ f fd F z=>kEB F z B.xg.vf) (λ f fd F=>F.binds (by intro _ _ _ _ _ _ us hl;obtain ⟨_,_,rfl⟩:=kHU hl;rfl))
theorem al (B:Fx):∃ (C D F:ag) (fd:fj),mg "Alike" = some (.ref C)/\mg "DrawError" = some (.ref D)/\XM K C F/\FnOk P w K mg base CX0 2 F fd ["self","places"] (wS K "places")/\Binds K fd ["self","places"] []/\ip K C (.type "ValueError")=some true/\ip K C (.ref D)=some true/\eV K (.ref C) "places" = some none :=
 kQE B.X B.o_Alike (dr B) (λ f fd F d=>lQ F d) (λ f fd F=>F.binds (by intro _ _ _ _ _ _ us hl;obtain ⟨_,_,rfl⟩:=kHU hl;rfl))
theorem kJO {C:ag} {y:V} {H:Hp} {E:XK} {attr:Str} (ve:ip K C (.type "ValueError")=some true) (na:eV K (.ref C) attr=some none) (x0:Ex.XK0 K C) (q:∀ d H',Same H H'->H' d=some (.xd [(attr,y)])->E (.ref C) (some d) H') :
  ∀ a,H a=none->wS K attr [.ref a,y] (upd H a (.ext (XO a C none .none))) (λ v H2=>v=.non/\oK K E (.ref a) H2) E0:=by
 refine λ a nx=>⟨a,C,y,rfl,kD,x0,ve,na,λ d nd da=>⟨rfl,a,C,some d,rfl,⟨kD,λ d' e=>?_⟩,x0,λ T nT nTa=>?_⟩⟩
 ·cases e
  exact ⟨_,by rw [kN da,kD]⟩
 ·have hd:upd (upd (upd H a (.ext (XO a C none .none))) d (.xd [(attr,y)])) a (.ext (XO a C (some d) .none)) d=some (.xd [(attr,y)]):=by rw [kN da,kD]
  refine q d _ (λ b o e=>?_) ?_
  ·have bx:b≠a:=kR e nx
   have e1:upd H a (.ext (XO a C none .none)) b=some o:=by rw [kN bx];exact e
   have bd:b≠d:=kR e1 nd;have e2:upd (upd (upd H a (.ext (XO a C none .none))) d (.xd [(attr,y)])) a (.ext (XO a C (some d) .none)) b=some o:=by rw [kN bx,kN bd];exact e1
   unfold tr2;rw [kN bx,kN (kR e2 nT)];exact e2
  ·unfold tr2
   rw [kN da,kN (kR hd nT)];exact hd
def hU (Ps:List Pt):Prop:=∀ (p q:Nat) (P:Pt),p<q->Ps[p]?=some P->Ps[q]?≠some P
inductive rG (vs:List V) (H:Hp) (Q:VK) (E:XK):Prop
 | mk:∀ (t:ag) (ps:List ag) (Ps:List Pt),(vs=[.ref t])->(H t=some (.tup (ps.map V.ref)))->(AllAt PtAt H ps Ps)->(Ps.length<=900)->(∀ H',Same H H'->hU Ps->Q .non H') ->
   (∀ (C d a:ag) (p q:Nat) (H':Hp),mg "Alike" = some (.ref C)->Same H H'->H' d=some (.xd [("places",.ref a)])->H' a=some (.tup [vn p,vn q])->Least Ps p q->E (.ref C) (some d) H')->rG vs H Q E
theorem vS (B:Fx):kOX P w K mg base "must_be_unlike" ["drawing"] 4 rG:=by
 refine kIC B.X B.d19 uH (λ f cdv A outer s H vs Q E nN hr h=>?_) (by intro _ _ _ _ h;cases h<;>(subst_vars;rfl)) (by intro _ _ _ _ _ _ us hl;obtain ⟨_,rfl⟩:=kKL hl;rfl);obtain ⟨C,D,F,fd,g_Alike,gD,m_Alike,f_Alike,b_Alike,ve,vd,na⟩:=al B
 refine ⟨_,(kF (pst 1 nN (pf (kHK B) hr (p1 (pv 0))))
   (kI (qP (kU cT (pv 1) jJ (kX _)) (kI (kHB (E:=E) (kHE m_Alike f_Alike (hr.mono (by decide)) rfl g_Alike b_Alike (by decide) (p1 (pv 1))) rfl rfl rfl rfl rfl)) qB))),?_⟩
 try dsimp only [qE]
 obtain ⟨t,ps,Ps,rfl,ht,hP,l9,kn,ke⟩:=h;refine ⟨_,rfl,t,ps,Ps,rfl,ht,hP,l9,λ H1 g1 no=>?_,λ a p q H1 g1 ha lst=>?_⟩
 ·refine ⟨_,rfl,rfl,_,rfl,?_⟩
  exact zQ (kn H1 g1 no)
 ·refine ⟨_,rfl,rfl,_,rfl,?_⟩
  refine wL ?_;exact ⟨_,rfl,kJO ve na m_Alike.x0 λ d H' g hd=>ke C d a p q H' g_Alike (g1.trans g) hd (g _ _ ha) lst⟩
open Mth Sca Geo
structure TieAt (H:Hp) (t p q:ag) (P Q:Pt):Prop where
 at_:H t=some (.tup [.ref p,.ref q])
 p:PtAt H p P
 q:PtAt H q Q
 zp:Sz 206 P
 zq:Sz 206 Q
 lp:Geo.Lw P
 lq:Geo.Lw Q
theorem TieAt.kept {H H':Hp} {t p q:ag} {P Q:Pt} (h:TieAt H t p q P Q) (g:Same H H'):TieAt H' t p q P Q:=⟨g _ _ h.at_,h.p.kept g,h.q.kept g,h.zp,h.zq,h.lp,h.lq⟩
inductive kBM (vs:List V) (H:Hp) (Q':VK) (Y:XK):Prop
 | mk:∀ (t u p q r s:ag) (P Q R S:Pt),(vs=[.ref t,.ref u])->(TieAt H t p q P Q)->(TieAt H u r s R S)->(∀ (x:ag) (H':Hp),Same H H'->H' x=some (.tup [.int (sgn (det P Q R)),.int (sgn (det P Q S))])->Q' (.ref x) H')->kBM vs H Q' Y
theorem fP (B:Fx):Hs "hands" ["one","other"] 3 (kBM):=by
 refine qC B.X B.d11 kGI λ f cdv A outer s H vs Q E nN hr h=>?_;obtain ⟨t,u,p,q,r,s,P,Q,R,S,rfl,T,U,k⟩:=h;refine ⟨_,(kI (kP (kY (p2 (pf (kCK B) hr (kH (pix kJ (pv 0) kC) (kH (pix kJ (pv 0) kC) (kH (pix kJ (pv 1) kC) kZ)))) (pf (kCK B) hr (kH (pix kJ (pv 0) kC) (kH (pix kJ (pv 0) kC) (kH (pix kJ (pv 1) kC) kZ)))))))),?_⟩
 try dsimp only [qE]
 have z1:=T.zp.up (C:=1000) (by decide);have z2:=T.zq.up (C:=1000) (by decide);have z3:=U.zp.up (C:=1000) (by decide);have z4:=U.zq.up (C:=1000) (by decide);refine ⟨_,rfl,t,_,_,_,rfl,rfl,SqT.of T.at_,at0,_,rfl,t,_,_,_,rfl,rfl,SqT.of T.at_,at1,_,rfl,u,_,_,_,rfl,rfl,SqT.of U.at_,at0,p,q,r,P,Q,R,rfl,T.p,T.q,U.p,z1,z2,z3,λ H1 g1=>?_⟩;have T1:=T.kept g1;have U1:=U.kept g1;refine ⟨_,rfl,t,_,_,_,rfl,rfl,SqT.of T1.at_,at0,_,rfl,t,_,_,_,rfl,rfl,SqT.of T1.at_,at1,_,rfl,u,_,_,_,rfl,rfl,SqT.of U1.at_,at1,p,q,s,P,Q,S,rfl,T1.p,T1.q,U1.q,z1,z2,z4,λ H2 g2=>?_⟩;exact ⟨yS2,λ x nx=>k x _ (g1.trans (g2.trans (kE nx _))) kD⟩
theorem kOO {A B C:Pt} (la:Geo.Lw A) (lb:Geo.Lw B) (lc:Geo.Lw C) {a0 a1 b0 b1 w0 w1 c0 c1 d0 d1 h0 h1 r0 r1:Int} (f1:Fr (A.n*C.d-C.n*A.d) (A.d*C.d) a0 a1) (f2:Fr (B.n*C.d-C.n*B.d) (B.d*C.d) b0 b1) (f3:Fr (a0*b0) (a1*b1) w0 w1)
  (g1:Fr (A.m*C.e-C.m*A.e) (A.e*C.e) c0 c1) (g2:Fr (B.m*C.e-C.m*B.e) (B.e*C.e) d0 d1) (g3:Fr (c0*d0) (c1*d1) h0 h1) (f7:Fr (w0*h1+h0*w1) (w1*h1) r0 r1):decide (sgn r0<0)=btwP C A B:=by
 have two:∀ {X1 X2 D1 D2 a0 a1 b0 b1 w0 w1:Int},Fr X1 D1 a0 a1->Fr X2 D2 b0 b1->Fr (a0*b0) (a1*b1) w0 w1->w0*(D1*D2)=X1*X2*w1:=λ {X1 X2 D1 D2 a0 a1 b0 b1 w0 w1} x y z=>by
  have e1:=x.eq;have e2:=y.eq;have e3:=z.eq;have pz1:=x.pos;have pz2:=y.pos
  have:(a1*b1)*(w0*(D1*D2))=(a1*b1)*(X1*X2*w1):=by
   have q:(a1*b1)*(w0*(D1*D2))=(w0*(a1*b1))*(D1*D2):=by grind
   rw [q,e3];have q:a0*b0*w1*(D1*D2)=(a0*D1)*(b0*D2)*w1:=by grind
   rw [q,e1,e2]
   grind
  exact eF (xU (bc pz1 pz2)) this
 have e1:=two f1 f2 f3;have e2:=two g1 g2 g3;have e3:=f7.eq;have wp:=f3.pos;have hp:=g3.pos;have rp:=f7.pos;have D1:0<A.d*C.d*(B.d*C.d):=bc (bc la.d lc.d) (bc lb.d lc.d);have D2:0<A.e*C.e*(B.e*C.e):=bc (bc la.e lc.e) (bc lb.e lc.e)
 have key:r0*(A.d*C.d*(B.d*C.d)*(A.e*C.e*(B.e*C.e)))=pU C A B*r1:=by
  unfold pU;generalize (A.n*C.d-C.n*A.d)*(B.n*C.d-C.n*B.d)=X at *;generalize (A.m*C.e-C.m*A.e)*(B.m*C.e-C.m*B.e)=Y at *;generalize A.d*C.d*(B.d*C.d)=U at *;generalize A.e*C.e*(B.e*C.e)=V at *
  have:(w1*h1)*(r0*(U*V))=(w1*h1)*((X*V+Y*U)*r1):=by
   have q:(w1*h1)*(r0*(U*V))=(r0*(w1*h1))*(U*V):=by grind
   rw [q,e3];have q:(w0*h1+h0*w1)*r1*(U*V)=((w0*U)*h1*V+(h0*V)*w1*U)*r1:=by grind
   rw [q,e1,e2]
   grind
  exact eF (xU (bc wp hp)) this
 unfold btwP;refine decide_eq_decide.mpr ?_;have s0:sgn r0<0↔r0<0:=by unfold sgn;split<;>(try split)<;>omega
 rw [s0,jB key (bc D1 D2)];exact (jB rfl rp).symm
inductive kLQ (vs:List V) (H:Hp) (Q':VK) (Y:XK):Prop
 | mk:∀ (c t p q:ag) (C P Q:Pt),(vs=[.ref c,.ref t])->(PtAt H c C)->(Sz 206 C)->(Geo.Lw C)->(TieAt H t p q P Q)->(∀ H':Hp,Same H H'->Q' (.bl (btwP C P Q)) H')->kLQ vs H Q' Y
theorem zN (B:Fx):Hs "lies_between" ["point","one"] 4 (kLQ):=by
 refine qC B.X B.d12 cF λ f cdv A outer s H vs Q E nN hr h=>?_;obtain ⟨c,t,p,q,C,P,Q,rfl,⟨cx,cy,hc,hcx,hcy⟩,⟨_,_,c1,c2,c3,c4⟩,lc,⟨ht,⟨px,py,hp,hpx,hpy⟩,⟨qx,qy,hq,hqx,hqy⟩,⟨pd,pe,pz1,pz2,pz3,pz4⟩,⟨qd,qe,q1,q2,q3,q4⟩,lp,lq⟩,k⟩:=h
 refine ⟨_,(kF (jX (pv 0) (jE (n:=2) rfl (kQ (pgn 2 nN) (kQ (pgn 3 nN) qJ))))
   (kF (jX (pv 1) (jE (n:=2) rfl (kQ (pgn 4 nN) (kQ (pgn 5 nN) qJ))))
   (kF (pst 6 nN (pf (sJ B) hr (p2 (pf (cU B) hr (p2 (pix kJ (pv 4) kC) (pv 2))) (pf (cU B) hr (p2 (pix kJ (pv 5) kC) (pv 2))))))
   (kF (pst 7 nN (pf (sJ B) hr (p2 (pf (cU B) hr (p2 (pix kJ (pv 4) kC) (pv 3))) (pf (cU B) hr (p2 (pix kJ (pv 5) kC) (pv 3))))))
   (kI (kP (jR wG (pf (kCJ B) hr (p1 (pf (kKA B) hr (p2 (pv 6) (pv 7))))) kC (kX _)))))))),?_⟩
 try dsimp only [qE]
 have u:∀ {i:Int},i.natAbs<2 ^ 206->i.natAbs<2 ^ 4000:=λ h=>up h (by decide);refine ⟨_,rfl,c,_,rfl,SqT.of hc,rfl,_,_,rfl,_,_,rfl,rfl,?_⟩;refine ⟨_,rfl,t,_,rfl,SqT.of ht,rfl,_,_,rfl,_,_,rfl,rfl,?_⟩;have nz:∀ {i j:Int},0<i->0<j->i*j≠0:=λ h1 h2=>xU (bc h1 h2)
 have bn:∀ {i j k l n d n' d':Int},Fr (i*j-k*l) (n*d) n' d'->i.natAbs<2 ^ 206->j.natAbs<2 ^ 206->k.natAbs<2 ^ 206->l.natAbs<2 ^ 206->n.natAbs<2 ^ 206->d.natAbs<2 ^ 206->n'.natAbs<2 ^ 413/\d'.natAbs<2 ^ 413:=λ f h1 h2 h3 h4 h5 h6 =>
  ⟨cj f.ln (qI (kL h1 h2) (kL h3 h4)),cj f.ld (up (kL h5 h6) (by decide))⟩
 have b4:∀ {i:Int},i.natAbs<2 ^ 413->i.natAbs<2 ^ 4000:=λ h=>up h (by decide)
 have b8:∀ {i j n d n' d':Int},Fr (i*j) (n*d) n' d'->i.natAbs<2 ^ 413->j.natAbs<2 ^ 413->n.natAbs<2 ^ 413->d.natAbs<2 ^ 413->n'.natAbs<2 ^ 4000/\d'.natAbs<2 ^ 4000:=λ f h1 h2 h3 h4 =>
  ⟨cj f.ln (up (kL h1 h2) (by decide)),cj f.ld (up (kL h3 h4) (by decide))⟩
 refine ⟨_,rfl,p,_,_,_,rfl,rfl,SqT.of hp,at0,_,rfl,px,cx,_,_,_,_,rfl,hpx,hcx,⟨u pz1,u pz2,u c1,u c2⟩,nz lp.d lc.d,λ a0 a1 ra H1 f1 g1 e1=>?_⟩;refine ⟨_,rfl,q,_,_,_,rfl,rfl,SqT.of (g1 _ _ hq),at0,_,rfl,qx,cx,_,_,_,_,rfl,g1 _ _ hqx,g1 _ _ hcx,⟨u q1,u q2,u c1,u c2⟩,nz lq.d lc.d,λ b0 b1 rb H2 f2 g2 e2=>?_⟩;obtain ⟨m1,m2⟩:=bn f1 pz1 c2 c1 pz2 pz2 c2;obtain ⟨m3,m4⟩:=bn f2 q1 c2 c1 q2 q2 c2;refine ⟨ra,rb,_,_,_,_,rfl,g2 _ _ e1,e2,⟨b4 m1,b4 m2,b4 m3,b4 m4⟩,nz f1.pos f2.pos,λ w0 w1 rw H3 f3 g3 e3=>?_⟩
 have gA:=g1.trans (g2.trans g3)
 refine ⟨_,rfl,p,_,_,_,rfl,rfl,SqT.of (gA _ _ hp),at1,_,rfl,py,cy,_,_,_,_,rfl,gA _ _ hpy,gA _ _ hcy,⟨u pz3,u pz4,u c3,u c4⟩,nz lp.e lc.e,λ c0 c1' rc H4 f4 g4 e4=>?_⟩;have gB:=gA.trans g4;refine ⟨_,rfl,q,_,_,_,rfl,rfl,SqT.of (gB _ _ hq),at1,_,rfl,qy,cy,_,_,_,_,rfl,gB _ _ hqy,gB _ _ hcy,⟨u q3,u q4,u c3,u c4⟩,nz lq.e lc.e,λ d0 d1 rd H5 f5 g5 e5=>?_⟩;obtain ⟨m5,m6⟩:=bn f4 pz3 c4 c3 pz4 pz4 c4;obtain ⟨m7,m8⟩:=bn f5 q3 c4 c3 q4 q4 c4;refine ⟨rc,rd,_,_,_,_,rfl,g5 _ _ e4,e5,⟨b4 m5,b4 m6,b4 m7,b4 m8⟩,nz f4.pos f5.pos,λ h0 h1 rh H6 f6 g6 e6=>?_⟩;obtain ⟨n1,n2⟩:=b8 f3 m1 m3 m2 m4;obtain ⟨n3,n4⟩:=b8 f6 m5 m7 m6 m8;refine ⟨_,rfl,_,rfl,rw,rh,_,_,_,_,rfl,(g4.trans (g5.trans g6)) _ _ e3,e6,⟨n1,n2,n3,n4⟩,nz f3.pos f6.pos,λ r0 r1 rr H7 f7 g7 e7=>?_⟩;refine ⟨rr,_,_,rfl,e7,_,_,rfl,rfl,?_⟩;have fin:=k _ (gB.trans (g5.trans (g6.trans g7)));rw [<-kOO lp lq lc f1 f2 f3 f4 f5 f6 f7] at fin;exact fin
open Mth Sca Geo
theorem ix2 {α:Type} {x y z:α} {i:Nat} (h:[x,y][i]?=some z):(i=0/\z=x)\/(i=1/\z=y):=by
 match i,h with
 | 0,h=>exact .inl ⟨rfl,by simpa using h.symm⟩
 | 1,h=>exact .inr ⟨rfl,by simpa using h.symm⟩
 | n+2,h=>simp at h
inductive kLO (vs:List V) (H:Hp) (Q':VK) (Y:XK):Prop
 | mk:∀ (t u p q r s:ag) (P Q R S:Pt),(vs=[.ref t,.ref u])->(TieAt H t p q P Q)->(TieAt H u r s R S)->(∀ H':Hp,Same H H'->Q' (.bl (lapP P Q R S)) H')->kLO vs H Q' Y
theorem fL (B:Fx):Hs "overlap" ["one","other"] 5 (kLO):=by
 refine qC B.X B.d13 tZ λ f cdv A outer s H vs Q E nN hr h=>?_;obtain ⟨t,u,p,q,r,s,P,Q,R,S,rfl,T,U,k⟩:=h;refine ⟨_,(kI (kP (kS (kFB rfl) rfl (B.z B.y10) Fp (p1 (kO vR (jL (Nc:=["end","other"]) (js:=[none,some 1]) rfl rfl (yN (pv 0)) (CS.of rfl rfl) rfl (λ C s₂ H₂ fp pins=>(pgc 0)) (λ C s₂ H₂ fp pins D L=>(jW (jN (pf (zN B) hr (p2 (pv 0) (pv 1))))))) (jL (Nc:=["end","one"]) (js:=[none,some 0]) rfl rfl (yN (pv 1)) (CS.of rfl rfl) rfl (λ C s₂ H₂ fp pins=>(pgc 0)) (λ C s₂ H₂ fp pins D L=>(jW (jN (pf (zN B) hr (p2 (pv 0) (pv 1)))))))))))),?_⟩
 try dsimp only [qE]
 refine ⟨_,rfl,t,rfl,⟨_,SqT.of T.at_⟩,λ D nD=>?_⟩;refine yQ (xs:=[.ref p,.ref q]) (λ n σ H1=>∃ (x:Option V),σ=[x,some (.ref u)]/\H1 D=some (.lst (([btwP P R S,btwP Q R S].take n).map V.bl))/\Same H H1) ⟨none,rfl,kD,kE nD _⟩ ?_ ?_ ?_
 ·rintro n σ H1 _ ⟨x,rfl,hD,g⟩
  exact SqT.of (g _ _ T.at_)
 ·rintro n x σ H1 hx ⟨y,rfl,hD,g⟩
  rcases ix2 hx with ⟨rfl,rfl⟩ | ⟨rfl,rfl⟩
  ·refine ⟨_,rfl,_,rfl,p,u,r,s,P,R,S,rfl,T.p.kept g,T.zp,T.lp,U.kept g,λ H2 g2=>⟨_,g2 _ _ hD,(by show 0<sizeLine;decide),_,rfl,kD,qQ nD (g.trans g2)⟩⟩
  ·refine ⟨_,rfl,_,rfl,q,u,r,s,Q,R,S,rfl,T.q.kept g,T.zq,T.lq,U.kept g,λ H2 g2=>⟨_,g2 _ _ hD,(by show 1<sizeLine;decide),_,rfl,kD,qQ nD (g.trans g2)⟩⟩
 ·rintro σ H1 ⟨x,rfl,hD,g⟩
  have U1:=U.kept g;have T1:=T.kept g;refine ⟨_,rfl,u,rfl,⟨_,SqT.of U1.at_⟩,λ D' nD'=>?_⟩;refine yQ (xs:=[.ref r,.ref s]) (λ n σ H2=>∃ (x:Option V),σ=[x,some (.ref t)]/\H2 D'=some (.lst (([btwP R P Q,btwP S P Q].take n).map V.bl))/\Same H1 H2) ⟨none,rfl,kD,kE nD' _⟩ ?_ ?_ ?_
  ·rintro n σ H2 _ ⟨x,rfl,hD',g'⟩
   exact SqT.of (g' _ _ U1.at_)
  ·rintro n x σ H2 hx ⟨y,rfl,hD',g'⟩
   rcases ix2 hx with ⟨rfl,rfl⟩ | ⟨rfl,rfl⟩
   ·refine ⟨_,rfl,_,rfl,r,t,p,q,R,P,Q,rfl,U1.p.kept g',U.zp,U.lp,T1.kept g',λ H3 g3=>⟨_,g3 _ _ hD',(by show 0<sizeLine;decide),_,rfl,kD,qQ nD' (g'.trans g3)⟩⟩
   ·refine ⟨_,rfl,_,rfl,s,t,p,q,S,P,Q,rfl,U1.q.kept g',U.zq,U.lq,T1.kept g',λ H3 g3=>⟨_,g3 _ _ hD',(by show 1<sizeLine;decide),_,rfl,kD,qQ nD' (g'.trans g3)⟩⟩
  ·rintro σ H2 ⟨x,rfl,hD',g'⟩
   refine ⟨D,D',_,_,rfl,rfl,g' _ _ hD,hD',yS4,λ l nl=>?_⟩;refine ⟨l,[btwP P R S,btwP Q R S,btwP R P Q,btwP S P Q],rfl,SqL.of kD,?_⟩;have fin:=k _ (g.trans (g'.trans (kE nl (.lst ([V.bl (btwP P R S),V.bl (btwP Q R S)]++[V.bl (btwP R P Q),V.bl (btwP S P Q)])))));rw [show lapP P Q R S=[btwP P R S,btwP Q R S,btwP R P Q,btwP S P Q].any id by simp [lapP]] at fin;exact fin
theorem kDA {P:Pt} (z:Sz 206 P):(P.n*P.e).natAbs<2 ^ 412/\(P.m*P.d).natAbs<2 ^ 412/\(P.d*P.e).natAbs<2 ^ 412:=by
 obtain ⟨_,_,z1,z2,z3,z4⟩:=z;exact ⟨kL z1 z4,kL z3 z2,kL z2 z4⟩
theorem kIU {i:Nat} {u v:Int×Int×Int} (h1:u.1.natAbs<2 ^ i) (h2:u.2.1.natAbs<2 ^ i) (h3:u.2.2.natAbs<2 ^ i) (k1:v.1.natAbs<2 ^ i) (k2:v.2.1.natAbs<2 ^ i) (k3:v.2.2.natAbs<2 ^ i) :
  (cr u v).1.natAbs<2 ^ (i+i+1)/\(cr u v).2.1.natAbs<2 ^ (i+i+1)/\(cr u v).2.2.natAbs<2 ^ (i+i+1) :=
 ⟨qI (kL h2 k3) (kL h3 k2),qI (kL h3 k1) (kL h1 k3),qI (kL h1 k2) (kL h2 k1)⟩
inductive dH (vs:List V) (H:Hp) (Q':VK) (Y:XK):Prop
 | mk:∀ (t u p q r s:ag) (P Q R S:Pt),(vs=[.ref t,.ref u])->(TieAt H t p q P Q)->(TieAt H u r s R S)->((xyz P Q R S).2.2≠0)->(∀ (x:ag) (X:Pt) (H':Hp),CrP P Q R S X->Sz 1700 X->Same H H'->PtAt H' x X->Q' (.ref x) H')->dH vs H Q' Y
theorem sN (B:Fx):Hs "crossing" ["one","other"] 3 (dH):=by
 refine qC B.X B.d14 sA λ f cdv A outer s H vs Q E nN hr h=>?_;obtain ⟨t,u,p,q,r,s,P,Q,R,S,rfl,T,U,z0,k⟩:=h
 refine ⟨_,(kF (pst 2 nN (pf (wU B) hr (p2 (pf (xE B) hr (p1 (pix kJ (pv 0) kC))) (pf (xE B) hr (p1 (pix kJ (pv 0) kC))))))
   (kF (pst 3 nN (pf (wU B) hr (p2 (pf (xE B) hr (p1 (pix kJ (pv 1) kC))) (pf (xE B) hr (p1 (pix kJ (pv 1) kC))))))
   (kF (jX (pf (wU B) hr (p2 (pv 2) (pv 3))) (jE (n:=3) rfl (kQ (pgn 4 nN) (kQ (pgn 5 nN) (kQ (pgn 6 nN) qJ)))))
   (kI (kP (kY (p2 (pf (xH B) hr (p2 (pv 4) (pv 6))) (pf (xH B) hr (p2 (pv 5) (pv 6)))))))))),?_⟩
 try dsimp only [qE]
 have z1:=T.zp.up (C:=1000) (by decide);have z2:=T.zq.up (C:=1000) (by decide);have z3:=U.zp.up (C:=1000) (by decide);have z4:=U.zq.up (C:=1000) (by decide);obtain ⟨pz1,pz2,pz3⟩:=kDA T.zp;obtain ⟨q1,q2,q3⟩:=kDA T.zq;obtain ⟨r1,r2,r3⟩:=kDA U.zp;obtain ⟨s1,s2,s3⟩:=kDA U.zq;have v4:∀ {i:Int},i.natAbs<2 ^ 412->i.natAbs<2 ^ 4000:=λ h=>up h (by decide)
 have v8:∀ {i:Int},i.natAbs<2 ^ (412+412+1)->i.natAbs<2 ^ 4000:=λ h=>up h (by decide)
 refine ⟨_,rfl,t,_,_,_,rfl,rfl,SqT.of T.at_,at0,p,P,rfl,T.p,z1,λ a1 n1=>?_⟩;have g1:=kE n1 (.tup [.int (P.n*P.e),.int (P.m*P.d),.int (P.d*P.e)]);refine ⟨_,rfl,t,_,_,_,rfl,rfl,SqT.of (g1 _ _ T.at_),at1,q,Q,rfl,T.q.kept g1,z2,λ a2 n2=>?_⟩;have g2:=kE n2 (.tup [.int (Q.n*Q.e),.int (Q.m*Q.d),.int (Q.d*Q.e)]);refine ⟨a1,a2,_,_,_,_,_,_,rfl,g2 _ _ kD,kD,⟨v4 pz1,v4 pz2,v4 pz3,v4 q1,v4 q2,v4 q3⟩,λ b1 m1=>?_⟩;have g3:=kE m1 (.tup [.int (P.m*P.d*(Q.d*Q.e)-P.d*P.e*(Q.m*Q.d)),.int (P.d*P.e*(Q.n*Q.e)-P.n*P.e*(Q.d*Q.e)),.int (P.n*P.e*(Q.m*Q.d)-P.m*P.d*(Q.n*Q.e))]);have gA:=(g1.trans g2).trans g3;have hb1:=kD (H:=upd (upd H a1 (.tup [.int (P.n*P.e),.int (P.m*P.d),.int (P.d*P.e)])) a2 (.tup [.int (Q.n*Q.e),.int (Q.m*Q.d),.int (Q.d*Q.e)])) (a:=b1) (o:=.tup [.int (P.m*P.d*(Q.d*Q.e)-P.d*P.e*(Q.m*Q.d)),.int (P.d*P.e*(Q.n*Q.e)-P.n*P.e*(Q.d*Q.e)),.int (P.n*P.e*(Q.m*Q.d)-P.m*P.d*(Q.n*Q.e))]);generalize upd (upd (upd H a1 (.tup [.int (P.n*P.e),.int (P.m*P.d),.int (P.d*P.e)])) a2 (.tup [.int (Q.n*Q.e),.int (Q.m*Q.d),.int (Q.d*Q.e)])) b1 (.tup [.int (P.m*P.d*(Q.d*Q.e)-P.d*P.e*(Q.m*Q.d)),.int (P.d*P.e*(Q.n*Q.e)-P.n*P.e*(Q.d*Q.e)),.int (P.n*P.e*(Q.m*Q.d)-P.m*P.d*(Q.n*Q.e))])=HA at *;clear g1 g2 g3 n1 n2 m1
 have U1:=U.kept gA
 refine ⟨_,rfl,u,_,_,_,rfl,rfl,SqT.of U1.at_,at0,r,R,rfl,U1.p,z3,λ a3 n3=>?_⟩;have g4:=kE n3 (.tup [.int (R.n*R.e),.int (R.m*R.d),.int (R.d*R.e)]);refine ⟨_,rfl,u,_,_,_,rfl,rfl,SqT.of (g4 _ _ U1.at_),at1,s,S,rfl,U1.q.kept g4,z4,λ a4 n4=>?_⟩;have g5:=kE n4 (.tup [.int (S.n*S.e),.int (S.m*S.d),.int (S.d*S.e)]);refine ⟨a3,a4,_,_,_,_,_,_,rfl,g5 _ _ kD,kD,⟨v4 r1,v4 r2,v4 r3,v4 s1,v4 s2,v4 s3⟩,λ b2 m2=>?_⟩;have g6:=kE m2 (.tup [.int (R.m*R.d*(S.d*S.e)-R.d*R.e*(S.m*S.d)),.int (R.d*R.e*(S.n*S.e)-R.n*R.e*(S.d*S.e)),.int (R.n*R.e*(S.m*S.d)-R.m*R.d*(S.n*S.e))]);have gB:=(g4.trans g5).trans g6;have hb2:=kD (H:=upd (upd HA a3 (.tup [.int (R.n*R.e),.int (R.m*R.d),.int (R.d*R.e)])) a4 (.tup [.int (S.n*S.e),.int (S.m*S.d),.int (S.d*S.e)])) (a:=b2) (o:=.tup [.int (R.m*R.d*(S.d*S.e)-R.d*R.e*(S.m*S.d)),.int (R.d*R.e*(S.n*S.e)-R.n*R.e*(S.d*S.e)),.int (R.n*R.e*(S.m*S.d)-R.m*R.d*(S.n*S.e))]);generalize upd (upd (upd HA a3 (.tup [.int (R.n*R.e),.int (R.m*R.d),.int (R.d*R.e)])) a4 (.tup [.int (S.n*S.e),.int (S.m*S.d),.int (S.d*S.e)])) b2 (.tup [.int (R.m*R.d*(S.d*S.e)-R.d*R.e*(S.m*S.d)),.int (R.d*R.e*(S.n*S.e)-R.n*R.e*(S.d*S.e)),.int (R.n*R.e*(S.m*S.d)-R.m*R.d*(S.n*S.e))])=HB at *;clear g4 g5 g6 n3 n4 m2;obtain ⟨w1,w2,w3⟩:=kIU (u:=c3 P) (v:=c3 Q) pz1 pz2 pz3 q1 q2 q3;obtain ⟨x1,x2,x3⟩:=kIU (u:=c3 R) (v:=c3 S) r1 r2 r3 s1 s2 s3;refine ⟨_,rfl,_,rfl,b1,b2,_,_,_,_,_,_,rfl,gB _ _ hb1,hb2,⟨v8 w1,v8 w2,v8 w3,v8 x1,v8 x2,v8 x3⟩,λ b3 m3=>?_⟩;have g7:=kE m3 (.tup [.int (xyz P Q R S).1,.int (xyz P Q R S).2.1,.int (xyz P Q R S).2.2]);refine ⟨b3,_,rfl,SqT.of kD,rfl,_,_,rfl,_,_,rfl,_,_,rfl,rfl,?_⟩;obtain ⟨y1,y2,y3⟩:=kIU (u:=cr (c3 P) (c3 Q)) (v:=cr (c3 R) (c3 S)) w1 w2 w3 x1 x2 x3;have v9:∀ {i:Int},i.natAbs<2 ^ (412+412+1+(412+412+1)+1)->i.natAbs<2 ^ 9000:=λ h=>up h (by decide);have v17:∀ {i:Int},i.natAbs<2 ^ (412+412+1+(412+412+1)+1)->i.natAbs<2 ^ 1700:=λ h=>up h (by decide);refine ⟨_,rfl,_,rfl,(xyz P Q R S).1,(xyz P Q R S).2.2,rfl,z0,v9 y3,λ n1 d1 o1 H8 f1 g8 e1=>?_⟩;refine ⟨_,rfl,_,rfl,(xyz P Q R S).2.1,(xyz P Q R S).2.2,rfl,z0,v9 y3,λ n2 d2 o2 H9 f2 g9 e2=>⟨yS2,λ x nx=>?_⟩⟩;have g10:=kE nx (.tup [.ref o1,.ref o2]);refine k x ⟨n1,d1,n2,d2⟩ _ ⟨f1,f2⟩ ⟨f1.pos,f2.pos,cj f1.ln (v17 y1),cj f1.ld (v17 y3),cj f2.ln (v17 y2),cj f2.ld (v17 y3)⟩ (gA.trans (gB.trans (g7.trans (g8.trans (g9.trans g10))))) ⟨o1,o2,kD,g10 _ _ (g9 _ _ e1),g10 _ _ e2⟩
open Mth Sca Geo
theorem dt2 {K:ai} {H:Hp} {z:ag} {i j:Int} (e:H z=some (.tup [.int i,.int j])):Dt K H (.tuple [.int i,.int j]) (.ref z):=by
 unfold Dt;refine ⟨z,_,rfl,SqT.of e,?_⟩;unfold DtAll;refine ⟨_,_,rfl,(by unfold Dt;rfl),?_⟩;unfold DtAll;refine ⟨_,_,rfl,(by unfold Dt;rfl),?_⟩;unfold DtAll
 rfl
theorem sh2 (i j:Int):iB (.tuple [.int i,.int j])=true:=by
 simp [iB,iJ,eX,jb,iS]
theorem kOH (a b c d:Int):eW (.tuple [.int a,.int b]) (.tuple [.int c,.int d])=decide (a=c/\b=d):=by
 rw [iH];simp [eW,qq]
theorem kQM (a b:Int):inV (.int 0) [.int a,.int b]=decide (a=0\/b=0):=by
 rw [iH];simp [inV,eqV]
theorem kIJ (a b:Int) (h:a=0\/b=0):aS [a,b] 0 (if a=0 then 0 else 1):=by
 by_cases c:a=0
 ·rw [if_pos c]
  refine ⟨by simp [c],λ i hi=>absurd hi (by omega)⟩
 ·rw [if_neg c]
  have hb:b=0:=h.elim (λ z=>absurd z c) id;refine ⟨by simp [hb],λ i hi=>?_⟩;obtain rfl:i=0:=by omega
  simpa using c
theorem kBT (x y:Int):(-(2 ^ 64)<sgn x/\sgn x<2 ^ 64):=by
 rcases kDR x with e | e | e<;>rw [e]<;>decide
def lE (H:Hp) (v:V) (P Q R S:Pt):Prop :=
 match metO P Q R S with
 | .no=>v=.non
 | .over=>∃ a,v=.ref a/\H a=some (.tup [.str "over",.non])
 | .touch X=>∃ a x,v=.ref a/\H a=some (.tup [.str "touch",.ref x])/\PtAt H x X
 | .cross=>∃ a x X,v=.ref a/\H a=some (.tup [.str "cross",.ref x])/\PtAt H x X/\CrP P Q R S X/\Sz 1700 X
inductive kLN (vs:List V) (H:Hp) (Q':VK) (Y:XK):Prop
 | mk:∀ (t u p q r s:ag) (P Q R S:Pt),(vs=[.ref t,.ref u])->(TieAt H t p q P Q)->(TieAt H u r s R S)->(Four P Q R S)->(∀ (v:V) (H':Hp),Same H H'->lE H' v P Q R S->Q' v H')->kLN vs H Q' Y
theorem kNO (B:Fx):Hs "met" ["one","other"] 6 (kLN):=by
 refine qC B.X B.d15 kNB λ f cdv A outer s H vs Q_ E nN hr h=>?_;obtain ⟨t,u,p,q,r,s,P,Q,R,S,rfl,T,U,F4,k⟩:=h
 refine ⟨_,(kF (pst 2 nN (pf (fP B) hr (p2 (pv 0) (pv 1))))
   (kF (qP (kU (oU hr.units) (pv 2) (kY (p2 kC kC)) (kX _)) (kI (kP (xW (jT (pf (fL B) hr (p2 (pv 0) (pv 1)))) (kY (p2 jY jJ)) jJ))) qB)
   (kF (pst 3 nN (pf (fP B) hr (p2 (pv 1) (pv 0))))
   (kF (qP (PW.pt (kCE (kU uP (kO vP (pix kJ (pv 2) kC) (pix kJ (pv 2) kC)) kC (kX _)) (oN (kU uP (kO vP (pix kJ (pv 3) kC) (pix kJ (pv 3) kC)) kC (kX _))))) (kI (kP jJ)) qB)
   (kF (qP (kU yW kC (pv 2) rfl) (kI (kP (kY (p2 jY (pix kJ (pv 1) (kHI BO BP BQ mQ (pv 2) (p1 kC))))))) qB)
   (kF (qP (kU yW kC (pv 3) rfl) (kI (kP (kY (p2 jY (pix kJ (pv 0) (kHI BO BP BQ mQ (pv 3) (p1 kC))))))) qB)
   (kI (kP (kY (p2 jY (pf (sN B) hr (p2 (pv 0) (pv 1))))))))))))),?_⟩
 try dsimp only [qE]
 refine ⟨_,rfl,_,rfl,t,u,p,q,r,s,P,Q,R,S,rfl,T,U,λ hh H1 g1 eh=>?_⟩;refine ⟨_,rfl,yS2,λ z nz=>⟨_,_,dt2 ((kE nz _) _ _ eh),dt2 kD,sh2 _ _,sh2 _ _,_,rfl,?_⟩⟩;have g2:=g1.trans (kE nz (.tup [.int 0,.int 0]));have eh2:=(kE nz (.tup [.int 0,.int 0])) _ _ eh;generalize upd H1 z (.tup [.int 0,.int 0])=H2 at *;have T2:=T.kept g2;have U2:=U.kept g2;rw [if_neg (show ¬ (false=true) by decide),kOH];refine jC (λ c=>?_) (λ c=>?_)
 ·have c':=of_decide_eq_true c
  refine ⟨_,rfl,_,rfl,t,u,p,q,r,s,P,Q,R,S,rfl,T2,U2,λ H3 g3=>⟨_,rfl,?_⟩⟩;refine jC (λ l=>?_) (λ l=>?_)
  ·refine ⟨yS2,λ a na=>k _ _ (g2.trans (g3.trans (kE na _))) ?_⟩
   unfold lE metO;rw [if_pos c',if_pos l];exact ⟨a,rfl,kD⟩
  ·refine k _ _ (g2.trans g3) ?_
   unfold lE metO;rw [if_pos c',if_neg l]
 ·have c':¬ (sgn (det P Q R)=0/\sgn (det P Q S)=0):=λ z=>c (decide_eq_true z)
  refine ⟨_,rfl,_,rfl,u,t,r,s,p,q,R,S,P,Q,rfl,U2,T2,λ th H3 g3 et=>?_⟩;have eh3:=g3 _ _ eh2;have g13:=g2.trans g3;have T3:=T2.kept g3;have U3:=U2.kept g3
  have stop:0<sgn (det P Q R)*sgn (det P Q S)\/0<sgn (det R S P)*sgn (det R S Q)->Q_ .non H3:=λ z=>by
   refine k _ _ g13 ?_;unfold lE metO;rw [if_neg c',if_pos z]
  refine ⟨_,rfl,hh,_,_,_,rfl,rfl,SqT.of eh3,at0,_,rfl,hh,_,_,_,rfl,rfl,SqT.of eh3,at1,_,_,rfl,rfl,.inl (kBT _ 0),_,_,rfl,rfl,_,rfl,?_⟩;refine jC (λ c1=>stop (.inl (of_decide_eq_true c1))) (λ c1=>?_);refine ⟨_,rfl,th,_,_,_,rfl,rfl,SqT.of et,at0,_,rfl,th,_,_,_,rfl,rfl,SqT.of et,at1,_,_,rfl,rfl,.inl (kBT _ 0),_,_,rfl,rfl,_,rfl,?_⟩;refine jC (λ c2=>stop (.inr (of_decide_eq_true c2))) (λ c2=>?_);have c3:¬ (0<sgn (det P Q R)*sgn (det P Q S)\/0<sgn (det R S P)*sgn (det R S Q)):=λ z=>z.elim (λ z=>c1 (decide_eq_true z)) λ z=>c2 (decide_eq_true z);refine ⟨_,rfl,hh,_,rfl,.inr (SqT.of eh3),rfl,rfl,_,rfl,?_⟩;rw [if_neg (show ¬ (false=true) by decide),kQM]
  have pick:∀ {a b:ag} {m n:Int} {w:ag} {H4:Hp},H4 w=some (.tup [.ref a,.ref b])->atI [V.ref a,V.ref b] ((if m=0 then 0 else 1:Nat):Int)=some (.ref (if m=0 then a else b)):=λ {a b m n w H4} e=>by
   by_cases z:m=0
   ·simp only [if_pos z];rfl
   ·simp only [if_neg z];rfl
  refine jC (λ d1=>?_) (λ d1=>?_)
  ·have d1':=of_decide_eq_true d1
   refine ⟨_,rfl,_,rfl,.inr (.inl ⟨rfl,.inr ⟨_,eh3⟩⟩),hh,[sgn (det P Q R),sgn (det P Q S)],0,_,rfl,rfl,SqT.of eh3,kIJ _ _ d1',u,_,_,_,rfl,rfl,SqT.of U3.at_,pick (n:=0) U3.at_,yS2,λ a na=>k _ _ (g13.trans (kE na _)) ?_⟩;unfold lE metO;rw [if_neg c',if_neg c3];by_cases z:sgn (det P Q R)=0
   ·rw [if_pos z]
    simp only [if_pos z];exact ⟨a,r,rfl,kD,U3.p.kept (kE na _)⟩
   ·rw [if_neg z,if_pos (d1'.elim (λ y=>absurd y z) id)]
    simp only [if_neg z];exact ⟨a,s,rfl,kD,U3.q.kept (kE na _)⟩
  ·have h0:sgn (det P Q R)≠0:=λ z=>d1 (decide_eq_true (.inl z))
   have h1:sgn (det P Q S)≠0:=λ z=>d1 (decide_eq_true (.inr z));refine ⟨_,rfl,th,_,rfl,.inr (SqT.of et),rfl,rfl,_,rfl,?_⟩;rw [if_neg (show ¬ (false=true) by decide),kQM];refine jC (λ d2=>?_) (λ d2=>?_)
   ·have d2':=of_decide_eq_true d2
    refine ⟨_,rfl,_,rfl,.inr (.inl ⟨rfl,.inr ⟨_,et⟩⟩),th,[sgn (det R S P),sgn (det R S Q)],0,_,rfl,rfl,SqT.of et,kIJ _ _ d2',t,_,_,_,rfl,rfl,SqT.of T3.at_,pick (n:=0) T3.at_,yS2,λ a na=>k _ _ (g13.trans (kE na _)) ?_⟩;unfold lE metO;rw [if_neg c',if_neg c3,if_neg h0,if_neg h1];by_cases z:sgn (det R S P)=0
    ·rw [if_pos z]
     simp only [if_pos z];exact ⟨a,p,rfl,kD,T3.p.kept (kE na _)⟩
    ·rw [if_neg z,if_pos (d2'.elim (λ y=>absurd y z) id)]
     simp only [if_neg z];exact ⟨a,q,rfl,kD,T3.q.kept (kE na _)⟩
   ·have k0:sgn (det R S P)≠0:=λ z=>d2 (decide_eq_true (.inl z))
    have k1:sgn (det R S Q)≠0:=λ z=>d2 (decide_eq_true (.inr z))
    have em:metO P Q R S=.cross:=by
     unfold metO;rw [if_neg c',if_neg c3,if_neg h0,if_neg h1,if_neg k0,if_neg k1]
    refine ⟨_,rfl,_,rfl,t,u,p,q,r,s,P,Q,R,S,rfl,T3,U3,(F4.crossing em).1,λ x X H4 cX zX g4 hX=>⟨yS2,λ a na=>k _ _ (g13.trans (g4.trans (kE na _))) ?_⟩⟩;unfold lE;rw [em];exact ⟨a,x,X,rfl,kD,hX.kept (kE na _),cX,zX⟩
open Mth Sca
def kOS (H:Hp) (a:ag) (row:List Nat):Prop:=H a=some (.tup (row.map vn))
def WAt (H:Hp) (t:ag) (W:List (List Nat)):Prop:=∃ ts:List ag,H t=some (.tup (ts.map V.ref))/\AllAt kOS H ts W
def DAt (H:Hp) (t:ag) (Ps:List Pt):Prop:=∃ ps:List ag,H t=some (.tup (ps.map V.ref))/\AllAt PtAt H ps Ps
theorem WAt.kept {H H':Hp} {t:ag} {W:List (List Nat)} (h:WAt H t W) (g:Same H H'):WAt H' t W:=by
 obtain ⟨ts,a,b⟩:=h;exact ⟨ts,g _ _ a,b.imp λ p x z=>g _ _ z⟩
theorem DAt.kept {H H':Hp} {t:ag} {Ps:List Pt} (h:DAt H t Ps) (g:Same H H'):DAt H' t Ps:=by
 obtain ⟨ts,a,b⟩:=h;exact ⟨ts,g _ _ a,b.imp λ p x z=>z.kept g⟩
def pt (Ps:List Pt) (i:Nat):Pt:=Ps.getD i ⟨0,1,0,1⟩
theorem kQA {Ps:List Pt} {i:Nat} {P:Pt} (e:Ps[i]?=some P):pt Ps i=P:=by unfold pt;rw [fg,e];rfl
theorem bR {Ps:List Pt} {i:Nat} (h:i<Ps.length):Ps[i]?=some (pt Ps i):=by rw [ao h,kQA (ao h)]
def lF (Ps:List Pt):Prop:=∀ P∈Ps,Lw P/\Sz 206 P
theorem glw {P:Pt} (h:Lw P):Geo.Lw P:=⟨h.1,h.2.1,h.2.2.1,h.2.2.2⟩
inductive MO
 | no | over | touch (p:Nat) | cross (X:Pt)
noncomputable def cN (Ps:List Pt) (a b c d:Nat):MO :=
 if Geo.overP (pt Ps a) (pt Ps b) (pt Ps c) (pt Ps d) then .over else if Geo.withinP (pt Ps c) (pt Ps a) (pt Ps b) then .touch c else if Geo.withinP (pt Ps d) (pt Ps a) (pt Ps b) then .touch d
 else if Geo.withinP (pt Ps a) (pt Ps c) (pt Ps d) then .touch a else if Geo.withinP (pt Ps b) (pt Ps c) (pt Ps d) then .touch b
 else if sgn (det (pt Ps a) (pt Ps b) (pt Ps c))*sgn (det (pt Ps a) (pt Ps b) (pt Ps d))<0/\sgn (det (pt Ps c) (pt Ps d) (pt Ps a))*sgn (det (pt Ps c) (pt Ps d) (pt Ps b))<0 then .cross (Geo.crP (pt Ps a) (pt Ps b) (pt Ps c) (pt Ps d)) else .no
def sU (P R S:Pt):Bool:=decide (sgn (det P R S)=0) && decide (Geo.aheadP P R=Geo.aheadP P S)
def gH (P R S:Pt):MO:=if sU P R S then .over else .no
noncomputable def xJ (Ps:List Pt) (t u:Nat×Nat):MO :=
 if t.1=u.1 then gH (pt Ps t.1) (pt Ps t.2) (pt Ps u.2) else if t.1=u.2 then gH (pt Ps t.1) (pt Ps t.2) (pt Ps u.1)
 else if t.2=u.1 then gH (pt Ps t.2) (pt Ps t.1) (pt Ps u.2) else if t.2=u.2 then gH (pt Ps t.2) (pt Ps t.1) (pt Ps u.1)
 else cN Ps t.1 t.2 u.1 u.2
def MOAt (H:Hp) (v:V):MO->Prop
 | .no=>v=.non
 | .over=>∃ a,v=.ref a/\H a=some (.tup [.str "over",.non])
 | .touch p=>∃ a,v=.ref a/\H a=some (.tup [.str "touch",vn p])
 | .cross X=>∃ a x,v=.ref a/\H a=some (.tup [.str "cross",.ref x])/\PtAt H x X
theorem pG (s:Nat) (row:List Nat):inV (vn s) (row.map vn)=decide (s∈row):=by
 unfold inV;rw [iH,BX,decide_eq_true_iff];constructor
 ·rintro ⟨x,hx,e⟩
  obtain ⟨n,hn,rfl⟩:=yt.mp hx;have:((n:Int) == (s:Int))=true:=e
  have:n=s:=by
   have:=eq_of_beq this;omega
  subst this;exact hn
 ·intro h
  exact ⟨vn s,yt.mpr ⟨s,h,rfl⟩,(beq_self_eq_true (s:Int))⟩
theorem cZ (row:List Nat):(row.map vn).all aF=true:=by
 rw [List.all_map,BW];intro x _
 rfl
theorem kIK (P0 R:Pt):eW (ptD P0) (ptD R)=true↔P0=R:=by
 cases P0
 cases R
 simp [ptD,eW,qq,and_assoc]
theorem xK {Ps:List Pt} (no:hU Ps) {i j:Nat} (hi:i<Ps.length) (hj:j<Ps.length) (h:i≠j):pt Ps i≠pt Ps j:=λ e=>by
 rcases Nat.lt_or_gt_of_ne h with l | l
 ·exact no i j _ l (bR hi) (by rw [bR hj,e])
 ·exact no j i _ l (bR hj) (by rw [bR hi,e])
theorem cV {P Q S:Pt} (lp:Geo.Lw P) (lq:Geo.Lw Q) (ls:Geo.Lw S) (pq:P≠Q) (ps:P≠S) (qs:Q≠S):(decide (sgn (det P Q S)=0) && (Geo.btwP Q P S || Geo.btwP S P Q))=sU P Q S:=by
 unfold sU;by_cases c:sgn (det P Q S)=0
 ·rw [Geo.joined lp lq ls pq ps qs c]
 ·rw [decide_eq_false c,kh,kh]
theorem kJH:sgn 0=0:=rfl
theorem kLS {x:Int}:sgn (-x)=0↔sgn x=0:=by rw [cR];omega
theorem kKN {Ps:List Pt} {T U:Nat×Nat} (no:hU Ps) (lw:∀ i,i<Ps.length->Geo.Lw (pt Ps i)) (tl:T.1<T.2) (ul:U.1<U.2) (ne:T≠U) (tb:T.2<Ps.length) (ub:U.2<Ps.length) (h:T.1=U.1\/T.1=U.2\/T.2=U.1\/T.2=U.2) :
  (if decide (sgn (det (pt Ps T.1) (pt Ps T.2) (pt Ps U.1))=0/\sgn (det (pt Ps T.1) (pt Ps T.2) (pt Ps U.2))=0) && Geo.lapP (pt Ps T.1) (pt Ps T.2) (pt Ps U.1) (pt Ps U.2) then MO.over else .no)=xJ Ps T U:=by
 obtain ⟨a,b⟩:=T;obtain ⟨c,d⟩:=U;dsimp only at *;have la:=lw a (by omega);have lb:=lw b tb;have lc:=lw c (by omega);have ld:=lw d ub;have nab:=xK no (by omega) tb (show a≠b by omega);have cyc:∀ A B:Pt,det A B A=0:=λ A B=>by rw [kKU A A B];exact kIQ A B
 unfold xJ gH;dsimp only;by_cases c1:a=c
 ·subst c1
  have bd:b≠d:=λ z=>ne (by rw [z]);rw [if_pos rfl,<-cV la lb ld nab (xK no (by omega) ub (by omega)) (xK no tb ub bd),cyc,Geo.lap_pp];simp only [kJH,true_and]
 rw [if_neg c1];by_cases c2:a=d
 ·subst c2
  rw [if_pos rfl,<-cV la lb lc nab (xK no (by omega) (by omega) (by omega)) (xK no tb (by omega) (by omega)),cyc,Geo.lap_pq];simp only [kJH,and_true]
 rw [if_neg c2];by_cases c3:b=c
 ·subst c3
  rw [if_pos rfl,<-cV lb la ld nab.symm (xK no tb ub (by omega)) (xK no (by omega) ub (by omega)),nF,Geo.lap_qp,wM];simp only [kJH,true_and,kLS]
 rw [if_neg c3];have c4:b=d:=by omega
 subst c4;rw [if_pos rfl,<-cV lb la lc nab.symm (xK no tb (by omega) (by omega)) (xK no (by omega) (by omega) (by omega)),nF,Geo.lap_qq,wM];simp only [kJH,and_true,kLS]
theorem kQW (Ps:List Pt) (a b c d:Nat):match Geo.dueO (pt Ps a) (pt Ps b) (pt Ps c) (pt Ps d) with
  | .no=>cN Ps a b c d=.no
  | .over=>cN Ps a b c d=.over
  | .touch X=>∃ n,cN Ps a b c d=.touch n/\pt Ps n=X/\n∈[a,b,c,d]
  | .cross=>cN Ps a b c d=.cross (Geo.crP (pt Ps a) (pt Ps b) (pt Ps c) (pt Ps d)):=by
 unfold Geo.dueO cN
 cases Geo.overP (pt Ps a) (pt Ps b) (pt Ps c) (pt Ps d)
 ·cases Geo.withinP (pt Ps c) (pt Ps a) (pt Ps b)
  ·cases Geo.withinP (pt Ps d) (pt Ps a) (pt Ps b)
   ·cases Geo.withinP (pt Ps a) (pt Ps c) (pt Ps d)
    ·cases Geo.withinP (pt Ps b) (pt Ps c) (pt Ps d)
     ·by_cases h:sgn (det (pt Ps a) (pt Ps b) (pt Ps c))*sgn (det (pt Ps a) (pt Ps b) (pt Ps d))<0/\sgn (det (pt Ps c) (pt Ps d) (pt Ps a))*sgn (det (pt Ps c) (pt Ps d) (pt Ps b))<0
      ·simp [h]
      ·simp [h]
     ·exact ⟨b,rfl,rfl,by simp⟩
    ·exact ⟨a,rfl,rfl,by simp⟩
   ·exact ⟨d,rfl,rfl,by simp⟩
  ·exact ⟨c,rfl,rfl,by simp⟩
 ·rfl
theorem nB {α:Type} (f:α->Bool) {l:List α} {i:Nat} {m:α} (e:l[i]?=some m):(l.take (i+1)).filter f=(l.take i).filter f++(if f m=true then [m] else []):=by
 rw [yq,e,ua,vy]
 congr 1
 by_cases c:f m=true
 ·rw [if_pos c,List.filter_cons_of_pos c];rfl
 ·rw [if_neg c,List.filter_cons_of_neg c];rfl
theorem kCU {α:Type} (f:α->Bool) (l:List α) (i:Nat):((l.take i).filter f).length<=l.length:=gk (mw ..) (CT ..)
inductive dG (vs:List V) (H:Hp) (Q':VK) (Y:XK):Prop
 | mk:∀ (t u p q r s:ag) (P Q R S:Pt),(vs=[.ref t,.ref u])->(TieAt H t p q P Q)->(TieAt H u r s R S)->(∀ (v:V) (H':Hp),Same H H'->MOAt H' v (if decide (sgn (det P Q R)=0/\sgn (det P Q S)=0) && Geo.lapP P Q R S then .over else .no)->Q' v H')->dG vs H Q' Y
theorem lO (B:Fx):Hs "joined_met" ["one","other"] 6 (dG):=by
 refine qC B.X B.d16 lL λ f cdv A outer s H vs Q_ E nN hr h=>?_;obtain ⟨t,u,p,q,r,s,P,Q,R,S,rfl,T,U,k⟩:=h;refine ⟨_,(kI (kP (xW (PW.pt (wC (kU (oU hr.units) (pf (fP B) hr (p2 (pv 0) (pv 1))) (kY (p2 kC kC)) (kX _)) (zD (jT (pf (fL B) hr (p2 (pv 0) (pv 1))))))) (kY (p2 jY jJ)) jJ))),?_⟩
 try dsimp only [qE]
 refine ⟨_,rfl,_,rfl,t,u,p,q,r,s,P,Q,R,S,rfl,T,U,λ hh H1 g1 eh=>?_⟩;refine ⟨yS2,λ z nz=>⟨_,_,dt2 ((kE nz _) _ _ eh),dt2 kD,sh2 _ _,sh2 _ _,_,rfl,?_⟩⟩;have g2:=g1.trans (kE nz (.tup [.int 0,.int 0]));generalize upd H1 z (.tup [.int 0,.int 0])=H2 at *;have T2:=T.kept g2;have U2:=U.kept g2;rw [if_neg (show ¬ (false=true) by decide),kOH];refine jC (λ c=>?_) (λ c=>?_)
 ·rw [c,ud] at k
  refine ⟨_,rfl,_,rfl,t,u,p,q,r,s,P,Q,R,S,rfl,T2,U2,λ H3 g3=>⟨_,rfl,?_⟩⟩;refine jC (λ l=>?_) (λ l=>?_)
  ·refine ⟨yS2,λ a na=>k _ _ (g2.trans (g3.trans (kE na _))) ?_⟩
   rw [if_pos l];exact ⟨a,rfl,kD⟩
  ·refine k _ _ (g2.trans g3) ?_
   rw [if_neg l]
   rfl
 ·refine k _ _ g2 ?_
  rw [fv.mpr c,kh]
  rfl
inductive rH (vs:List V) (H:Hp) (Q:VK) (Y:XK):Prop
 | mk:∀ (td t u:ag) (Ps:List Pt) (T U:Nat×Nat),(vs=[.ref td,.ref t,.ref u])->(DAt H td Ps)->(lF Ps)->(hU Ps)->(H t=some (.tup [vn T.1,vn T.2]))->(H u=some (.tup [vn U.1,vn U.2]))->(T.1<T.2)->(U.1<U.2)->(T≠U)->(T.2<Ps.length)->(U.2<Ps.length) ->
   (∀ (v:V) (H':Hp),Same H H'->MOAt H' v (xJ Ps T U)->Q v H')->rH vs H Q Y
theorem kAI (B:Fx):Hs "tie_met" ["drawing","tie","other"] 8 (rH):=by
 refine qC B.X B.d17 tY λ f cdv A outer s H vs Q_ E nN hr h=>?_;obtain ⟨td,t,u,Ps,T,U,rfl,hd,dl,no,ht,hu,tl,ul,ne,tb,ub,k⟩:=h
 refine ⟨_,(kF (pst 3 nN (kY (p2 (pix kJ (pv 0) (pix kJ (pv 1) kC)) (pix kJ (pv 0) (pix kJ (pv 1) kC)))))
   (kF (pst 4 nN (kY (p2 (pix kJ (pv 0) (pix kJ (pv 2) kC)) (pix kJ (pv 0) (pix kJ (pv 2) kC)))))
   (kF (qP (PW.pt (kCE (kU yW (pix kJ (pv 1) kC) (pv 2) rfl) (oN (kU yW (pix kJ (pv 1) kC) (pv 2) rfl)))) (kI (kP (pf (lO B) hr (p2 (pv 3) (pv 4))))) qB)
   (kF (pst 5 nN (pf (kNO B) hr (p2 (pv 3) (pv 4))))
   (kF (qP (PW.pt (kCE (kU kNL (pv 5) jJ (kX _)) (oN (kU sI (pix kJ (pv 5) kC) jY (kX _))))) (kI (kP (pv 5))) qB)
   (kI (kP (kY (p2 jY (pix kT (jL (Nc:=["p","drawing","found"]) (js:=[none,some 0,some 5]) rfl rfl (yN (kO uQ (pv 1) (pv 2))) (CS.of rfl rfl) rfl (λ C s₂ H₂ fp pins=>(pgc 0)) (λ C s₂ H₂ fp pins D L=>(xT (kU (show OpR _ _ (kJP K false) from oU hr.units) (pix (show IxR _ (oM K) from kJ) (pv 1) (pv 0)) (pix (show IxR _ (oM K) from kJ) (pv 2) kC) (kX _)) (jN (pv 0))))) kC)))))))))),?_⟩
 try dsimp only [qE]
 obtain ⟨ps,h1,hP⟩:=id hd
 have place:∀ {i:Nat},i<Ps.length->∃ a,ps[i]?=some a/\PtAt H a (pt Ps i)/\Geo.Lw (pt Ps i)/\Sz 206 (pt Ps i):=λ {i} hi=>by
  obtain ⟨a,e1,e2⟩:=hP.at (bR hi);obtain ⟨w1,w2⟩:=dl _ (eJ (bR hi));exact ⟨a,e1,e2,glw w1,w2⟩
 obtain ⟨a1,e1,p1_,l1,z1⟩:=place (md tl tb);obtain ⟨a2,e2,p2_,l2,z2⟩:=place tb;obtain ⟨a3,e3,p3_,l3,z3⟩:=place (md ul ub);obtain ⟨a4,e4,p4_,l4,z4⟩:=place ub;have ix:∀ {i:Nat} {a:ag},ps[i]?=some a->atI (ps.map V.ref) (i:Int)=some (.ref a):=λ {i a} e=>jH (j:=i) (by rw [bq,e];rfl);refine ⟨_,rfl,_,rfl,t,_,_,_,rfl,rfl,SqT.of ht,at0,td,_,_,_,rfl,rfl,SqT.of h1,ix e1,_,rfl,_,rfl,t,_,_,_,rfl,rfl,SqT.of ht,at1,td,_,_,_,rfl,rfl,SqT.of h1,ix e2,yS2,λ o no_=>?_⟩;have g1:=kE no_ (.tup [.ref a1,.ref a2]);have ho:upd H o (.tup [.ref a1,.ref a2]) o=some (.tup [.ref a1,.ref a2]):=kD;generalize upd H o (.tup [.ref a1,.ref a2])=H1 at *;refine ⟨_,rfl,_,rfl,u,_,_,_,rfl,rfl,SqT.of (g1 _ _ hu),at0,td,_,_,_,rfl,rfl,SqT.of (g1 _ _ h1),ix e3,_,rfl,_,rfl,u,_,_,_,rfl,rfl,SqT.of (g1 _ _ hu),at1,td,_,_,_,rfl,rfl,SqT.of (g1 _ _ h1),ix e4,yS2,λ o2 no2=>?_⟩;have g2:=kE no2 (.tup [.ref a3,.ref a4]);have ho2:upd H1 o2 (.tup [.ref a3,.ref a4]) o2=some (.tup [.ref a3,.ref a4]):=kD;have ho:=g2 _ _ ho;generalize upd H1 o2 (.tup [.ref a3,.ref a4])=H2 at *;have g2:=g1.trans g2;have TT:TieAt H2 o a1 a2 (pt Ps T.1) (pt Ps T.2):=⟨ho,p1_.kept g2,p2_.kept g2,z1,z2,l1,l2⟩;have UU:TieAt H2 o2 a3 a4 (pt Ps U.1) (pt Ps U.2):=⟨ho2,p3_.kept g2,p4_.kept g2,z3,z4,l3,l4⟩;have lw:∀ i,i<Ps.length->Geo.Lw (pt Ps i):=λ i hi=>(place hi).elim λ _ z=>z.2.2.1;have ht2:=g2 _ _ ht;have hu2:=g2 _ _ hu;clear no_ no2 g1;refine ⟨_,rfl,t,_,_,_,rfl,rfl,SqT.of ht2,at0,_,rfl,u,_,rfl,.inr (SqT.of hu2),rfl,cZ [U.1,U.2],_,rfl,?_⟩;rw [show inV (vn T.1) [vn U.1,vn U.2]=decide (T.1∈[U.1,U.2]) from pG T.1 [U.1,U.2]];have jn:∀ h:T.1=U.1\/T.1=U.2\/T.2=U.1\/T.2=U.2,dG [.ref o,.ref o2] H2 Q_ E0:=λ h=>⟨o,o2,a1,a2,a3,a4,_,_,_,_,rfl,TT,UU,λ v H' g hv=>k v H' (g2.trans g) (by rw [<-kKN no lw tl ul ne tb ub h];exact hv)⟩;refine jC (λ c=>?_) (λ c=>?_)
 ·have c:T.1=U.1\/T.1=U.2:=by simpa using c
  exact ⟨_,rfl,_,rfl,jn (by omega)⟩
 refine ⟨_,rfl,t,_,_,_,rfl,rfl,SqT.of ht2,at1,_,rfl,u,_,rfl,.inr (SqT.of hu2),rfl,cZ [U.1,U.2],_,rfl,?_⟩;rw [show inV (vn T.2) [vn U.1,vn U.2]=decide (T.2∈[U.1,U.2]) from pG T.2 [U.1,U.2]];refine jC (λ c2=>?_) (λ c2=>?_)
 ·have c:T.2=U.1\/T.2=U.2:=by simpa using c2
  exact ⟨_,rfl,_,rfl,jn (by omega)⟩
 have nj:¬ (T.1=U.1\/T.1=U.2\/T.2=U.1\/T.2=U.2):=by
  simp at c c2;omega
 have F:Geo.Four (pt Ps T.1) (pt Ps T.2) (pt Ps U.1) (pt Ps U.2):=⟨l1,l2,l3,l4,xK no (by omega) tb (by omega),xK no (by omega) (by omega) (by omega),xK no (by omega) ub (by omega),xK no tb (by omega) (by omega),xK no tb ub (by omega),xK no (by omega) ub (by omega)⟩
 have em:xJ Ps T U=cN Ps T.1 T.2 U.1 U.2:=by
  unfold xJ;rw [if_neg (by omega),if_neg (by omega),if_neg (by omega),if_neg (by omega)]
 refine ⟨_,rfl,_,rfl,o,o2,a1,a2,a3,a4,_,_,_,_,rfl,TT,UU,F,λ v H3 g3 hv=>?_⟩;have dn:=kQW Ps T.1 T.2 U.1 U.2;rw [<-Geo.met_due F] at dn;have g23:=g2.trans g3
 cases hm:Geo.metO (pt Ps T.1) (pt Ps T.2) (pt Ps U.1) (pt Ps U.2) with
 | no =>
  unfold lE at hv;rw [hm] at hv dn;have hv:v=.non:=hv;subst hv;refine ⟨_,rfl,rfl,_,rfl,?_⟩;refine wL ?_;exact ⟨_,rfl,k .non H3 g23 (by rw [em,dn];rfl)⟩
 | over =>
  unfold lE at hv;rw [hm] at hv dn;obtain ⟨a,rfl,ha⟩:=hv;refine ⟨_,rfl,rfl,_,rfl,?_⟩;refine zQ ?_;refine ⟨_,rfl,a,_,_,_,rfl,rfl,SqT.of ha,at0,rfl,_,rfl,?_⟩;refine wL ?_;exact ⟨_,rfl,k _ H3 g23 (by rw [em,dn];exact ⟨a,rfl,ha⟩)⟩
 | touch X =>
  unfold lE at hv;rw [hm] at hv dn;obtain ⟨a,x,rfl,ha,hx⟩:=hv;obtain ⟨n,dn,en,mn⟩:=dn;refine ⟨_,rfl,rfl,_,rfl,?_⟩;refine zQ ?_;refine ⟨_,rfl,a,_,_,_,rfl,rfl,SqT.of ha,at0,rfl,_,rfl,?_⟩;refine zQ ?_;refine ⟨_,rfl,_,rfl,t,u,[vn T.1,vn T.2],[vn U.1,vn U.2],rfl,rfl,g3 _ _ ht2,g3 _ _ hu2,yS4,λ w H4 g4 hw=>?_⟩;have g4:Same H3 H4:=g4;refine ⟨w,rfl,⟨_,SqT.of hw⟩,λ D nD=>?_⟩;refine yQ (xs:=[T.1,T.2,U.1,U.2].map vn) (λ i σ H5=>∃ x0:Option V,σ=[x0,some (.ref td),some (.ref a)]/\Same H4 H5/\H5 D=some (.lst ((([T.1,T.2,U.1,U.2].take i).filter λ p=>eW (ptD (pt Ps p)) (ptD X)).map vn))) ⟨none,rfl,kE nD _,kD⟩ ?_ ?_ ?_
  ·rintro i σ H5 _ ⟨x0,rfl,g,_⟩
   exact SqT.of (g _ _ hw)
  ·rintro i y σ H5 hy ⟨x0,rfl,g,hD⟩
   rw [bq] at hy;obtain ⟨m,ey,rfl⟩:=eE.mp hy
   have hm':m<Ps.length:=by
    have:=eJ ey;simp at this;omega
   obtain ⟨am,eam,pam,_⟩:=place hm';have g5:=g4.trans g;have gg:=g23.trans g5;have fs:=nB (λ p=>eW (ptD (pt Ps p)) (ptD X)) ey;have fl:=kCU (λ p=>eW (ptD (pt Ps p)) (ptD X)) [T.1,T.2,U.1,U.2] i;refine ⟨_,rfl,_,rfl,td,_,_,_,rfl,rfl,SqT.of (gg _ _ h1),ix eam,_,rfl,a,_,_,_,rfl,rfl,SqT.of (g5 _ _ ha),at1,ptD (pt Ps m),ptD X,(pam.kept gg).dt,(hx.kept g5).dt,aX _,aX _,_,rfl,?_⟩;rw [if_neg (show ¬ (false=true) by decide)];refine jC (λ c=>?_) (λ c=>?_)
   ·refine ⟨_,rfl,_,hD,qR (by rw [bg];exact gk fl (by show 4<=1000;decide)),?_⟩
    refine ⟨_,rfl,qQ nD g,?_⟩;rw [kD,fs,if_pos c,iM]
    rfl
   ·refine ⟨_,rfl,g,?_⟩
    rw [fs,if_neg c,jq];exact hD
  rintro σ H5 ⟨x0,rfl,g,hD⟩
  obtain ⟨n',r,er,en'⟩ : ∃ n' r,([T.1,T.2,U.1,U.2].take ([T.1,T.2,U.1,U.2].map vn).length).filter (λ p=>eW (ptD (pt Ps p)) (ptD X))=n'::r/\n'=n:=by
   rw [bg,sj];have mem:n∈[T.1,T.2,U.1,U.2].filter (λ p=>eW (ptD (pt Ps p)) (ptD X)):=vz.mpr ⟨mn,(kIK _ _).mpr en⟩
   cases e:[T.1,T.2,U.1,U.2].filter (λ p=>eW (ptD (pt Ps p)) (ptD X)) with
   | nil=>rw [e] at mem;cases mem
   | cons n' r =>
    obtain ⟨k1,k2⟩:=vz.mp (show n'∈[T.1,T.2,U.1,U.2].filter (λ p=>eW (ptD (pt Ps p)) (ptD X)) by rw [e];exact fe);refine ⟨n',r,rfl,Au λ z=>?_⟩;have b1:n'<Ps.length:=by simp at k1;omega
    have b2:n<Ps.length:=by simp at mn;omega
    exact xK no b1 b2 z (((kIK _ _).mp k2).trans en.symm)
  subst en';rw [er] at hD;refine ⟨D,_,_,_,rfl,rfl,SqL.of hD,(show atI (vn n'::r.map vn) ((0:Nat):Int)=some (vn n') from jH (j:=0) rfl),yS2,λ z nz=>?_⟩;refine k _ _ (g23.trans (g4.trans (g.trans (kE nz _)))) ?_;rw [em,dn];exact ⟨z,rfl,kD⟩
 | cross =>
  have cx:=F.crossing hm;unfold lE at hv;rw [hm] at hv dn;obtain ⟨a,x,X,rfl,ha,hx,hX,_⟩:=hv;refine ⟨_,rfl,rfl,_,rfl,?_⟩;refine zQ ?_;refine ⟨_,rfl,a,_,_,_,rfl,rfl,SqT.of ha,at0,rfl,_,rfl,?_⟩;refine wL ?_;refine ⟨_,rfl,k _ H3 g23 ?_⟩;rw [em,dn,<-Geo.crP_of cx.1 hX];exact ⟨a,x,rfl,ha,hx⟩
open Mth Sca
def PairsAt (H:Hp) (s:ag) (T:List (Nat×Nat)):Prop:=∃ ss:List ag,H s=some (.lst (ss.map V.ref))/\ss.length=T.length/\∀ (i:Nat) (b:ag) (t:Nat×Nat),ss[i]?=some b->T[i]?=some t->H b=some (.tup [vn t.1,vn t.2])
theorem PairsAt.kept {H H':Hp} {s:ag} {T:List (Nat×Nat)} (h:PairsAt H s T) (g:Same H H'):PairsAt H' s T:=by
 obtain ⟨ss,h1,h2,h3⟩:=h;exact ⟨ss,g _ _ h1,h2,λ i b t e1 e2=>g _ _ (h3 i b t e1 e2)⟩
theorem PairsAt.app {H H':Hp} {s b:ag} {ss:List ag} {T:List (Nat×Nat)} {t:Nat×Nat} (h1:H s=some (.lst (ss.map V.ref))) (h2:ss.length=T.length) (h3:∀ (i:Nat) (b:ag) (t:Nat×Nat),ss[i]?=some b->T[i]?=some t->H b=some (.tup [vn t.1,vn t.2])) (hb:H b=some (.tup [vn t.1,vn t.2])) :
  PairsAt (upd H s (.lst (ss.map V.ref++[.ref b]))) s (T++[t]):=by
 refine ⟨ss++[b],by rw [iM];exact kD,by simp [h2],λ i c u e1 e2=>?_⟩;have cs:c≠s->upd H s (.lst (ss.map V.ref++[.ref b])) c=H c:=λ z=>kN z;by_cases hl:i<ss.length
 ·rw [dw hl] at e1
  rw [dw (by omega)] at e2;have:=h3 i c u e1 e2;rw [cs (wI this h1 (by simp))];exact this
 ·have:i=ss.length:=by
   have:=(au.mp e1).1;simp at this;omega
  subst this;rw [AQ] at e1;rw [h2,AQ] at e2;cases e1
  cases e2
  rw [cs (wI hb h1 (by simp))];exact hb
def prZ (t:Nat×Nat):List Int:=[(t.1:Int),(t.2:Int)]
theorem dJ {H:Hp} {s:ag} {T:List (Nat×Nat)} (h:PairsAt H s T):∃ ps:List (ag×List Int),H s=some (.lst (ps.map λ q=>V.ref q.1))/\kRC H ps /\
  ∀ (l:ag) (ps':List (ag×List Int)),H l=none->ps'.Perm ps->ps'.Pairwise (λ a b=>Srt.lexLt b.2 a.2=false)->PairsAt (upd H l (.lst (ps'.map λ q=>V.ref q.1))) l (Fc.sortP T):=by
 obtain ⟨ss,h1,h2,h3⟩:=h
 have e1:(ss.zip (T.map prZ)).map (λ q=>V.ref q.1)=ss.map V.ref:=by
  rw [show (λ q:ag×List Int=>V.ref q.1)=V.ref∘Prod.fst from rfl,<-Dg,List.map_fst_zip (by rw [bg];omega)]
 have mem:∀ q∈ss.zip (T.map prZ),∃ t:Nat×Nat,q.2=prZ t/\H q.1=some (.tup [vn t.1,vn t.2]):=λ q hq=>by
  obtain ⟨i,hi,rfl⟩:=iR.mp hq;rw [List.length_zip,bg] at hi;refine ⟨T[i]'(by omega),by simp,?_⟩;have:=h3 i (ss[i]'(by omega)) (T[i]'(by omega)) (ao _) (ao _);simpa using this
 refine ⟨ss.zip (T.map prZ),by rw [e1];exact h1,λ q hq=>?_,λ l ps' nl pm sr=>?_⟩
 ·obtain ⟨t,e,ht⟩:=mem q hq
  rw [e];exact ⟨ht,by simp [prZ]⟩
 ·have back:∃ T':List (Nat×Nat),ps'.map (·.2)=T'.map prZ/\T'.Perm T:=by
   have pz:(ps'.map (·.2)).Perm (T.map prZ):=by
    have:=pm.map (λ q:ag×List Int=>q.2);rwa [EC (by rw [bg];omega)] at this
   obtain ⟨m,a,b⟩:=Srt.perm_back pz rfl;exact ⟨m,b,a⟩
  obtain ⟨T',eT,pT⟩:=back
  have srt:T'.Pairwise (λ a b=>Fc.leP a b=true):=by
   have a1:(ps'.map (·.2)).Pairwise (λ a b=>Srt.lexLt b a=false):=xt.mpr sr;rw [eT] at a1;refine (xt.mp a1).imp λ {a b} hh=>?_;rw [<-Fc.leP_leL,Fc.leL_iff];exact hh
  have eq:=Fc.sortP_is pT srt
  have ln:ps'.length=T'.length:=by
   have:=congrArg ph eT;simpa using this
  refine ⟨ps'.map (·.1),by rw [Dg];exact kD,by rw [<-eq,bg,ln],λ i b t e1 e2=>?_⟩;rw [<-eq] at e2;have hi:=(au.mp e2).1;have hi':i<ps'.length:=by omega
  rw [bq,ao hi'] at e1;have e1:ps'[i].1=b:=eO e1
  have e3:ps'[i].2=prZ t:=by
   have:=congrArg (λ l=>l[i]?) eT;rw [bq,bq,e2,ao hi'] at this;exact eO this
  obtain ⟨t',e4,ht⟩:=mem ps'[i] (pm.mem_iff.mp (si hi'))
  have tt:t'=t:=by
   rw [e4] at e3;unfold prZ at e3;injection e3 with z1 z2
   injection z2 with z2 _
   exact Ec (by omega) (by omega)
  rw [<-e1,kN (kR ht nl),ht,tt]
structure WebOk (W:List (List Nat)):Prop where
 len:W.length<=12
 row:∀ (p:Nat) (row:List Nat),W[p]?=some row->row.Nodup/\row≠[]/\row.length<=12/\∀ q∈row,q<W.length/\q≠p
def Smal (W:List (List Nat)):Prop:=W.length<=12/\∀ (i:Nat) (row:List Nat),W[i]?=some row->row.length<=12
theorem WebOk.smal {W:List (List Nat)} (h:WebOk W):Smal W:=⟨h.len,λ i row e=>(h.row i row e).2.2.1⟩
theorem Smal.take_len {W:List (List Nat)} (h:Smal W) (i:Nat):(qU (W.take i)).length<=144:=by
 have gen:∀ W:List (List Nat),(∀ row∈W,row.length<=12)->(W.map ph).sum<=12*W.length:=λ W=>by
  induction W with
  | nil=>intro _;exact ba _
  | cons r W ih =>
   intro h;have a:=h r fe;have b:=ih λ x hx=>h x (eY _ hx);rw [iV,List.sum_cons,gy];omega
 rw [lH]
 have a:=gen (W.take i) λ row hr=>by
  obtain ⟨j,e⟩:=yg.mp (CN hr);exact h.2 j row e
 have b:=h.1;rw [gw] at a;omega
inductive kBG (vs:List V) (H:Hp) (Q:VK) (Y:XK):Prop
 | mk:∀ (t:ag) (W:List (List Nat)),(vs=[.ref t])->(WAt H t W)->(Smal W)->(∀ (s:ag) (H':Hp),Same H H'->H s=none->PairsAt H' s (Fc.stepsS W)->Q (.ref s) H')->kBG vs H Q Y
theorem dE (W:Rows) (i:Nat) (hi:i<W.length):qU (W.take (i+1))=qU (W.take i)++(W[i].map λ q=>(i,q)):=by
 unfold qU;rw [gw,gw,ju (by omega),ju (by omega),EX,AG]
 congr 1
 ·rw [EG,EG]
  congr 1
  refine List.map_congr_left λ p hp=>?_;have:=uz.mp hp;simp only [fg];rw [qi (by omega),qi (by omega)]
 ·rw [yb]
  simp only [fg];rw [qi (by omega),ao hi]
  rfl
theorem sK (B:Fx):Hs "steps_of" ["web"] 1 (kBG):=by
 refine qC B.X B.d6 rO λ f cdv A outer s0 H vs Q E nN hr h=>?_;obtain ⟨t,W,rfl,hW,S,k⟩:=h;refine ⟨_,(kI (kP (kS gU rfl (B.z B.y11) BR (p1 (kJV (Nc:=["p","row","q"]) (js:=[none,none,none]) rfl rfl (uO false rfl (B.z B.y0) (p1 (pv 0))) (CS.of rfl rfl) rfl (λ C s₂ H₂ fp pins=>(show PG _ _ (kKR K 2 _) from jE rfl (kQ (pgc 0) (kQ (pgc 1) qJ)))) (λ C s₂ H₂ fp pins=>(show PI _ _ _ (kQN K _) from (yN (pv 1)))) (λ C s₂ H₂ fp pins=>(pgc 2)) (λ C s₂ H₂ fp pins D L=>(jW (jN (kY (p2 (pv 0) (pv 2))))))))))),?_⟩
 try dsimp only [qE]
 obtain ⟨ts,h1,hA⟩:=id hW;have lts:=hA.1;have h3:∀ (i:Nat) (a:ag) (row:List Nat),ts[i]?=some a->W[i]?=some row->H a=some (.tup (row.map vn)):=λ i a row e1 e2=>hA.2 i a row e1 e2;refine ⟨_,rfl,t,rfl,⟨_,SqT.of h1⟩,λ D nD=>?_⟩
 refine kDJ (k:=false) (xs:=ts.map V.ref) (λ i σ H2=>∃ (x0 x1 x2:Option V),σ=[x0,x1,x2]/\Same H H2/\PairsAt H2 D (qU (W.take i)))
  ⟨none,none,none,rfl,kE nD _,⟨[],kD,rfl,λ i b t e=>by simp at e⟩⟩ ?_ ?_ ?_
 ·rintro i σ H2 _ ⟨x0,x1,x2,rfl,g2,_⟩
  exact SqT.of (g2 _ _ h1)
 ·rintro i x T σ H2 hx nT ⟨x0,x1,x2,rfl,g2,pr⟩
  rw [bq] at hx;obtain ⟨a,ea,rfl⟩:=eE.mp hx;have hi:i<W.length:=by rw [<-lts];exact (au.mp ea).1
  have har:=h3 i a _ ea (ao hi);have rl:=S.2 i _ (ao hi);have gT:=kE nT (.tup [.int i,.ref a]);refine ⟨T,_,rfl,SqT.of kD,rfl,_,_,rfl,_,_,rfl,rfl,?_⟩;have g3:=g2.trans gT;have pr3:=pr.kept gT;generalize upd H2 T (.tup [.int i,.ref a])=H3 at *;refine ⟨_,rfl,a,rfl,⟨_,SqT.of (g3 _ _ har)⟩,?_⟩;refine yQ (xs:=W[i].map vn) (λ j σ H4=>∃ (x2:Option V),σ=[some (vn i),some (.ref a),x2]/\Same H H4/\PairsAt H4 D (qU (W.take i)++((W[i].take j).map λ q=>(i,q)))) ⟨x2,rfl,g3,by simpa using pr3⟩ ?_ ?_ ?_
  ·rintro j σ H4 _ ⟨x2,rfl,g4,_⟩
   exact SqT.of (g4 _ _ har)
  ·rintro j v σ H4 hv ⟨x2,rfl,g4,pr4⟩
   rw [bq] at hv;obtain ⟨q,eq',rfl⟩:=eE.mp hv;have hj:=(au.mp eq').1;refine ⟨_,rfl,_,rfl,yS2,λ b nb=>?_⟩;have gb:=kE nb (.tup [vn i,vn q]);have hb:=kD (H:=H4) (a:=b) (o:=.tup [vn i,vn q]);have pr5:=pr4.kept gb;have g5:=g4.trans gb;refine (λ (z:upd H4 b (.tup [vn i,vn q]) b=some (.tup [vn i,vn q]))=>?_) hb;generalize upd H4 b (.tup [vn i,vn q])=H5 at *;obtain ⟨ss,c1,c2,c3⟩:=id pr5;have l1:=S.take_len i
   have l2:ss.length<=144+12:=by
    rw [c2,du,bg,gw];omega
   refine ⟨_,c1,(by rw [bg];exact uF (by omega)),?_⟩;have A1:=PairsAt.app (H':=H5) c1 c2 c3 (t:=(i,q)) z;refine ⟨_,rfl,qQ nD g5,?_⟩;have tk:(W[i].take (j+1)).map (λ q=>(i,q))=(W[i].take j).map (λ q=>(i,q))++[(i,q)]:=by rw [yq,eq',iM];rfl
   rw [tk,<-eM];exact A1
  ·rintro σ H4 ⟨x2,rfl,g4,pr4⟩
   rw [bg,sj] at pr4;exact ⟨_,_,_,rfl,g4,by rw [dE W i hi];exact pr4⟩
 ·rintro σ H2 ⟨x0,x1,x2,rfl,g2,pr⟩
  rw [bg,lts,sj] at pr;obtain ⟨ps,e1,e2,e3⟩:=dJ pr;refine ⟨D,ps,rfl,.inl (SqL.of e1),e2,λ l ps' nl pm sr=>?_⟩;exact k l _ (g2.trans (kE nl _)) (g2.free nl) (e3 l ps' nl pm sr)
inductive kFZ (vs:List V) (H:Hp) (Q:VK) (Y:XK):Prop
 | mk:∀ (t:ag) (W:List (List Nat)),(vs=[.ref t])->(WAt H t W)->(Smal W)->(∀ (s:ag) (H':Hp),Same H H'->H s=none->PairsAt H' s (Fc.tiesS W)->Q (.ref s) H')->kFZ vs H Q Y
theorem Smal.stepsS_len {W:List (List Nat)} (h:Smal W):(Fc.stepsS W).length<=144:=by
 rw [show (Fc.stepsS W).length=(qU W).length from (Fc.sortP_perm _).length_eq];have:=h.take_len W.length;rwa [sj] at this
theorem kJZ (B:Fx):Hs "ties" ["web"] 2 (kFZ):=by
 refine qC B.X B.d7 kJI λ f cdv A outer s0 H vs Q E nN hr h=>?_;obtain ⟨t,W,rfl,hW,S,k⟩:=h;refine ⟨_,(kI (kP (jL (Nc:=["p","q"]) (js:=[none,none]) rfl rfl (yC (pf (sK B) hr (p1 (pv 0)))) (CS.of rfl rfl) rfl (λ C s₂ H₂ fp pins=>(show PG _ _ (kKR K 2 _) from jE rfl (kQ (pgc 0) (kQ (pgc 1) qJ)))) (λ C s₂ H₂ fp pins D L=>(xT (kU wG (pv 0) (pv 1) (kX _)) (jN (kY (p2 (pv 0) (pv 1))))))))),?_⟩
 try dsimp only [qE]
 have l1:=S.stepsS_len;refine ⟨_,rfl,t,W,rfl,hW,S,λ s H1 g1 ns pr=>?_⟩;obtain ⟨ss,h1,h2,h3⟩:=id pr;refine ⟨s,rfl,⟨_,SqL.of h1⟩,λ D nD=>?_⟩
 refine yR (xs:=ss.map V.ref) (λ i σ H2=>∃ (x0 x1:Option V),σ=[x0,x1]/\Same H1 H2/\PairsAt H2 D (((Fc.stepsS W).take i).filter λ t=>decide (t.1<t.2)))
  ⟨none,none,rfl,kE nD _,⟨[],kD,rfl,λ i b t e=>by simp at e⟩⟩ ?_ ?_ ?_
 ·rintro i σ H2 _ ⟨x0,x1,rfl,g2,_⟩
  exact SqL.of (g2 _ _ h1)
 ·rintro i x σ H2 hx ⟨x0,x1,rfl,g2,pr2⟩
  rw [bq] at hx;obtain ⟨b,eb,rfl⟩:=eE.mp hx;have hi:i<(Fc.stepsS W).length:=by rw [<-h2];exact (au.mp eb).1
  have et:=ao hi;have hb:=h3 i b _ eb et;have tk:(Fc.stepsS W).take (i+1)=(Fc.stepsS W).take i++[(Fc.stepsS W)[i]]:=by rw [yq,et];rfl
  generalize (Fc.stepsS W)[i]=t at *;refine ⟨b,_,rfl,SqT.of (g2 _ _ hb),rfl,_,_,rfl,_,_,rfl,rfl,?_⟩;refine ⟨_,rfl,_,rfl,_,_,rfl,rfl,_,rfl,?_⟩;rw [tk];refine jC (λ z=>?_) (λ z=>?_)
  ·have z:=of_decide_eq_true z
   refine ⟨_,rfl,_,rfl,yS2,λ c nc=>?_⟩;have gc:=kE nc (.tup [vn t.1,vn t.2]);have hc:=kD (H:=H2) (a:=c) (o:=.tup [vn t.1,vn t.2]);have pr3:=pr2.kept gc;have g3:=g2.trans gc;refine (λ (y:upd H2 c (.tup [vn t.1,vn t.2]) c=some (.tup [vn t.1,vn t.2]))=>?_) hc;generalize upd H2 c (.tup [vn t.1,vn t.2])=H3 at *;obtain ⟨cs,c1,c2,c3⟩:=id pr3
   have lc:cs.length<=144:=by
    rw [c2];have:=mw (λ t:Nat×Nat=>decide (t.1<t.2)) ((Fc.stepsS W).take i);rw [gw] at this;omega
   refine ⟨_,c1,(by rw [bg];exact uF (by omega)),?_⟩;refine ⟨_,_,rfl,qQ nD g3,?_⟩;rw [vy,zk,if_pos (by exact decide_eq_true (by omega))];exact PairsAt.app (H':=H3) c1 c2 c3 y
  ·have z:¬ (t.1:Int)<(t.2:Int):=λ q=>z (decide_eq_true q)
   refine ⟨_,_,rfl,g2,?_⟩;rw [vy,zk,if_neg (by intro q;have:=of_decide_eq_true q;omega)];simpa using pr2
 ·rintro σ H2 ⟨x0,x1,rfl,g2,pr2⟩
  rw [bg,h2,sj] at pr2;exact k D H2 (g1.trans g2) (g1.free nD) pr2
open Mth Sca
theorem aW {H H':Hp} (g:Same H H'):SameE H H':=λ b o _ e=>g b o e
theorem kFL {H:Hp} {a C T:ag} {dx:Option ag} {t1:af} (ea:H a=some (.ext (XO a C dx t1))) (nT:H T=none):SameE H (tr2 H a C dx T):=λ b o n e=>by
 have m1:b≠a:=λ z=>by subst z;rw [ea] at e;cases e;exact n _ rfl
 unfold tr2;rw [kN m1,kN (kR e nT)];exact e
def KW (H:Hp) (k w:V):MO->Prop
 | .no=>False
 | .over=>k=.str "over"/\w=.non
 | .touch p=>k=.str "touch"/\w=vn p
 | .cross X=>∃ x,k=.str "cross"/\w=.ref x/\PtAt H x X
abbrev Mt:=(Nat×Nat)×(Nat×Nat)×MO
def MRow (H:Hp) (a:ag) (x:Mt):Prop:=∃ (t u:ag) (k w:V),H a=some (.tup [.ref t,.ref u,k,w])/\H t=some (.tup [vn x.1.1,vn x.1.2])/\H u=some (.tup [vn x.2.1.1,vn x.2.1.2])/\KW H k w x.2.2
theorem KW.kept {H H':Hp} {k w:V} {m:MO} (h:KW H k w m) (g:Same H H'):KW H' k w m:=by
 cases m with
 | cross X =>
  obtain ⟨x,a,b,c⟩:=h;exact ⟨x,a,b,c.kept g⟩
 | _=>exact h
theorem MRow.kept {H H':Hp} {a:ag} {x:Mt} (h:MRow H a x) (g:Same H H'):MRow H' a x:=by
 obtain ⟨t,u,k,w,h1,h2,h3,h4⟩:=h;exact ⟨t,u,k,w,g _ _ h1,g _ _ h2,g _ _ h3,h4.kept g⟩
theorem MRow.upd {H:Hp} {a D:ag} {x:Mt} {xs:List V} {o:HO} (h:MRow H a x) (hD:H D=some (.lst xs)):MRow (upd H D o) a x:=by
 obtain ⟨t,u,k,w,h1,h2,h3,h4⟩:=h
 have ne:∀ {b:ag} {ys:List V},H b=some (.tup ys)->L2.upd H D o b=some (.tup ys):=λ {b ys} e=>by
  rw [kN (wI e hD (by intro z;cases z))];exact e
 refine ⟨t,u,k,w,ne h1,ne h2,ne h3,?_⟩
 cases hm:x.2.2 with
 | cross X =>
  rw [hm] at h4;obtain ⟨y,a,b,p,q,c1,c2,c3⟩:=h4;exact ⟨y,a,b,p,q,ne c1,ne c2,ne c3⟩
 | _=>rw [hm] at h4;exact h4
theorem MOAt.two {H:Hp} {v:V} {m:MO} (h:MOAt H v m):(m=.no/\v=.non)\/∃ c k w,v=.ref c/\H c=some (.tup [k,w])/\KW H k w m:=by
 cases m with
 | no=>exact .inl ⟨rfl,h⟩
 | over =>
  obtain ⟨c,a,b⟩:=h;exact .inr ⟨c,_,_,a,b,rfl,rfl⟩
 | touch p =>
  obtain ⟨c,a,b⟩:=h;exact .inr ⟨c,_,_,a,b,rfl,rfl⟩
 | cross X =>
  obtain ⟨c,x,a,b,d⟩:=h;exact .inr ⟨c,_,_,a,b,x,rfl,rfl,d⟩
theorem aK (xs:List V) {k:Nat} (h:k<=xs.length):zR xs (some (k:Int)) none=xs.drop k:=by
 unfold zR;rw [HT.sIx_none,HT.sIx_nat,ju h,fb];rw [fh];exact ba _
noncomputable def moF (Ps:List Pt) (T U:Nat×Nat):List Mt:=match xJ Ps T U with
 | .no=>[]
 | m=>[(T,U,m)]
theorem kHO {Ps:List Pt} {T U:Nat×Nat} (h:xJ Ps T U=.no):moF Ps T U=[]:=by unfold moF;rw [h]
theorem kCN {H:Hp} {k w:V} {Ps:List Pt} {T U:Nat×Nat} (h:KW H k w (xJ Ps T U)):moF Ps T U=[(T,U,xJ Ps T U)]:=by
 unfold moF;generalize xJ Ps T U=m at *
 cases m with
 | no=>exact h.elim
 | _=>rfl
theorem kAL (Ps:List Pt) (T U:Nat×Nat):(moF Ps T U).length<=1:=by
 unfold moF
 split<;>simp
noncomputable def xX (Ps:List Pt) (L:List (Nat×Nat)) (n:Nat):List Mt:=(qg n).flatMap λ i=>(L.drop (i+1)).flatMap λ U=>moF Ps (L.getD i (0,0)) U
theorem aE {α β:Type} (f:α->List β) (c:Nat) (h:∀ x,(f x).length<=c):∀ l:List α,(l.flatMap f).length<=c*l.length
 | []=>by simp
 | x::l=>by
  have a:=h x;have b:=aE f c h l;rw [List.flatMap_cons,du,gy,Nat.mul_succ];omega
theorem fX (Ps:List Pt) (L:List (Nat×Nat)) (n:Nat):(xX Ps L n).length<=L.length*n:=by
 have:=aE (λ i=>(L.drop (i+1)).flatMap λ U=>moF Ps (L.getD i (0,0)) U) L.length (λ i=>by
  have a:=aE (λ U=>moF Ps (L.getD i (0,0)) U) 1 (kAL Ps _) (L.drop (i+1));rw [fh] at a;omega) (qg n)
 rwa [BF] at this
theorem fW (Ps:List Pt) {L:List (Nat×Nat)} {i:Nat} {T:Nat×Nat} (e:L[i]?=some T):xX Ps L (i+1)=xX Ps L i++(L.drop (i+1)).flatMap λ U=>moF Ps T U:=by
 unfold xX;rw [EX,AG,yb,fg,e]
 rfl
theorem mZ {α β:Type} (f:α->List β) {l:List α} {j:Nat} {x:α} (e:l[j]?=some x):(l.take (j+1)).flatMap f=(l.take j).flatMap f++f x:=by
 rw [yq,e,ua,AG,yb]
def kOW (H:Hp) (D:ag) (ms:List Mt):Prop:=∃ us:List ag,H D=some (.lst (us.map V.ref))/\AllAt MRow H us ms
def hJ (n:Nat) (L:List (Nat×Nat)):Prop:=L.length<=144/\L.Nodup/\∀ T∈L,T.1<T.2/\T.2<n
inductive dF (vs:List V) (H:Hp) (Q:VK) (E:XK):Prop
 | mk:∀ (tw td:ag) (W:List (List Nat)) (Ps:List Pt),(vs=[.ref tw,.ref td])->(WAt H tw W)->(DAt H td Ps)->(Smal W)->(lF Ps)->(Ps.length<=900)->(hJ Ps.length (Fc.tiesS W)) ->
   (∀ (D:ag) (H':Hp),Same H H'->H D=none->hU Ps->kOW H' D (xX Ps (Fc.tiesS W) (Fc.tiesS W).length)->Q (.ref D) H') ->
   (∀ (C d a:ag) (p q:Nat) (H':Hp),mg "Alike" = some (.ref C)->SameE H H'->H' d=some (.xd [("places",.ref a)])->H' a=some (.tup [vn p,vn q])->Least Ps p q->E (.ref C) (some d) H')->dF vs H Q E
theorem oV (B:Fx):kOX P w K mg base "meetings" ["web","drawing"] 9 dF:=by
 refine kIC B.X B.d20 rP (λ f cdv A outer s H vs Q E nN hr h=>?_) (by intro _ _ _ _ h;cases h<;>(subst_vars;rfl)) (by intro _ _ _ _ _ _ us hl;obtain ⟨_,_,rfl⟩:=kHU hl;rfl);obtain ⟨f1,d1,F1,b1,k1,m1⟩:=vS B
 refine ⟨_,(kF (jQ (oQ F1 (hr.mono (by decide)) rfl m1 k1 b1 .nil (kEA (E:=E) rfl rfl rfl rfl) (p1 (pv 1))))
   (kF (pst 2 nN (jF kZ))
   (kF (pst 3 nN (pf (kJZ B) hr (p1 (pv 0))))
   (kF (PS.nox (aY (uO true rfl (B.z B.y0) (p1 (pv 3))) (jE (n:=2) rfl (kQ (pgn 4 nN) (kQ (pgn 5 nN) qJ))) (kI (aY (yC (xV uG (pv 3) (xL (kO jG (pv 4) kC)) wT)) (pgn 6 nN) (kF (pst 7 nN (pf (kAI B) hr (kH (pv 1) (kH (pv 5) (kH (pv 6) kZ)))))
   (kI (qP (kU cT (pv 7) jJ (kX _)) (kI (jQ (yO jz kg xO (pv 2) (p1 (kO uQ (kY (p2 (pv 5) (pv 6))) (pv 7)))))) qB)))))))
   (kI (kP (pv 2))))))),?_⟩
 obtain ⟨tw,td,W,Ps,rfl,hw,hd,sm,dl,l9,tok,kq,ka⟩:=h;obtain ⟨ps,hd0,hP⟩:=hd;refine ⟨_,rfl,td,ps,Ps,rfl,hd0,hP,l9,λ H1 g1 no=>?_,λ C d a p q H1 mC g1 hd ha lst=>?_⟩
 rotate_left
 ·intro x C1 t1 T eC ex nT Tx
  have e:=kFL ex nT;exact ka C d a p q _ mC ((aW g1).trans e) (e _ _ (by simp) hd) (e _ _ (by simp) ha) lst
 have hd:DAt H td Ps:=⟨ps,hd0,hP⟩;clear ka;refine ⟨yS0,λ D nD=>?_⟩;have nDH:H D=none:=g1.free nD;have g2:=g1.trans (kE nD (.lst []));have hD2:upd H1 D (.lst []) D=some (.lst []):=kD;generalize upd H1 D (.lst [])=H2 at *;clear nD;refine ⟨_,rfl,tw,W,rfl,hw.kept g2,sm,λ l H3 g3 nl pr=>?_⟩;have g3':=g2.trans g3;have hD3:=g3 _ _ hD2;generalize Fc.tiesS W=L at *;obtain ⟨ss,hl,ls,hT⟩:=pr;have lD:l≠D:=λ z=>by subst z;rw [hD2] at nl;cases nl
 have l144:=tok.1;clear hD2 nl g3 g2 hw;refine ⟨_,rfl,l,rfl,⟨_,SqL.of hl⟩,?_⟩;refine aD (k:=true) (xs:=ss.map V.ref) (λ i σ H4=>∃ (x4 x5 x6 x7:Option V) (us:List ag),σ=[some (.ref tw),some (.ref td),some (.ref D),some (.ref l),x4,x5,x6,x7]/\Same H H4/\SameBut D H3 H4/\H4 D=some (.lst (us.map V.ref))/\AllAt MRow H4 us (xX Ps L i)) ⟨_,_,_,_,[],rfl,g3',SameBut.refl D H3,hD3,AllAt.nil⟩ ?_ ?_ ?_
 ·rintro i σ H4 _ ⟨x4,x5,x6,x7,us,rfl,_,b4,_⟩
  exact SqL.of (b4 _ _ lD hl)
 ·rintro i x Tt σ H4 hx nT ⟨x4,x5,x6,x7,us,rfl,g4,b4,hD4,hu⟩
  rw [bq] at hx;obtain ⟨a,ea,rfl⟩:=eE.mp hx;have hi:i<L.length:=ls ▸ (au.mp ea).1;have eT:=ao hi;have ms:=fW Ps eT;have hta:=hT i a _ ea eT;have okT:=tok.2.2 _ (eJ eT);have nd:=tok.2.1
  have dif:∀ j U,L[i+1+j]?=some U->L[i]≠U:=λ j U e z=>by
   obtain ⟨h2,e2⟩:=au.mp e;have:=(yi nd).mp (z.trans e2.symm);omega
  generalize L[i]=T at *;have gT:=kE nT (.tup [.int i,.ref a]);refine ⟨Tt,_,rfl,SqT.of kD,rfl,_,_,rfl,_,_,rfl,rfl,?_⟩;have g5:=g4.trans gT;have b5:=b4.trans (SameBut.of gT);have hD5:=gT _ _ hD4;have hu5:AllAt MRow _ us (xX Ps L i):=hu.imp λ p x z=>z.kept gT;generalize upd H4 Tt (.tup [.int i,.ref a])=H5 at *;refine ⟨_,rfl,_,rfl,_,_,rfl,rfl,(i:Int)+1,rfl,l,_,rfl,SqL.of (b5 _ _ lD hl),λ p np=>?_⟩;rw [show zR (ss.map V.ref) (some ((i:Int)+1)) none=(ss.drop (i+1)).map V.ref by rw [show (i:Int)+1=((i+1:Nat):Int) by omega,aK _ (by rw [bg];omega),yv]];have gp:=kE np (.lst ((ss.drop (i+1)).map V.ref));have hp:upd H5 p (.lst ((ss.drop (i+1)).map V.ref)) p=some (.lst ((ss.drop (i+1)).map V.ref)):=kD;have pD:p≠D:=λ z=>by subst z;rw [hD5] at np;cases np
  have g6:=g5.trans gp;have b6:=b5.trans (SameBut.of gp);have hD6:=gp _ _ hD5;have hu6:AllAt MRow _ us (xX Ps L i):=hu5.imp λ p x z=>z.kept gp;generalize upd H5 p (.lst ((ss.drop (i+1)).map V.ref))=H6 at *;clear hu5 hD5 b5 g5 gp np hu hD4 b4 g4 gT nT;refine ⟨p,rfl,⟨_,SqL.of hp⟩,?_⟩;have lr:=fX Ps L i;refine gL (xs:=(ss.drop (i+1)).map V.ref) (λ j σ H7=>∃ (x6 x7:Option V) (us:List ag),σ=[some (.ref tw),some (.ref td),some (.ref D),some (.ref l),some (vn i),some (.ref a),x6,x7]/\Same H H7/\SameBut D H6 H7/\H7 D=some (.lst (us.map V.ref))/\AllAt MRow H7 us (xX Ps L i++((L.drop (i+1)).take j).flatMap (moF Ps T))) ⟨_,_,us,rfl,g6,SameBut.refl D H6,hD6,by simpa using hu6⟩ ?_ ?_ ?_
  ·rintro j σ H7 _ ⟨x6,x7,us,rfl,_,b7,_⟩
   exact SqL.of (b7 _ _ pD hp)
  ·rintro j y σ H7 hy ⟨x6,x7,us,rfl,g7,b7,hD7,hu7⟩
   rw [bq,wq] at hy;obtain ⟨b,eb,rfl⟩:=eE.mp hy;have hj:i+1+j<L.length:=ls ▸ (au.mp eb).1;have eU:=ao hj;have htb:=hT _ b _ eb eU;have okU:=tok.2.2 _ (eJ eU);have ne:=dif j _ eU;have ft:=mZ (moF Ps T) (l:=L.drop (i+1)) (j:=j) (x:=L[i+1+j]) (by rw [wq];exact eU);generalize L[i+1+j]=U at *;have b37:=b6.trans b7;have nD:∀ {c:ag} {ys:List V},H3 c=some (.tup ys)->c≠D:=λ e=>wI e hD3 (by intro z;cases z);refine ⟨_,rfl,_,rfl,_,rfl,td,a,b,Ps,T,U,rfl,hd.kept g7,dl,no,b37 _ _ (nD hta) hta,b37 _ _ (nD htb) htb,okT.1,okU.1,ne,okT.2,okU.2,λ v H8 g8 hv=>?_⟩;have l1:=hu7.1;have l2:=aE (moF Ps T) 1 (kAL Ps T) ((L.drop (i+1)).take j);have l3:((L.drop (i+1)).take j).length<=L.length:=by rw [gw,fh];omega
   have l4:L.length*i<=144*144:=ki l144 (by omega);rw [du] at l1;have hu8:AllAt MRow H8 us _:=hu7.imp λ p x z=>z.kept g8;have hD8:=g8 _ _ hD7;refine ⟨_,rfl,rfl,_,rfl,?_⟩;rcases hv.two with ⟨em,rfl⟩ | ⟨c,k,w',rfl,hc,kw⟩
   ·refine zQ ?_
    refine ⟨_,_,us,rfl,g7.trans g8,b7.trans (SameBut.of g8),hD8,?_⟩;rw [ft,kHO em,jq];exact hu8
   ·refine wL ?_
    have fo:=kCN kw;refine ⟨_,rfl,.inl ⟨rfl,_,SqL.of hD8⟩,_,rfl,_,rfl,yS2,λ q nq=>?_⟩;have gq:=kE nq (.tup [.ref a,.ref b]);refine ⟨_,rfl,q,c,_,_,rfl,rfl,kD,gq _ _ hc,yS4,λ r H9 g9 hr9=>?_⟩;have g9:Same _ H9:=g9;have gg:=g8.trans (gq.trans g9);have hD9:=g9 _ _ (gq _ _ hD8);have hu9:AllAt MRow H9 us _:=hu8.imp λ p x z=>z.kept (gq.trans g9);have at9:=b37.trans (SameBut.of gg);have row:MRow H9 r (T,U,xJ Ps T U):=⟨a,b,k,w',hr9,at9 _ _ (nD hta) hta,at9 _ _ (nD htb) htb,kw.kept (gq.trans g9)⟩;refine ⟨D,_,_,rfl,rfl,hD9,(by rw [bg,mj];omega),?_⟩;refine ⟨_,_,us++[r],rfl,qQ nDH (g7.trans gg),(b7.trans (SameBut.of gg)).trans aN,by rw [kD,iM];rfl,?_⟩;rw [ft,fo,<-eM];exact AllAt.snoc (hu9.imp λ p x z=>z.upd hD9) (row.upd hD9)
  ·rintro σ H7 ⟨x6,x7,us,rfl,g7,b7,hD7,hu7⟩
   refine ⟨_,_,_,_,us,rfl,g7,b6.trans b7,hD7,?_⟩;rw [fb (by rw [fh,bg,fh];omega),<-ms] at hu7;exact hu7
 ·rintro σ H4 ⟨x4,x5,x6,x7,us,rfl,g4,b4,hD4,hu⟩
  rw [bg,ls] at hu;exact ⟨_,rfl,kq D H4 g4 nDH no ⟨us,hD4,hu⟩⟩
open Mth Sca Geo
structure TieL (H:Hp) (t p q:ag) (P Q:Pt):Prop where
 at_:H t=some (.lst [.ref p,.ref q])
 p:PtAt H p P
 q:PtAt H q Q
 zp:Sz 206 P
 zq:Sz 206 Q
 lp:Geo.Lw P
 lq:Geo.Lw Q
theorem TieL.kept {H H':Hp} {t p q:ag} {P Q:Pt} (h:TieL H t p q P Q) (g:Same H H'):TieL H' t p q P Q:=⟨g _ _ h.at_,h.p.kept g,h.q.kept g,h.zp,h.zq,h.lp,h.lq⟩
inductive kBR (vs:List V) (H:Hp) (Q':VK) (Y:XK):Prop
 | mk:∀ (p q:ag) (P Q:Pt),(vs=[.ref p,.ref q])->(PtAt H p P)->(PtAt H q Q)->(Sz 1700 P)->(Sz 1700 Q)->(Q' (.bl (aheadP P Q)) H)->kBR vs H Q' Y
theorem qO (B:Fx):Hs "_law_is_ahead" ["_law_p","_law_q"] 1 (kBR):=by
 refine qC B.X B.d34 cH λ f cdv A outer s H vs Q_ E nN hr h=>?_;obtain ⟨p,q,P,Q,rfl,⟨px,py,hp,hpx,hpy⟩,⟨qx,qy,hq,hqx,hqy⟩,⟨_,_,pz1,pz2,pz3,pz4⟩,⟨_,_,q1,q2,q3,q4⟩,k⟩:=h
 refine ⟨_,(kF (qP (kU (fH hr.units) (pix kJ (pv 0) kC) (pix kJ (pv 1) kC) (kX _)) (kI (kP (jR wG (kO Own.op_mulW (pix kJ (pix kJ (pv 0) kC) kC) (pix kJ (pix kJ (pv 1) kC) kC)) (kO Own.op_mulW (pix kJ (pix kJ (pv 1) kC) kC) (pix kJ (pix kJ (pv 0) kC) kC)) (kX _)))) qB)
   (kI (kP (jR wG (kO Own.op_mulW (pix kJ (pix kJ (pv 0) kC) kC) (pix kJ (pix kJ (pv 1) kC) kC)) (kO Own.op_mulW (pix kJ (pix kJ (pv 1) kC) kC) (pix kJ (pix kJ (pv 0) kC) kC)) (kX _))))),?_⟩
 try dsimp only [qE]
 have w:∀ {i:Int},i.natAbs<2 ^ 1700->i.natAbs<2 ^ 9000:=λ h=>up h (by decide);refine ⟨_,rfl,p,_,_,_,rfl,rfl,SqT.of hp,at0,_,rfl,q,_,_,_,rfl,rfl,SqT.of hq,at0,_,_,dt2 hpx,dt2 hqx,sh2 _ _,sh2 _ _,_,rfl,?_⟩;rw [if_pos (show (true=true) from rfl),kOH];unfold aheadP at k;by_cases c:P.n=Q.n/\P.d=Q.d
 ·rw [if_pos c] at k
  rw [decide_eq_true c];refine zQ ⟨_,rfl,p,_,_,_,rfl,rfl,SqT.of hp,at1,py,_,_,_,rfl,rfl,SqT.of hpy,at0,_,rfl,q,_,_,_,rfl,rfl,SqT.of hq,at1,qy,_,_,_,rfl,rfl,SqT.of hqy,at1,_,_,rfl,rfl,⟨w pz3,w q4⟩,?_⟩;exact ⟨_,rfl,q,_,_,_,rfl,rfl,SqT.of hq,at1,qy,_,_,_,rfl,rfl,SqT.of hqy,at0,_,rfl,p,_,_,_,rfl,rfl,SqT.of hp,at1,py,_,_,_,rfl,rfl,SqT.of hpy,at1,_,_,rfl,rfl,⟨w q3,w pz4⟩,_,_,rfl,rfl,k⟩
 ·rw [if_neg c] at k
  rw [decide_eq_false c];refine wL ⟨_,rfl,p,_,_,_,rfl,rfl,SqT.of hp,at0,px,_,_,_,rfl,rfl,SqT.of hpx,at0,_,rfl,q,_,_,_,rfl,rfl,SqT.of hq,at0,qx,_,_,_,rfl,rfl,SqT.of hqx,at1,_,_,rfl,rfl,⟨w pz1,w q2⟩,?_⟩;exact ⟨_,rfl,q,_,_,_,rfl,rfl,SqT.of hq,at0,qx,_,_,_,rfl,rfl,SqT.of hqx,at0,_,rfl,p,_,_,_,rfl,rfl,SqT.of hp,at0,px,_,_,_,rfl,rfl,SqT.of hpx,at1,_,_,rfl,rfl,⟨w q1,w pz2⟩,_,_,rfl,rfl,k⟩
inductive tV (f:Pt->Pt->Pt) (vs:List V) (H:Hp) (Q':VK) (Y:XK):Prop
 | mk:∀ (p q:ag) (P Q:Pt),(vs=[.ref p,.ref q])->(PtAt H p P)->(PtAt H q Q)->(Sz 206 P)->(Sz 206 Q)->(∀ x:ag,PtAt H x (f P Q)->Q' (.ref x) H)->tV f vs H Q' Y
theorem xM (B:Fx):Hs "_law_first" ["_law_p","_law_q"] 2 (tV aG):=by
 refine qC B.X B.d35 oF λ f cdv A outer s H vs Q_ E nN hr h=>?_;obtain ⟨p,q,P,Q,rfl,hp,hq,zp,zq,k⟩:=h;refine ⟨_,(kI (kP (xW (jT (pf (qO B) hr (p2 (pv 0) (pv 1)))) (pv 0) (pv 1)))),?_⟩
 try dsimp only [qE]
 refine ⟨_,rfl,_,rfl,p,q,P,Q,rfl,hp,hq,zp.up (by decide),zq.up (by decide),_,rfl,?_⟩;unfold aG at k;refine jC (λ c=>⟨_,rfl,k p (by rw [if_pos c];exact hp)⟩) (λ c=>⟨_,rfl,k q (by rw [if_neg c];exact hq)⟩)
theorem yF (B:Fx):Hs "_law_last" ["_law_p","_law_q"] 2 (tV uW):=by
 refine qC B.X B.d36 rX λ f cdv A outer s H vs Q_ E nN hr h=>?_;obtain ⟨p,q,P,Q,rfl,hp,hq,zp,zq,k⟩:=h;refine ⟨_,(kI (kP (xW (jT (pf (qO B) hr (p2 (pv 0) (pv 1)))) (pv 1) (pv 0)))),?_⟩
 try dsimp only [qE]
 refine ⟨_,rfl,_,rfl,p,q,P,Q,rfl,hp,hq,zp.up (by decide),zq.up (by decide),_,rfl,?_⟩;unfold uW at k;refine jC (λ c=>⟨_,rfl,k q (by rw [if_pos c];exact hq)⟩) (λ c=>⟨_,rfl,k p (by rw [if_neg c];exact hp)⟩)
theorem Sz.fir {B:Nat} {P Q:Pt} (h:Sz B P) (h':Sz B Q):Sz B (aG P Q):=by unfold aG;split<;>assumption
theorem Sz.las {B:Nat} {P Q:Pt} (h:Sz B P) (h':Sz B Q):Sz B (uW P Q):=by unfold uW;split<;>assumption
theorem wK {P Q R:Pt} (h:Geo.Lw P):sgn (pF P Q R)=sgn (det P Q R):=by rw [kEJ];exact bG (bc h.d h.e)
theorem dV (i j:Int):decide (V.int i=V.int j)=decide (i=j):=by simp
inductive rF (vs:List V) (H:Hp) (Q':VK) (Y:XK):Prop
 | mk:∀ (r t p q:ag) (R P Q:Pt),(vs=[.ref r,.ref t])->(PtAt H r R)->(Sz 1700 R)->(TieL H t p q P Q)->(∀ H':Hp,Same H H'->Q' (.bl (withinP R P Q)) H')->rF vs H Q' Y
theorem yX (B:Fx):Hs "_law_is_within" ["_law_r","_law_tie_here"] 3 (rF):=by
 refine qC B.X B.d37 aV λ f cdv A outer s H vs Q_ E nN hr h=>?_;obtain ⟨r,t,p,q,R,P,Q,rfl,hr',zr,T,k⟩:=h
 refine ⟨_,(kF (wE (i:=2) (j:=3) rfl nN rfl rfl (by decide) rfl rfl (p2 (pf (xM B) hr (p2 (pix kT (pv 1) kC) (pix kT (pv 1) kC))) (pf (yF B) hr (p2 (pix kT (pv 1) kC) (pix kT (pv 1) kC)))) rfl)
   (kI (kP (oR (jR vG (pf (jK B) hr (kH (pv 2) (kH (pv 3) (kH (pv 0) kZ)))) kC (kX _)) (oR (pf (qO B) hr (p2 (pv 2) (pv 0))) (kAG (pf (qO B) hr (p2 (pv 0) (pv 3))))))))),?_⟩
 try dsimp only [qE]
 refine ⟨_,rfl,t,_,_,_,rfl,rfl,SqL.of T.at_,at0,_,rfl,t,_,_,_,rfl,rfl,SqL.of T.at_,at1,p,q,P,Q,rfl,T.p,T.q,T.zp,T.zq,λ a ha=>?_⟩;refine ⟨_,rfl,t,_,_,_,rfl,rfl,SqL.of T.at_,at0,_,rfl,t,_,_,_,rfl,rfl,SqL.of T.at_,at1,p,q,P,Q,rfl,T.p,T.q,T.zp,T.zq,λ b hb=>?_⟩;have zf:=Sz.fir T.zp T.zq;have zl:=Sz.las T.zp T.zq;refine ⟨_,_,rfl,_,rfl,_,rfl,_,rfl,a,b,r,_,_,R,rfl,ha,hb,hr',zf.up (by decide),zl.up (by decide),zr,λ H1 g1=>?_⟩;rw [wK (Geo.Lw.fir T.lp T.lq)];refine ⟨rfl,_,rfl,?_⟩;unfold withinP at k;rw [dV];refine jC (λ c=>?_) (λ c=>?_)
 ·rw [c,ud] at k
  refine ⟨_,rfl,_,rfl,a,r,_,R,rfl,ha.kept g1,hr'.kept g1,zf.up (by decide),zr,_,rfl,?_⟩;refine jC (λ c2=>?_) (λ c2=>?_)
  ·rw [c2,ud] at k
   exact ⟨_,rfl,_,rfl,r,b,R,_,rfl,hr'.kept g1,hb.kept g1,zr,zl.up (by decide),k _ g1⟩
  ·rw [fv.mpr c2,kh] at k
   exact k _ g1
 ·rw [fv.mpr c,kh] at k
  exact k _ g1
open Mth Sca Geo
theorem kQX {K:ai} {H:Hp} {z:ag} {i j:Int} (e:H z=some (.lst [.int i,.int j])):Dt K H (.list [.int i,.int j]) (.ref z):=by
 unfold Dt;refine ⟨z,_,rfl,SqL.of e,?_⟩;unfold DtAll;refine ⟨_,_,rfl,(by unfold Dt;rfl),?_⟩;unfold DtAll;refine ⟨_,_,rfl,(by unfold Dt;rfl),?_⟩;unfold DtAll
 rfl
theorem kPS (i j:Int):iB (.list [.int i,.int j])=true:=by
 simp [iB,iJ,eX,jb,iS]
theorem kQT (a b c d:Int):eW (.list [.int a,.int b]) (.list [.int c,.int d])=decide (a=c/\b=d):=by
 rw [iH];simp [eW,qq]
inductive kGA (vs:List V) (H:Hp) (Q':VK) (Y:XK):Prop
 | mk:∀ (t u p q r s:ag) (P Q R S:Pt),(vs=[.ref t,.ref u])->(TieL H t p q P Q)->(TieL H u r s R S)->(∀ H':Hp,Same H H'->Q' (.bl (overP P Q R S)) H')->kGA vs H Q' Y
theorem cL (B:Fx):Hs "_law_are_over" ["_law_one","_law_other"] 3 (kGA):=by
 refine qC B.X B.d38 cI λ f cdv A outer s H vs Q_ E nN hr h=>?_;obtain ⟨t,u,p,q,r,s,P,Q,R,S,rfl,T,U,k⟩:=h
 refine ⟨_,(kF (qP (kU (fH hr.units) (jL (Nc:=["_law_r","_law_one"]) (js:=[none,some 0]) rfl rfl (yC (pv 1)) (CS.of rfl rfl) rfl (λ C s₂ H₂ fp pins=>(pgc 0)) (λ C s₂ H₂ fp pins D L=>(jW (jN (pf (jK B) hr (kH (pix (show IxR _ (kGV K) from kT) (pv 1) kC) (kH (pix (show IxR _ (kGV K) from kT) (pv 1) kC) (kH (pv 0) kZ)))))))) (jF (p2 kC kC)) (kX _)) (kI (kP fF)) qB)
   (kF (pst 2 nN (pf (yF B) hr (p2 (pf (xM B) hr (p2 (pix kT (pv 0) kC) (pix kT (pv 0) kC))) (pf (xM B) hr (p2 (pix kT (pv 1) kC) (pix kT (pv 1) kC))))))
   (kI (kP (pf (qO B) hr (p2 (pv 2) (pf (xM B) hr (p2 (pf (yF B) hr (p2 (pix kT (pv 0) kC) (pix kT (pv 0) kC))) (pf (yF B) hr (p2 (pix kT (pv 1) kC) (pix kT (pv 1) kC))))))))))),?_⟩
 try dsimp only [qE]
 have z1:=T.zp.up (C:=210) (by decide);have z2:=T.zq.up (C:=210) (by decide);have z3:=U.zp.up (C:=1700) (by decide);have z4:=U.zq.up (C:=1700) (by decide);refine ⟨_,rfl,u,rfl,⟨_,SqL.of U.at_⟩,λ D nD=>?_⟩;refine yR (xs:=[.ref r,.ref s]) (λ n σ H1=>∃ (x:Option V),σ=[x,some (.ref t)]/\H1 D=some (.lst (([sgn (det P Q R),sgn (det P Q S)].take n).map V.int))/\Same H H1) ⟨none,rfl,kD,kE nD _⟩ ?_ ?_ ?_
 ·rintro n σ H1 _ ⟨x,rfl,hD,g⟩
  exact SqL.of (g _ _ U.at_)
 ·rintro n x σ H1 hx ⟨y,rfl,hD,g⟩
  have T1:=T.kept g;have U1:=U.kept g;rcases ix2 hx with ⟨rfl,rfl⟩ | ⟨rfl,rfl⟩
  ·refine ⟨_,rfl,t,_,_,_,rfl,rfl,SqL.of T1.at_,at0,_,rfl,t,_,_,_,rfl,rfl,SqL.of T1.at_,at1,_,rfl,p,q,r,P,Q,R,rfl,T1.p,T1.q,U1.p,z1,z2,z3,λ H2 g2=>?_⟩
   rw [wK T.lp];exact ⟨_,g2 _ _ hD,(by show 0<sizeLine;decide),_,rfl,kD,qQ nD (g.trans g2)⟩
  ·refine ⟨_,rfl,t,_,_,_,rfl,rfl,SqL.of T1.at_,at0,_,rfl,t,_,_,_,rfl,rfl,SqL.of T1.at_,at1,_,rfl,p,q,s,P,Q,S,rfl,T1.p,T1.q,U1.q,z1,z2,z4,λ H2 g2=>?_⟩
   rw [wK T.lp];exact ⟨_,g2 _ _ hD,(by show 1<sizeLine;decide),_,rfl,kD,qQ nD (g.trans g2)⟩
 ·rintro σ H1 ⟨x,rfl,hD,g⟩
  refine ⟨yS2,λ l nl=>⟨_,_,kQX ((kE nl _) _ _ hD),kQX kD,kPS _ _,kPS _ _,_,rfl,?_⟩⟩;have g2:=g.trans (kE nl (.lst [.int 0,.int 0]));generalize upd H1 l (.lst [.int 0,.int 0])=H2 at *;rw [if_pos (show (true=true) from rfl),kQT];unfold overP at k;by_cases c:sgn (det P Q R)=0/\sgn (det P Q S)=0
  ·rw [decide_eq_true c]
   rw [decide_eq_true c,ud] at k;have T2:=T.kept g2;have U2:=U.kept g2;refine zQ ⟨_,rfl,t,_,_,_,rfl,rfl,SqL.of T2.at_,at0,_,rfl,t,_,_,_,rfl,rfl,SqL.of T2.at_,at1,p,q,P,Q,rfl,T2.p,T2.q,T.zp,T.zq,λ a1 e1=>?_⟩;refine ⟨_,rfl,u,_,_,_,rfl,rfl,SqL.of U2.at_,at0,_,rfl,u,_,_,_,rfl,rfl,SqL.of U2.at_,at1,r,s,R,S,rfl,U2.p,U2.q,U.zp,U.zq,λ a2 e2=>?_⟩;refine ⟨a1,a2,_,_,rfl,e1,e2,Sz.fir T.zp T.zq,Sz.fir U.zp U.zq,λ a3 e3=>?_⟩;refine ⟨_,rfl,_,rfl,t,_,_,_,rfl,rfl,SqL.of T2.at_,at0,_,rfl,t,_,_,_,rfl,rfl,SqL.of T2.at_,at1,p,q,P,Q,rfl,T2.p,T2.q,T.zp,T.zq,λ a4 e4=>?_⟩;refine ⟨_,rfl,u,_,_,_,rfl,rfl,SqL.of U2.at_,at0,_,rfl,u,_,_,_,rfl,rfl,SqL.of U2.at_,at1,r,s,R,S,rfl,U2.p,U2.q,U.zp,U.zq,λ a5 e5=>?_⟩;refine ⟨a4,a5,_,_,rfl,e4,e5,Sz.las T.zp T.zq,Sz.las U.zp U.zq,λ a6 e6=>?_⟩;exact ⟨a3,a6,_,_,rfl,e3,e6,(Sz.las (Sz.fir T.zp T.zq) (Sz.fir U.zp U.zq)).up (by decide),(Sz.fir (Sz.las T.zp T.zq) (Sz.las U.zp U.zq)).up (by decide),k _ g2⟩
  ·rw [decide_eq_false c]
   rw [decide_eq_false c,kh] at k;exact wL (k _ g2)
inductive mD (vs:List V) (H:Hp) (Q':VK) (Y:XK):Prop
 | mk:∀ (t u p q r s:ag) (P Q R S:Pt),(vs=[.ref t,.ref u])->(TieL H t p q P Q)->(TieL H u r s R S)->(∀ H':Hp,Same H H'->Q' (.bl (decide (sgn (det P Q R)*sgn (det P Q S)<0/\sgn (det R S P)*sgn (det R S Q)<0))) H')->mD vs H Q' Y
theorem vU (B:Fx):Hs "_law_are_crossed" ["_law_one","_law_other"] 3 (mD):=by
 refine qC B.X B.d39 vO λ f cdv A outer s H vs Q_ E nN hr h=>?_;obtain ⟨t,u,p,q,r,s,P,Q,R,S,rfl,T,U,k⟩:=h
 refine ⟨_,(kF (qP (kU kQF (kO vP (pf (jK B) hr (kH (pix kT (pv 0) kC) (kH (pix kT (pv 0) kC) (kH (pix kT (pv 1) kC) kZ)))) (pf (jK B) hr (kH (pix kT (pv 0) kC) (kH (pix kT (pv 0) kC) (kH (pix kT (pv 1) kC) kZ))))) kC (kX _)) (kI (kP fF)) qB)
   (kI (kP (jR wG (kO vP (pf (jK B) hr (kH (pix kT (pv 1) kC) (kH (pix kT (pv 1) kC) (kH (pix kT (pv 0) kC) kZ)))) (pf (jK B) hr (kH (pix kT (pv 1) kC) (kH (pix kT (pv 1) kC) (kH (pix kT (pv 0) kC) kZ))))) kC (kX _))))),?_⟩
 try dsimp only [qE]
 have y1:=T.zp.up (C:=210) (by decide);have y2:=T.zq.up (C:=210) (by decide);have y3:=U.zp.up (C:=210) (by decide);have y4:=U.zq.up (C:=210) (by decide);have z1:=T.zp.up (C:=1700) (by decide);have z2:=T.zq.up (C:=1700) (by decide);have z3:=U.zp.up (C:=1700) (by decide);have z4:=U.zq.up (C:=1700) (by decide);refine ⟨_,rfl,t,_,_,_,rfl,rfl,SqL.of T.at_,at0,_,rfl,t,_,_,_,rfl,rfl,SqL.of T.at_,at1,_,rfl,u,_,_,_,rfl,rfl,SqL.of U.at_,at0,p,q,r,P,Q,R,rfl,T.p,T.q,U.p,y1,y2,z3,λ H1 g1=>?_⟩;have T1:=T.kept g1;have U1:=U.kept g1;refine ⟨_,rfl,t,_,_,_,rfl,rfl,SqL.of T1.at_,at0,_,rfl,t,_,_,_,rfl,rfl,SqL.of T1.at_,at1,_,rfl,u,_,_,_,rfl,rfl,SqL.of U1.at_,at1,p,q,s,P,Q,S,rfl,T1.p,T1.q,U1.q,y1,y2,z4,λ H2 g2=>?_⟩;rw [wK T.lp,wK T.lp];have gA:=g1.trans g2;have T2:=T.kept gA;have U2:=U.kept gA;refine ⟨_,_,rfl,rfl,.inl (kBT _ 0),_,_,rfl,rfl,_,rfl,?_⟩;refine jC (λ c=>?_) (λ c=>?_)
 ·have c':¬ (sgn (det P Q R)*sgn (det P Q S)<0):=by have:=of_decide_eq_true c;omega
  have fin:=k _ gA;rw [decide_eq_false (λ z=>c' z.1)] at fin;exact fin
 ·have c':sgn (det P Q R)*sgn (det P Q S)<0:=tm.mp λ z=>c (decide_eq_true z)
  refine ⟨_,rfl,u,_,_,_,rfl,rfl,SqL.of U2.at_,at0,_,rfl,u,_,_,_,rfl,rfl,SqL.of U2.at_,at1,_,rfl,t,_,_,_,rfl,rfl,SqL.of T2.at_,at0,r,s,p,R,S,P,rfl,U2.p,U2.q,T2.p,y3,y4,z1,λ H3 g3=>?_⟩;have T3:=T2.kept g3;have U3:=U2.kept g3;refine ⟨_,rfl,u,_,_,_,rfl,rfl,SqL.of U3.at_,at0,_,rfl,u,_,_,_,rfl,rfl,SqL.of U3.at_,at1,_,rfl,t,_,_,_,rfl,rfl,SqL.of T3.at_,at1,r,s,q,R,S,Q,rfl,U3.p,U3.q,T3.q,y3,y4,z2,λ H4 g4=>?_⟩;rw [wK U.lp,wK U.lp];refine ⟨_,_,rfl,rfl,.inl (kBT _ 0),_,_,rfl,rfl,?_⟩;have fin:=k _ (gA.trans (g3.trans g4));rw [show decide (sgn (det P Q R)*sgn (det P Q S)<0/\sgn (det R S P)*sgn (det R S Q)<0)=decide (sgn (det R S P)*sgn (det R S Q)<0) by simp [c']] at fin;exact fin
open Mth Sca
theorem dBl (a b:Bool):decide (V.bl a=V.bl b)=decide (a=b):=by simp
inductive kGC (vs:List V) (H:Hp) (Q:VK) (Y:XK):Prop
 | mk:∀ (p q r:ag) (P R S:Pt),(vs=[.ref p,.ref q,.ref r])->(PtAt H p P)->(PtAt H q R)->(PtAt H r S)->(Sz 206 P)->(Sz 206 R)->(Sz 206 S)->(Geo.Lw P)->(∀ H':Hp,Same H H'->Q (.bl (sU P R S)) H')->kGC vs H Q Y
theorem uR (B:Fx):Hs "_law_lead_alike" ["_law_p","_law_q","_law_r"] 3 (kGC):=by
 refine qC B.X B.d40 uI λ f cdv A outer s H vs Q E nN hr h=>?_;obtain ⟨p,q,r,P,R,S,rfl,hp,hq,hr_,zp,zq,zr,lP,k⟩:=h;refine ⟨_,(kI (kP (oR (jR vG (pf (jK B) hr (kH (pv 0) (kH (pv 1) (kH (pv 2) kZ)))) kC (kX _)) (kAG (jR vG (pf (qO B) hr (p2 (pv 0) (pv 1))) (pf (qO B) hr (p2 (pv 0) (pv 2))) (kX _)))))),?_⟩
 try dsimp only [qE]
 refine ⟨_,rfl,_,rfl,_,rfl,p,q,r,P,R,S,rfl,hp,hq,hr_,zp.up (by decide),zq.up (by decide),zr.up (by decide),λ H1 g1=>?_⟩;refine ⟨rfl,_,rfl,?_⟩;rw [wK lP,dV];unfold sU at k;refine jC (λ c=>?_) (λ c=>?_)
 ·rw [c,ud] at k
  refine ⟨_,rfl,_,rfl,p,q,P,R,rfl,hp.kept g1,hq.kept g1,zp.up (by decide),zq.up (by decide),?_⟩;refine ⟨_,rfl,_,rfl,p,r,P,S,rfl,hp.kept g1,hr_.kept g1,zp.up (by decide),zr.up (by decide),?_⟩;refine ⟨rfl,?_⟩;rw [dBl];exact k _ g1
 ·rw [fv.mpr c,kh] at k
  exact k _ g1
def Two (B0:Nat) (H:Hp) (a:ag) (n d:Int):Prop:=H a=some (.tup [.int n,.int d])/\0<d/\n.natAbs<2 ^ B0/\d.natAbs<2 ^ B0
theorem Two.kept {B0:Nat} {H H':Hp} {a:ag} {n d:Int} (h:Two B0 H a n d) (g:Same H H'):Two B0 H' a n d:=⟨g _ _ h.1,h.2⟩
inductive kGB (vs:List V) (H:Hp) (Q':VK) (Y:XK):Prop
 | mk:∀ (t p q:ag) (P Q:Pt),(vs=[.ref t])->(TieL H t p q P Q)->(∀ (x a b c:ag) (a0 a1 b0 b1 c0 c1:Int) (H':Hp),Same H H'->H' x=some (.tup [.ref a,.ref b,.ref c])->Two 413 H' a a0 a1->Two 413 H' b b0 b1->Two 1239 H' c c0 c1 ->
   (∀ (N:Int) (p q:Geo.Z2),Geo.Sc N P p->Geo.Sc N Q q->Sc N (q.y-p.y) a0 a1/\Sc N (p.x-q.x) b0 b1/\Sc (N*N) (q.y*p.x-q.x*p.y) c0 c1)->Q' (.ref x) H')->kGB vs H Q' Y
theorem bV (B:Fx):Hs "_law_line" ["_law_tie_here"] 3 (kGB):=by
 refine qC B.X B.d41 rV λ f cdv A outer s H vs Q_ E nN hr h=>?_;obtain ⟨t,p,q,P,Q,rfl,T,k⟩:=h
 refine ⟨_,(kF (jX (pv 0) (kJR (n:=2) rfl (kQ (pgn 1 nN) (kQ (pgn 2 nN) qJ))))
   (kF (wE (i:=3) (j:=4) rfl nN rfl rfl (by decide) rfl rfl (p2 (pf (yE B) hr (p2 (pix kJ (pv 2) kC) (pix kJ (pv 1) kC))) (pf (yE B) hr (p2 (pix kJ (pv 1) kC) (pix kJ (pv 2) kC)))) rfl)
   (kI (kP (kY (kH (pv 3) (kH (pv 4) (kH (pf (yD B) hr (p2 (pf (jZ B) hr (p2 (pv 3) (pix kJ (pv 1) kC))) (pf (jZ B) hr (p2 (pv 4) (pix kJ (pv 1) kC))))) kZ)))))))),?_⟩
 try dsimp only [qE]
 obtain ⟨px,py,hp,hpx,hpy⟩:=T.p;obtain ⟨qx,qy,hq,hqx,hqy⟩:=T.q;obtain ⟨_,_,y1,y2,y3,y4⟩:=T.zp;obtain ⟨_,_,w1,w2,w3,w4⟩:=T.zq;have lp:=T.lp;have lq:=T.lq;have u:∀ {i:Int},i.natAbs<2 ^ 206->i.natAbs<2 ^ 4000:=λ h=>up h (by decide);have u1:∀ {i:Int},i.natAbs<2 ^ 413->i.natAbs<2 ^ 4000:=λ h=>up h (by decide);have u2:∀ {i:Int},i.natAbs<2 ^ (413+206)->i.natAbs<2 ^ 4000:=λ h=>up h (by decide);have nz:∀ {i j:Int},0<i->0<j->i*j≠0:=λ h1 h2=>DW (bc h1 h2);refine ⟨_,rfl,t,_,rfl,SqL.of T.at_,rfl,_,_,rfl,_,_,rfl,rfl,?_⟩;refine ⟨_,rfl,q,_,_,_,rfl,rfl,SqT.of hq,at1,_,rfl,p,_,_,_,rfl,rfl,SqT.of hp,at1,qy,py,_,_,_,_,rfl,hqy,hpy,⟨u w3,u w4,u y3,u y4⟩,nz lq.e lp.e,λ a0 a1 xa H1 f1 g1 e1=>?_⟩;refine ⟨_,rfl,p,_,_,_,rfl,rfl,SqT.of (g1 _ _ hp),at0,_,rfl,q,_,_,_,rfl,rfl,SqT.of (g1 _ _ hq),at0,px,qx,_,_,_,_,rfl,g1 _ _ hpx,g1 _ _ hqx,⟨u y1,u y2,u w1,u w2⟩,nz lp.d lq.d,λ b0 b1 xb H2 f2 g2 e2=>?_⟩;refine ⟨_,_,rfl,?_⟩;have ka:a0.natAbs<2 ^ 413:=cj f1.ln (qI (kL w3 y4) (kL y3 w4));have ka':a1.natAbs<2 ^ 413:=cj f1.ld (up (kL w4 y4) (by decide));have kb:b0.natAbs<2 ^ 413:=cj f2.ln (qI (kL y1 w2) (kL w1 y2));have kb':b1.natAbs<2 ^ 413:=cj f2.ld (up (kL y2 w2) (by decide));have g12:=g1.trans g2;refine ⟨_,rfl,_,rfl,_,rfl,_,rfl,p,_,_,_,rfl,rfl,SqT.of (g12 _ _ hp),at0,xa,px,_,_,_,_,rfl,g2 _ _ e1,g12 _ _ hpx,⟨u1 ka,u1 ka',u y1,u y2⟩,nz f1.pos lp.d,λ m0 m1 xm H3 f3 g3 e3=>?_⟩;have km:m0.natAbs<2 ^ (413+206):=cj f3.ln (kL ka y1);have km':m1.natAbs<2 ^ (413+206):=cj f3.ld (kL ka' y2);have g13:=g12.trans g3;refine ⟨_,rfl,_,rfl,p,_,_,_,rfl,rfl,SqT.of (g13 _ _ hp),at1,xb,py,_,_,_,_,rfl,g3 _ _ e2,g13 _ _ hpy,⟨u1 kb,u1 kb',u y3,u y4⟩,nz f2.pos lp.e,λ r0 r1 xr H4 f4 g4 e4=>?_⟩;have kr:r0.natAbs<2 ^ (413+206):=cj f4.ln (kL kb y3);have kr':r1.natAbs<2 ^ (413+206):=cj f4.ld (kL kb' y4);refine ⟨xm,xr,_,_,_,_,rfl,g4 _ _ e3,e4,⟨u2 km,u2 km',u2 kr,u2 kr'⟩,nz f3.pos f4.pos,λ c0 c1 xc H5 f5 g5 e5=>⟨yS3,λ x nx=>?_⟩⟩;have kc:c0.natAbs<2 ^ 1239:=cj f5.ln (vZ (kL km kr') (kL kr km'));have kc':c1.natAbs<2 ^ 1239:=cj f5.ld (up (kL km' kr') (by decide));have gx:=kE nx (.tup [.ref xa,.ref xb,.ref xc]);have g4x:=g4.trans (g5.trans gx);refine k x xa xb xc a0 a1 b0 b1 c0 c1 _ (g13.trans g4x) kD ⟨(g2.trans (g3.trans g4x)) _ _ e1,f1.pos,ka,ka'⟩ ⟨(g3.trans g4x) _ _ e2,f2.pos,kb,kb'⟩ ⟨gx _ _ e5,f5.pos,kc,kc'⟩ λ N p' q' hP hQ=>?_;have A:=Sc.less ⟨lq.e,hQ.y⟩ ⟨lp.e,hP.y⟩ f1;have B':=Sc.less ⟨lp.d,hP.x⟩ ⟨lq.d,hQ.x⟩ f2;have C:=(A.times ⟨lp.d,hP.x⟩ f3).plus (B'.times ⟨lp.e,hP.y⟩ f4) f5;refine ⟨A,B',?_⟩;rw [show q'.y*p'.x-q'.x*p'.y=(q'.y-p'.y)*p'.x+(p'.x-q'.x)*p'.y by grind];exact C
inductive kBL (vs:List V) (H:Hp) (Q':VK) (Y:XK):Prop
 | mk:∀ (a b c d:ag) (a0 a1 b0 b1 c0 c1 d0 d1:Int) (A B C D:Nat),(vs=[.ref a,.ref b,.ref c,.ref d])->(Two A H a a0 a1)->(Two B H b b0 b1)->(Two C H c c0 c1)->(Two D H d d0 d1)->(A+D=B+C)->(A<=1300)->(B<=1300)->(C<=1300)->(D<=1300)->(∀ (x:ag) (n e:Int) (H':Hp),Same H H'->Two (A+D+(B+C)+1) H' x n e ->
   (∀ (S S' T T' X Y Z W:Int),Sc S X a0 a1->Sc T W d0 d1->Sc S' Y b0 b1->Sc T' Z c0 c1->S*T=S'*T'->Sc (S*T) (X*W-Y*Z) n e)->Q' (.ref x) H')->kBL vs H Q' Y
theorem zE (B:Fx):Hs "_law_mixed" ["_law_a","_law_b","_law_c","_law_d"] 3 (kBL):=by
 refine qC B.X B.d42 oE λ f cdv A outer s H vs Q_ E nN hr h=>?_;obtain ⟨a,b,c,d,a0,a1,b0,b1,c0,c1,d0,d1,A0,B0,C0,D0,rfl,ha,hb,hc,hd,ab,lA,lB,lC,lD,k⟩:=h;refine ⟨_,(kI (kP (pf (yE B) hr (p2 (pf (jZ B) hr (p2 (pv 0) (pv 3))) (pf (jZ B) hr (p2 (pv 1) (pv 2))))))),?_⟩
 try dsimp only [qE]
 obtain ⟨ea,pa,a2,a3⟩:=ha;obtain ⟨eb,pb,b2,b3⟩:=hb;obtain ⟨ec,pc,c2,c3⟩:=hc;obtain ⟨ed,pd,d2,d3⟩:=hd;have nz:∀ {i j:Int},0<i->0<j->i*j≠0:=λ h1 h2=>DW (bc h1 h2);refine ⟨_,rfl,_,rfl,a,d,_,_,_,_,rfl,ea,ed,⟨up a2 (by omega),up a3 (by omega),up d2 (by omega),up d3 (by omega)⟩,nz pa pd,λ m0 m1 xm H1 f1 g1 e1=>?_⟩;refine ⟨_,rfl,_,rfl,b,c,_,_,_,_,rfl,g1 _ _ eb,g1 _ _ ec,⟨up b2 (by omega),up b3 (by omega),up c2 (by omega),up c3 (by omega)⟩,nz pb pc,λ r0 r1 xr H2 f2 g2 e2=>?_⟩;have km:m0.natAbs<2 ^ (A0+D0):=cj f1.ln (kL a2 d2);have km':m1.natAbs<2 ^ (A0+D0):=cj f1.ld (kL a3 d3);have kr:r0.natAbs<2 ^ (B0+C0):=cj f2.ln (kL b2 c2);have kr':r1.natAbs<2 ^ (B0+C0):=cj f2.ld (kL b3 c3);refine ⟨xm,xr,_,_,_,_,rfl,g2 _ _ e1,e2,⟨up km (by omega),up km' (by omega),up kr (by omega),up kr' (by omega)⟩,nz f1.pos f2.pos,λ n e x H3 f3 g3 e3=>?_⟩;have kn:n.natAbs<2 ^ (A0+D0+(B0+C0)+1):=cj f3.ln (qI (kL km kr') (by rw [Nat.add_comm (A0+D0)];exact kL kr km'));have ke:e.natAbs<2 ^ (A0+D0+(B0+C0)+1):=cj f3.ld (up (kL km' kr') (by omega));refine k x n e H3 (g1.trans (g2.trans g3)) ⟨e3,f3.pos,kn,ke⟩ λ S S' T T' X Y Z W hX hW hY hZ es=>?_;have h1:=hX.times hW f1;have h2:=hY.times hZ f2;rw [<-es] at h2;exact h1.less h2 f3
inductive kBK (vs:List V) (H:Hp) (Q':VK) (Y:XK):Prop
 | mk:∀ (a b:ag) (a0 a1 b0 b1:Int),(vs=[.ref a,.ref b])->(Two 3400 H a a0 a1)->(Two 1700 H b b0 b1)->(b0≠0)->(kPA (a0*b1) (a1*b0) H Q')->kBK vs H Q' Y
theorem bU (B:Fx):Hs "_law_over" ["_law_one","_law_other"] 3 (kBK):=by
 refine qC B.X B.d43 rT λ f cdv A outer s H vs Q_ E nN hr h=>?_;obtain ⟨a,b,a0,a1,b0,b1,rfl,ha,hb,b0n,k⟩:=h;refine ⟨_,(kI (kP (pf (xF B) hr (p2 (kO Own.op_mulW (pix kJ (pv 0) kC) (pix kJ (pv 1) kC)) (kO Own.op_mulW (pix kJ (pv 0) kC) (pix kJ (pv 1) kC)))))),?_⟩
 try dsimp only [qE]
 obtain ⟨ea,pa,a2,a3⟩:=ha;obtain ⟨eb,pb,b2,b3⟩:=hb;have u:∀ {i:Int},i.natAbs<2 ^ 3400->i.natAbs<2 ^ 9000:=λ h=>up h (by decide);have u':∀ {i:Int},i.natAbs<2 ^ 1700->i.natAbs<2 ^ 9000:=λ h=>up h (by decide);refine ⟨_,rfl,a,_,_,_,rfl,rfl,SqT.of ea,at0,_,rfl,b,_,_,_,rfl,rfl,SqT.of eb,at1,_,_,rfl,rfl,⟨u a2,u' b3⟩,_,rfl,a,_,_,_,rfl,rfl,SqT.of ea,at1,_,rfl,b,_,_,_,rfl,rfl,SqT.of eb,at0,_,_,rfl,rfl,⟨u a3,u' b2⟩,_,_,rfl,(λ z=>(eZ.mp z).elim (λ y=>by omega) b0n),up (kL a3 b2) (by decide),k⟩
inductive mE (vs:List V) (H:Hp) (Q':VK) (Y:XK):Prop
 | mk:∀ (t u p q r s:ag) (P Q R S:Pt),(vs=[.ref t,.ref u])->(TieL H t p q P Q)->(TieL H u r s R S)->(sgn (det P Q R)*sgn (det P Q S)<0)->(∀ (x:ag) (H':Hp),Same H H'->PtAt H' x (Geo.crP P Q R S)->Q' (.ref x) H')->mE vs H Q' Y
theorem vT (B:Fx):Hs "_law_cross_point" ["_law_one","_law_other"] 4 (mE):=by
 refine qC B.X B.d44 vN λ f cdv A outer s H vs Q_ E nN hr h=>?_;obtain ⟨t,u,p,q,r,s,P,Q,R,S,rfl,T,U,neg,k⟩:=h
 refine ⟨_,(kF (jX (pf (bV B) hr (p1 (pv 0))) (jE (n:=3) rfl (kQ (pgn 2 nN) (kQ (pgn 3 nN) (kQ (pgn 4 nN) qJ)))))
   (kF (jX (pf (bV B) hr (p1 (pv 1))) (jE (n:=3) rfl (kQ (pgn 5 nN) (kQ (pgn 6 nN) (kQ (pgn 7 nN) qJ)))))
   (kF (pst 8 nN (pf (zE B) hr (kH (pv 2) (kH (pv 3) (kH (pv 5) (kH (pv 6) kZ))))))
   (kI (kP (kY (p2 (pf (bU B) hr (p2 (pf (zE B) hr (kH (pv 4) (kH (pv 3) (kH (pv 7) (kH (pv 6) kZ))))) (pv 8))) (pf (bU B) hr (p2 (pf (zE B) hr (kH (pv 2) (kH (pv 4) (kH (pv 5) (kH (pv 7) kZ))))) (pv 8)))))))))),?_⟩
 try dsimp only [qE]
 obtain ⟨N,zp,zq,zr,zs,n0,hp,hq,hr_,hs⟩:=Geo.scale4 T.lp T.lq U.lp U.lq;have opp:=Geo.opp_ne n0 hp hq hr_ hs T.lp T.lq U.lp U.lq neg;refine ⟨_,rfl,t,p,q,P,Q,rfl,T,λ x1 a b c a0 a1 b0 b1 c0 c1 H1 g1 hx1 A1 B1 C1 s1=>?_⟩;refine ⟨x1,_,rfl,SqT.of hx1,rfl,_,_,rfl,_,_,rfl,_,_,rfl,rfl,?_⟩;refine ⟨_,rfl,u,r,s,R,S,rfl,U.kept g1,λ x2 d e f d0 d1 e0 e1 f0 f1 H2 g2 hx2 D1 E1 F1 s2=>?_⟩;refine ⟨x2,_,rfl,SqT.of hx2,rfl,_,_,rfl,_,_,rfl,_,_,rfl,rfl,?_⟩;obtain ⟨sa,sb,sc⟩:=s1 N zp zq hp hq;obtain ⟨sd,se,sf⟩:=s2 N zr zs hr_ hs;refine ⟨_,rfl,_,rfl,_,rfl,_,rfl,a,b,d,e,_,_,_,_,_,_,_,_,413,413,413,413,rfl,A1.kept g2,B1.kept g2,D1,E1,rfl,by decide,by decide,by decide,by decide,λ xu u0 u1 H3 g3 hu su=>?_⟩;have su:=su N N N N _ _ _ _ sa se sb sd rfl;have g23:=g2.trans g3;refine ⟨_,rfl,_,rfl,_,rfl,_,rfl,c,b,f,e,_,_,_,_,_,_,_,_,1239,413,1239,413,rfl,C1.kept g23,B1.kept g23,F1.kept g3,E1.kept g3,rfl,by decide,by decide,by decide,by decide,λ xx n1 e1' H4 g4 hn sn=>?_⟩;have sn:=sn (N*N) N N (N*N) _ _ _ _ sc se sb sf (by grind)
 have u0n:u0≠0:=λ z=>by
  have h:=su.2;rw [z,jy] at h;rcases eZ.mp h.symm with y | y
  ·exact opp y
  ·have:=su.1;omega
 have upT:∀ {A0 C0:Nat} {H:Hp} {a:ag} {n d:Int},A0<=C0->Two A0 H a n d->Two C0 H a n d:=λ h z=>⟨z.1,z.2.1,up z.2.2.1 h,up z.2.2.2 h⟩;refine ⟨_,rfl,xx,xu,_,_,_,_,rfl,upT (by decide) hn,upT (by decide) (hu.kept g4),u0n,λ n' d' px H5 F5 g5 e5=>?_⟩;have g45:=g4.trans g5;have g25:=g23.trans g45;have g35:=g3.trans g45;refine ⟨_,rfl,_,rfl,_,rfl,_,rfl,a,c,d,f,_,_,_,_,_,_,_,_,413,1239,413,1239,rfl,A1.kept g25,C1.kept g25,D1.kept g35,F1.kept g35,rfl,by decide,by decide,by decide,by decide,λ xy n2 e2' H6 g6 hn2 sn2=>?_⟩;have sn2:=sn2 N (N*N) (N*N) N _ _ _ _ sa sf sc sd (by grind);refine ⟨_,rfl,xy,xu,_,_,_,_,rfl,upT (by decide) hn2,upT (by decide) (hu.kept (g45.trans g6)),u0n,λ m' e' py H7 F7 g7 e7=>⟨yS2,λ x nx=>?_⟩⟩;have gx:=kE nx (.tup [.ref px,.ref py]);have fin:=Geo.law_cross (X:=⟨n',d',m',e'⟩) n0 hp hq hr_ hs T.lp T.lq U.lp U.lq (x0:=n1) (x1:=e1') (y0:=n2) (y1:=e2') (u0:=u0) (u1:=u1) ?_ ?_ ?_ u0n F5 F7
 ·refine k x _ (g1.trans (g25.trans (g6.trans (g7.trans gx)))) ?_
  rw [<-fin];exact ⟨px,py,kD,(g6.trans (g7.trans gx)) _ _ e5,gx _ _ e7⟩
 ·exact sn
 ·have h:=sn2
  rw [show N*(N*N)=N*N*N by grind] at h;exact h
 ·exact su
open Mth Sca
theorem kBC {a D:ag} {xs:List Nat} (f:Nat->Bool) (gv:Nat->V) {tst:TT} {te:TE} {rest:St} {N0:St->Hp->Prop} {H0:Hp} (nD:H0 D=none) (ha:H0 a=some (.tup (xs.map vn))) (len:xs.length<=900)
  (ht:∀ p∈xs,∀ (H1:Hp) (Q:Bool->Hp->Prop),Same H0 H1->(∀ H2,Same H1 H2->Q (f p) H2)->tst (some (vn p)::rest) H1 Q)
  (he:∀ p∈xs,∀ (H1:Hp) (Q:VK),Same H0 H1->Q (gv p) H1->te (some (vn p)::rest) H1 Q)
  (k:∀ σ H',Same H0 H'->H' D=some (.lst ((xs.filter f).map gv))->N0 σ H'):uD (Itt K a) (aB 0) (bIf tst (kOQ D te)) N0 (none::rest) (upd H0 D (.lst [])):=by
 refine yQ (xs:=xs.map vn) (λ n σ H1=>∃ x,σ=x::rest/\Same H0 H1/\H1 D=some (.lst (((xs.take n).filter f).map gv))) ⟨none,rfl,kE nD _,kD⟩ ?_ ?_ ?_
 ·rintro n σ H1 _ ⟨x,rfl,g,_⟩
  exact SqT.of (g _ _ ha)
 ·rintro n y σ H1 hy ⟨x,rfl,g,hD⟩
  rw [bq] at hy;obtain ⟨m,ey,rfl⟩:=eE.mp hy;have mm:=eJ ey;have fs:=nB f ey;have fl:=kCU f xs n;refine ht m mm H1 _ g λ H2 g2=>?_;refine jC (λ c=>?_) (λ c=>?_)
  ·refine he m mm H2 _ (g.trans g2) ?_
   refine ⟨_,g2 _ _ hD,qR (by rw [bg];omega),?_⟩;refine ⟨_,rfl,qQ nD (g.trans g2),?_⟩;rw [kD,fs,if_pos c,iM]
   rfl
  ·refine ⟨_,rfl,g.trans g2,?_⟩
   rw [fs,if_neg c,jq];exact g2 _ _ hD
 ·rintro σ H1 ⟨x,rfl,g,hD⟩
  rw [bg,sj] at hD;exact k _ H1 g hD
theorem kLE {a D:ag} {xs:List Nat} (gv:Nat->V) {te:TE} {rest:St} {N0:St->Hp->Prop} {H0:Hp} (nD:H0 D=none) (ha:H0 a=some (.tup (xs.map vn))) (len:xs.length<=900)
  (he:∀ p∈xs,∀ (H1:Hp) (Q:VK),Same H0 H1->Q (gv p) H1->te (some (vn p)::rest) H1 Q)
  (k:∀ σ H',Same H0 H'->H' D=some (.lst (xs.map gv))->N0 σ H'):uD (Itt K a) (aB 0) (kOQ D te) N0 (none::rest) (upd H0 D (.lst [])):=by
 refine yQ (xs:=xs.map vn) (λ n σ H1=>∃ x,σ=x::rest/\Same H0 H1/\H1 D=some (.lst ((xs.take n).map gv))) ⟨none,rfl,kE nD _,kD⟩ ?_ ?_ ?_
 ·rintro n σ H1 _ ⟨x,rfl,g,_⟩
  exact SqT.of (g _ _ ha)
 ·rintro n y σ H1 hy ⟨x,rfl,g,hD⟩
  rw [bq] at hy;obtain ⟨m,ey,rfl⟩:=eE.mp hy;have fl:=CT n xs;refine he m (eJ ey) H1 _ g ?_;refine ⟨_,hD,qR (by rw [bg];omega),?_⟩;refine ⟨_,rfl,qQ nD g,?_⟩;rw [kD,yq,ey,ua,iM]
  rfl
 ·rintro σ H1 ⟨x,rfl,g,hD⟩
  rw [bg,sj] at hD;exact k _ H1 g hD
def zP (ns:List Nat):vm:=.list (ns.map λ n:Nat=>DE (n:Int))
theorem kHX (l:List Nat):eX (l.map λ n:Nat=>DE (n:Int))=true/\iS (l.map λ n:Nat=>DE (n:Int))=0:=by
 induction l with
 | nil=>exact ⟨rfl,rfl⟩
 | cons x l ih=>simp [eX,iJ,iS,jb,ih.1,ih.2]
theorem uX (ns:List Nat):iB (zP ns)=true:=by
 obtain ⟨h1,h2⟩:=kHX ns;unfold zP iB;simp [iJ,jb,h1,h2]
theorem kKT {K:ai} {H:Hp} (row:List Nat):DtAll K H (row.map λ n:Nat=>DE (n:Int)) (row.map vn):=by
 induction row with
 | nil=>unfold DtAll;rfl
 | cons x r ih =>
  rw [iV,iV];unfold DtAll;exact ⟨_,_,rfl,(by unfold Dt;rfl),ih⟩
theorem uY {H:Hp} {l:ag} {ns:List Nat} (h:H l=some (.lst (ns.map vn))):Dt K H (zP ns) (.ref l):=by
 unfold zP Dt;exact ⟨l,_,rfl,SqL.of h,kKT ns⟩
theorem sW (ns:List Nat):(!PyData.eqv (zP ns) (zP []))=decide (ns≠[]):=by
 cases ns with
 | nil=>simp [zP,eW,qq]
 | cons x r=>simp [zP,eW,qq]
theorem kPR (Ps:List Pt) {T U:Nat×Nat} (tl:T.1<T.2) (ul:U.1<U.2) (ne:T≠U) (h:T.1=U.1\/T.1=U.2\/T.2=U.1\/T.2=U.2) :
  ∃ e x y,[T.1,T.2].filter (λ p=>decide (p∈[U.1,U.2]))=[e]/\[T.1,T.2,U.1,U.2].filter (λ p=>decide (p≠e))=[x,y]/\xJ Ps T U=gH (pt Ps e) (pt Ps x) (pt Ps y)/\e∈[T.1,T.2]/\x∈[T.1,T.2]/\y∈[U.1,U.2]:=by
 obtain ⟨a,b⟩:=T;obtain ⟨c,d⟩:=U;dsimp only at *;unfold xJ;dsimp only;have fc:∀ {p:Nat->Bool} {x:Nat} {l:List Nat},(x::l).filter p=if p x then x::l.filter p else l.filter p:=λ {p x l}=>by rw [zk]
 by_cases c1:a=c
 ·subst c1
  have bd:b≠d:=λ z=>ne (by rw [z]);refine ⟨a,b,d,?_,?_,by rw [if_pos rfl],by simp,by simp,by simp⟩
  ·simp [fc,show b≠a by omega,bd]
  ·simp [fc,show b≠a by omega,show d≠a by omega]
 rw [if_neg c1];by_cases c2:a=d
 ·subst c2
  refine ⟨a,b,c,?_,?_,by rw [if_pos rfl],by simp,by simp,by simp⟩
  ·simp [fc,show b≠a by omega,show b≠c by omega]
  ·simp [fc,show b≠a by omega,show c≠a by omega]
 rw [if_neg c2];by_cases c3:b=c
 ·subst c3
  refine ⟨b,a,d,?_,?_,by rw [if_pos rfl],by simp,by simp,by simp⟩
  ·simp [fc,c1,c2]
  ·simp [fc,show a≠b by omega,show d≠b by omega]
 rw [if_neg c3];have c4:b=d:=by omega
 subst c4;refine ⟨b,a,c,?_,?_,by rw [if_pos rfl],by simp,by simp,by simp⟩
 ·simp [fc,c1,c2]
 ·simp [fc,show a≠b by omega,show c≠b by omega]
theorem kHL {T U:Nat×Nat} (nj:¬ (T.1=U.1\/T.1=U.2\/T.2=U.1\/T.2=U.2)):[T.1,T.2].filter (λ p=>decide (p∈[U.1,U.2]))=[]:=by
 rw [List.filter_eq_nil_iff];intro p hp;simp at hp ⊢;omega
theorem kIO (Ps:List Pt) (a b c d:Nat) (ov:Geo.overP (pt Ps a) (pt Ps b) (pt Ps c) (pt Ps d)=false) :
  let M:=[c,d].filter (λ p=>Geo.withinP (pt Ps p) (pt Ps a) (pt Ps b))++[a,b].filter (λ p=>Geo.withinP (pt Ps p) (pt Ps c) (pt Ps d))
  (M=[]/\cN Ps a b c d=if sgn (det (pt Ps a) (pt Ps b) (pt Ps c))*sgn (det (pt Ps a) (pt Ps b) (pt Ps d))<0/\sgn (det (pt Ps c) (pt Ps d) (pt Ps a))*sgn (det (pt Ps c) (pt Ps d) (pt Ps b))<0 then .cross (Geo.crP (pt Ps a) (pt Ps b) (pt Ps c) (pt Ps d)) else .no)\/∃ n r,M=n::r/\cN Ps a b c d=.touch n:=by
 dsimp only;unfold cN;rw [ov];have fc:∀ {p:Nat->Bool} {x:Nat} {l:List Nat},(x::l).filter p=if p x then x::l.filter p else l.filter p:=λ {p x l}=>by rw [zk]
 simp only [fc,List.filter_nil]
 cases Geo.withinP (pt Ps c) (pt Ps a) (pt Ps b)
 ·cases Geo.withinP (pt Ps d) (pt Ps a) (pt Ps b)
  ·cases Geo.withinP (pt Ps a) (pt Ps c) (pt Ps d)
   ·cases Geo.withinP (pt Ps b) (pt Ps c) (pt Ps d)
    ·exact .inl ⟨rfl,rfl⟩
    ·exact .inr ⟨b,_,rfl,rfl⟩
   ·exact .inr ⟨a,_,rfl,rfl⟩
  ·exact .inr ⟨d,_,rfl,rfl⟩
 ·exact .inr ⟨c,_,rfl,rfl⟩
inductive lZ (vs:List V) (H:Hp) (Q:VK) (Y:XK):Prop
 | mk:∀ (td t u:ag) (Ps:List Pt) (T U:Nat×Nat),(vs=[.ref td,.ref t,.ref u])->(DAt H td Ps)->(lF Ps)->(H t=some (.tup [vn T.1,vn T.2]))->(H u=some (.tup [vn U.1,vn U.2]))->(T.1<T.2)->(U.1<U.2)->(T≠U)->(T.2<Ps.length)->(U.2<Ps.length) ->
   (∀ (v:V) (H':Hp),Same H H'->MOAt H' v (xJ Ps T U)->Q v H')->lZ vs H Q Y
theorem fN (B:Fx):Hs "_law_meeting" ["_law_drawing","_law_tie_here","_law_other"] 5 (lZ):=by
 refine qC B.X B.d45 dM λ f cdv A outer s H vs Q_ E nN hr h=>?_;obtain ⟨td,t,u,Ps,T,U,rfl,hd,dl,ht,hu,tl,ul,ne,tb,ub,k⟩:=h
 refine ⟨_,(kF (pst 3 nN (jL (Nc:=["_law_p","_law_other"]) (js:=[none,some 2]) rfl rfl (yN (pv 1)) (CS.of rfl rfl) rfl (λ C s₂ H₂ fp pins=>(pgc 0)) (λ C s₂ H₂ fp pins D L=>(xT (kU (show OpR _ _ (rIn K false) from yW) (pv 0) (pv 1) rfl) (jN (pv 0))))))
   (kF (jX (kY (p2 (jL (Nc:=["_law_p","_law_drawing"]) (js:=[none,some 0]) rfl rfl (yN (pv 1)) (CS.of rfl rfl) rfl (λ C s₂ H₂ fp pins=>(pgc 0)) (λ C s₂ H₂ fp pins D L=>(jW (jN (pix (show IxR _ (oM K) from kJ) (pv 1) (pv 0)))))) (jL (Nc:=["_law_p","_law_drawing"]) (js:=[none,some 0]) rfl rfl (yN (pv 2)) (CS.of rfl rfl) rfl (λ C s₂ H₂ fp pins=>(pgc 0)) (λ C s₂ H₂ fp pins D L=>(jW (jN (pix (show IxR _ (oM K) from kJ) (pv 1) (pv 0)))))))) (jE (n:=2) rfl (kQ (pgn 4 nN) (kQ (pgn 5 nN) qJ))))
   (kF (qP (kU (fH hr.units) (pv 3) (jF kZ) (kX _)) (kF (kCF (i:=6) (Nc:=["_law_p","_law_drawing","_law_ends"]) (js:=[none,some 0,some 3]) rfl rfl nN rfl (Ds rfl) (yN (kO uQ (pv 1) (pv 2))) (CS.of rfl rfl) rfl (λ C s₂ H₂ fp pins=>(pgc 0)) (λ C s₂ H₂ fp pins D L=>(xT (kU sI (pv 0) (pix (show IxR _ (kGV K) from kT) (pv 2) kC) (kX _)) (jN (pix (show IxR _ (oM K) from kJ) (pv 1) (pv 0))))))
   (kI (kP (xW (jT (pf (uR B) hr (kH (pix kJ (pv 0) (pix kT (pv 3) kC)) (kH (pix kT (pv 6) kC) (kH (pix kT (pv 6) kC) kZ))))) (kY (p2 jY jJ)) jJ)))) qB)
   (kF (qP (jT (pf (cL B) hr (p2 (pv 4) (pv 5)))) (kI (kP (kY (p2 jY jJ)))) qB)
   (kF (pst 3 nN (kO vR (jL (Nc:=["_law_p","_law_one","_law_drawing"]) (js:=[none,some 4,some 0]) rfl rfl (yN (pv 2)) (CS.of rfl rfl) rfl (λ C s₂ H₂ fp pins=>(pgc 0)) (λ C s₂ H₂ fp pins D L=>(xT (jT (pf (yX B) hr (p2 (pix (show IxR _ (oM K) from kJ) (pv 2) (pv 0)) (pv 1)))) (jN (pv 0))))) (jL (Nc:=["_law_p","_law_two","_law_drawing"]) (js:=[none,some 5,some 0]) rfl rfl (yN (pv 1)) (CS.of rfl rfl) rfl (λ C s₂ H₂ fp pins=>(pgc 0)) (λ C s₂ H₂ fp pins D L=>(xT (jT (pf (yX B) hr (p2 (pix (show IxR _ (oM K) from kJ) (pv 2) (pv 0)) (pv 1)))) (jN (pv 0)))))))
   (kF (qP (kU (fH hr.units) (pv 3) (jF kZ) (kX _)) (kI (kP (kY (p2 jY (pix kT (pv 3) kC))))) qB)
   (kF (qP (jT (pf (vU B) hr (p2 (pv 4) (pv 5)))) (kI (kP (kY (p2 jY (pf (vT B) hr (p2 (pv 4) (pv 5))))))) qB)
   (kI (kP jJ))))))))),?_⟩
 try dsimp only [qE]
 obtain ⟨ps,h1,hP⟩:=id hd
 have place:∀ {i:Nat},i<Ps.length->∃ a,ps[i]?=some a/\PtAt H a (pt Ps i)/\Geo.Lw (pt Ps i)/\Sz 206 (pt Ps i):=λ {i} hi=>by
  obtain ⟨a,e1,e2⟩:=hP.at (bR hi);obtain ⟨w1,w2⟩:=dl _ (eJ (bR hi));exact ⟨a,e1,e2,glw w1,w2⟩
 let gp:Nat->V:=λ p=>((ps.map V.ref)[p]?).getD .non
 have gpe:∀ {i:Nat} {a:ag},ps[i]?=some a->gp i=.ref a:=λ {i a} e=>by show ((ps.map V.ref)[i]?).getD .non=_;rw [bq,e];rfl
 have ix:∀ {i:Nat} {a:ag},ps[i]?=some a->atI (ps.map V.ref) (i:Int)=some (.ref a):=λ {i a} e=>jH (j:=i) (by rw [bq,e];rfl);obtain ⟨a1,e1,p1_,l1,z1⟩:=place (md tl tb);obtain ⟨a2,e2,p2_,l2,z2⟩:=place tb;obtain ⟨a3,e3,p3_,l3,z3⟩:=place (md ul ub);obtain ⟨a4,e4,p4_,l4,z4⟩:=place ub;have tin:∀ p∈[T.1,T.2],p<Ps.length:=λ p h=>by simp at h;omega
 have uin:∀ p∈[U.1,U.2],p<Ps.length:=λ p h=>by simp at h;omega
 refine ⟨_,rfl,t,rfl,⟨_,SqT.of ht⟩,λ D0 n0=>?_⟩;refine kBC (xs:=[T.1,T.2]) (λ p=>decide (p∈[U.1,U.2])) vn n0 ht (by decide:2<=900) (λ p _ H1 Q g q=>?_) (λ p _ H1 Q g q=>⟨_,rfl,q⟩) λ σ1 H1 g1 hD0=>?_
 ·refine ⟨_,rfl,_,rfl,u,_,rfl,.inr (SqT.of (g _ _ hu)),rfl,cZ [U.1,U.2],_,rfl,?_⟩
  rw [show inV (vn p) [vn U.1,vn U.2]=decide (p∈[U.1,U.2]) from pG p [U.1,U.2]];exact q H1 λ _ _ h=>h
 refine ⟨_,rfl,t,rfl,⟨_,SqT.of (g1 _ _ ht)⟩,λ D1 n1=>?_⟩;refine kLE (xs:=[T.1,T.2]) gp n1 (g1 _ _ ht) (by decide:2<=900) (λ p hp H2 Q g q=>?_) λ σ2 H2 g2 hD1=>?_
 ·obtain ⟨a,ea,_⟩:=place (tin p hp)
  exact ⟨_,rfl,_,rfl,td,_,_,_,rfl,rfl,SqT.of ((g1.trans g) _ _ h1),ix ea,by rw [gpe ea] at q;exact q⟩
 have g12:=g1.trans g2;refine ⟨_,rfl,u,rfl,⟨_,SqT.of (g12 _ _ hu)⟩,λ D2 n2=>?_⟩;refine kLE (xs:=[U.1,U.2]) gp n2 (g12 _ _ hu) (by decide:2<=900) (λ p hp H2 Q g q=>?_) λ σ3 H3 g3 hD2=>?_
 ·obtain ⟨a,ea,_⟩:=place (uin p hp)
  exact ⟨_,rfl,_,rfl,td,_,_,_,rfl,rfl,SqT.of ((g12.trans g) _ _ h1),ix ea,by rw [gpe ea] at q;exact q⟩
 refine ⟨yS2,λ x nx=>?_⟩;refine ⟨x,_,rfl,SqT.of kD,rfl,_,_,rfl,_,_,rfl,rfl,?_⟩;have gx:=kE nx (.tup [.ref D1,.ref D2]);have g4:=g12.trans (g3.trans gx);have hD0:=(g2.trans (g3.trans gx)) _ _ hD0;have hD1:=(g3.trans gx) _ _ hD1;have hD2:=gx _ _ hD2;generalize upd H3 x (.tup [.ref D1,.ref D2])=H4 at *;have TT:TieL H4 D1 a1 a2 (pt Ps T.1) (pt Ps T.2):=⟨by rw [hD1,<-gpe e1,<-gpe e2];rfl,p1_.kept g4,p2_.kept g4,z1,z2,l1,l2⟩;have UU:TieL H4 D2 a3 a4 (pt Ps U.1) (pt Ps U.2):=⟨by rw [hD2,<-gpe e3,<-gpe e4];rfl,p3_.kept g4,p4_.kept g4,z3,z4,l3,l4⟩;clear gx nx hD1 hD2 n0 n1 n2 g12 g1 g2 g3;refine ⟨_,rfl,yS0,λ l0 m0=>⟨zP _,zP [],uY ((kE m0 _) _ _ hD0),uY kD,uX _,uX _,_,rfl,?_⟩⟩;rw [if_pos (show (true=true) from rfl),sW];have gl:=kE m0 (.lst []);have hD0:=gl _ _ hD0;have TT:=TT.kept gl;have UU:=UU.kept gl;have g5:=g4.trans gl;generalize upd H4 l0 (.lst [])=H5 at *;clear gl m0 g4;by_cases sh:T.1=U.1\/T.1=U.2\/T.2=U.1\/T.2=U.2
 ·obtain ⟨e,px,py,f1,f2,em,ie,ix1,iy1⟩:=kPR Ps tl ul ne sh
  rw [f1] at hD0 ⊢;refine wL ?_;refine ⟨_,rfl,_,rfl,t,u,[vn T.1,vn T.2],[vn U.1,vn U.2],rfl,rfl,g5 _ _ ht,g5 _ _ hu,yS4,λ w H6 g6 hw=>?_⟩;have g6:Same H5 H6:=g6;have hw:H6 w=some (.tup ([T.1,T.2,U.1,U.2].map vn)):=hw;have g56:=g5.trans g6;obtain ⟨ae,ee,ke,le,ze⟩:=place (tin e ie);obtain ⟨ax,ex,kx,lx,zx⟩:=place (tin px ix1);obtain ⟨ay,ey,ky,ly,zy⟩:=place (uin py iy1);refine ⟨w,rfl,⟨_,SqT.of hw⟩,λ D3 n3=>?_⟩;refine kBC (xs:=[T.1,T.2,U.1,U.2]) (λ p=>decide (p≠e)) gp n3 hw (by decide:4<=900) (λ p _ H7 Q g q=>?_) (λ p hp H7 Q g q=>?_) λ σ7 H7 g7 hD3=>?_
  ·refine ⟨_,rfl,_,rfl,D0,_,_,_,rfl,rfl,SqL.of ((g6.trans g) _ _ hD0),(show atI [vn e] ((0:Nat):Int)=some (vn e) from jH (j:=0) rfl),rfl,_,rfl,?_⟩
   rw [show (!decide (vn p=vn e))=decide (p≠e) by rw [<-decide_not];congr 1;simp [vn];omega];exact q H7 λ _ _ h=>h
  ·obtain ⟨a,ea,_⟩:=place (show p<Ps.length by simp at hp;omega)
   exact ⟨_,rfl,_,rfl,td,_,_,_,rfl,rfl,SqT.of ((g56.trans g) _ _ h1),ix ea,by rw [gpe ea] at q;exact q⟩
  rw [f2] at hD3;have hD3:H7 D3=some (.lst [.ref ax,.ref ay]):=by rw [hD3,<-gpe ex,<-gpe ey];rfl
  have g57:=g56.trans g7;refine ⟨_,rfl,_,rfl,D0,_,_,_,rfl,rfl,SqL.of ((g6.trans g7) _ _ hD0),(show atI [vn e] ((0:Nat):Int)=some (vn e) from jH (j:=0) rfl),td,_,_,_,rfl,rfl,SqT.of (g57 _ _ h1),ix ee,_,rfl,D3,_,_,_,rfl,rfl,SqL.of hD3,at0,_,rfl,D3,_,_,_,rfl,rfl,SqL.of hD3,at1,ae,ax,ay,_,_,_,rfl,ke.kept g57,kx.kept g57,ky.kept g57,ze,zx,zy,le,λ H8 g8=>⟨_,rfl,?_⟩⟩;rw [em] at k;unfold gH at k;refine jC (λ c=>?_) (λ c=>?_)
  ·refine ⟨yS2,λ a na=>k _ _ (g57.trans (g8.trans (kE na _))) ?_⟩
   rw [if_pos c];exact ⟨a,rfl,kD⟩
  ·refine k _ _ (g57.trans g8) ?_
   rw [if_neg c]
   rfl
 have em:xJ Ps T U=cN Ps T.1 T.2 U.1 U.2:=by
  unfold xJ;rw [if_neg (by omega),if_neg (by omega),if_neg (by omega),if_neg (by omega)]
 rw [em] at k;rw [kHL sh] at hD0 ⊢;refine zQ ?_;refine ⟨_,rfl,_,rfl,D1,D2,a1,a2,a3,a4,_,_,_,_,rfl,TT,UU,λ H6 g6=>⟨_,rfl,?_⟩⟩;have TT:=TT.kept g6;have UU:=UU.kept g6;have g56:=g5.trans g6;refine jC (λ ov=>?_) (λ ov=>?_)
 ·refine ⟨yS2,λ a na=>k _ _ (g56.trans (kE na _)) ?_⟩
  unfold cN;rw [if_pos ov];exact ⟨a,rfl,kD⟩
 have ed:=kIO Ps T.1 T.2 U.1 U.2 (fv.mpr ov);dsimp only at ed;refine ⟨_,rfl,u,rfl,⟨_,SqT.of (g56 _ _ hu)⟩,λ D3 n3=>?_⟩;refine kBC (xs:=[U.1,U.2]) (λ p=>Geo.withinP (pt Ps p) (pt Ps T.1) (pt Ps T.2)) vn n3 (g56 _ _ hu) (by decide:2<=900) (λ p hp H7 Q g q=>?_) (λ p _ H1 Q g q=>⟨_,rfl,q⟩) λ σ7 H7 g7 hD3=>?_
 ·obtain ⟨a,ea,ka,la,za⟩:=place (uin p hp)
  exact ⟨_,rfl,_,rfl,td,_,_,_,rfl,rfl,SqT.of ((g56.trans g) _ _ h1),ix ea,_,rfl,a,D1,a1,a2,_,_,_,rfl,ka.kept (g56.trans g),za.up (by decide),TT.kept g,λ H8 g8=>⟨_,rfl,q H8 g8⟩⟩
 have g57:=g56.trans g7;refine ⟨_,rfl,t,rfl,⟨_,SqT.of (g57 _ _ ht)⟩,λ D4 n4=>?_⟩;refine kBC (xs:=[T.1,T.2]) (λ p=>Geo.withinP (pt Ps p) (pt Ps U.1) (pt Ps U.2)) vn n4 (g57 _ _ ht) (by decide:2<=900) (λ p hp H7 Q g q=>?_) (λ p _ H1 Q g q=>⟨_,rfl,q⟩) λ σ8 H8 g8 hD4=>?_
 ·obtain ⟨a,ea,ka,la,za⟩:=place (tin p hp)
  exact ⟨_,rfl,_,rfl,td,_,_,_,rfl,rfl,SqT.of ((g57.trans g) _ _ h1),ix ea,_,rfl,a,D2,a3,a4,_,_,_,rfl,ka.kept (g57.trans g),za.up (by decide),UU.kept (g7.trans g),λ H8 g8=>⟨_,rfl,q H8 g8⟩⟩
 have fl2:∀ (f:Nat->Bool) (x y:Nat),([x,y].filter f).length<=2:=λ f x y=>mw f [x,y];have b1:=fl2 (λ p=>Geo.withinP (pt Ps p) (pt Ps T.1) (pt Ps T.2)) U.1 U.2;have b2:=fl2 (λ p=>Geo.withinP (pt Ps p) (pt Ps U.1) (pt Ps U.2)) T.1 T.2;generalize [U.1,U.2].filter (λ p=>Geo.withinP (pt Ps p) (pt Ps T.1) (pt Ps T.2))=M1 at *;generalize [T.1,T.2].filter (λ p=>Geo.withinP (pt Ps p) (pt Ps U.1) (pt Ps U.2))=M2 at *;refine ⟨D3,D4,_,_,rfl,rfl,g8 _ _ hD3,hD4,(by rw [bg,bg];exact kLR (by omega)),λ D5 n5=>?_⟩;have hD5:upd H8 D5 (.lst (M1.map vn++M2.map vn)) D5=some (.lst ((M1++M2).map vn)):=by rw [iM];exact kD
 have gn:=g8.trans (kE n5 (.lst (M1.map vn++M2.map vn)));have g9:=g57.trans gn;have TT:=TT.kept (g7.trans gn);have UU:=UU.kept (g7.trans gn);generalize upd H8 D5 (.lst (M1.map vn++M2.map vn))=H9 at *;generalize M1++M2=M at *;refine ⟨_,rfl,yS0,λ l0 m0=>⟨zP _,zP [],uY ((kE m0 _) _ _ hD5),uY kD,uX _,uX _,_,rfl,?_⟩⟩;rw [if_pos (show (true=true) from rfl),sW];have gl:=kE m0 (.lst []);have hD5:=gl _ _ hD5;have TT:=TT.kept gl;have UU:=UU.kept gl;have g9:=g9.trans gl;generalize upd H9 l0 (.lst [])=HA at *;rcases ed with ⟨rfl,ed⟩ | ⟨n,r,rfl,ed⟩
 ·refine zQ ?_
  rw [ed] at k;refine ⟨_,rfl,_,rfl,D1,D2,a1,a2,a3,a4,_,_,_,_,rfl,TT,UU,λ HB gB=>⟨_,rfl,?_⟩⟩;refine jC (λ c=>?_) (λ c=>?_)
  ·have c:=of_decide_eq_true c
   rw [if_pos c] at k;refine ⟨_,rfl,_,rfl,D1,D2,a1,a2,a3,a4,_,_,_,_,rfl,TT.kept gB,UU.kept gB,c.1,λ X HC gC hX=>⟨yS2,λ a na=>?_⟩⟩;exact k _ _ (g9.trans (gB.trans (gC.trans (kE na _)))) ⟨a,X,rfl,kD,hX.kept (kE na _)⟩
  ·rw [if_neg (λ z=>c (decide_eq_true z))] at k
   exact k _ _ (g9.trans gB) rfl
 ·refine wL ?_
  rw [ed] at k;refine ⟨_,rfl,D5,_,_,_,rfl,rfl,SqL.of hD5,(show atI (vn n::r.map vn) ((0:Nat):Int)=some (vn n) from jH (j:=0) rfl),yS2,λ a na=>?_⟩;exact k _ _ (g9.trans (kE na _)) ⟨a,rfl,kD⟩
open Mth Sca
def kLA (H:Hp) (t:ag) (row:List Nat):Prop:=H t=some (.lst (row.map vn))
def RLt (H:Hp) (r:ag) (W:List (List Nat)):Prop:=∃ ts:List ag,H r=some (.lst (ts.map V.ref))/\AllAt kLA H ts W
theorem RLt.kept {H H':Hp} {t:ag} {W:List (List Nat)} (h:RLt H t W) (g:Same H H'):RLt H' t W:=by
 obtain ⟨ts,a,b⟩:=h;exact ⟨ts,g _ _ a,b.imp λ p x z=>g _ _ z⟩
theorem kDO (W:List (List Nat)):Fc.sortP ((qU W).filter λ t=>decide (t.1<t.2))=Fc.tiesS W :=
 (Fc.sortP_is ((Fc.sortP_perm (qU W)).filter _) ((Fc.sortP_sorted (qU W)).filter _)).symm
inductive kBJ (vs:List V) (H:Hp) (Q:VK) (Y:XK):Prop
 | mk:∀ (r:ag) (W:List (List Nat)),(vs=[.ref r])->(RLt H r W)->(Smal W)->(∀ (s:ag) (H':Hp),Same H H'->H s=none->PairsAt H' s (Fc.tiesS W)->Q (.ref s) H')->kBJ vs H Q Y
theorem PairsAt.cat {H:Hp} {a b c:ag} {A C:List (Nat×Nat)} {xs ys:List V} (h:PairsAt H a A) (k:PairsAt H b C) (ea:H a=some (.lst xs)) (eb:H b=some (.lst ys)) (nc:H c=none):PairsAt (upd H c (.lst (xs++ys))) c (A++C):=by
 obtain ⟨ss,h1,h2,h3⟩:=h;obtain ⟨rs,k1,k2,k3⟩:=k;rw [ea] at h1;rw [eb] at k1;cases h1
 cases k1
 refine ⟨ss++rs,by rw [iM];exact kD,by simp [h2,k2],λ i d t e1 e2=>kE nc _ _ _ ?_⟩;rcases vc i ss.length with l | l
 ·rw [dw l] at e1
  rw [dw (h2 ▸ l)] at e2;exact h3 i d t e1 e2
 ·rw [bu l] at e1
  rw [bu (h2 ▸ l),<-h2] at e2;exact k3 _ d t e1 e2
theorem oY (B:Fx):Hs "_law_pairs" ["_law_rows"] 2 (kBJ):=by
 refine qC B.X B.d46 oC λ f cdv A outer s H vs Q E nN hr h=>?_;obtain ⟨r,W,rfl,⟨ts,h1,hA⟩,S,k⟩:=h
 refine ⟨_,(kF (pst 1 nN (jF kZ))
   (kF (aY (uO true rfl (B.z B.y0) (p1 (pv 0))) (jE (n:=2) rfl (kQ (pgn 2 nN) (kQ (pgn 3 nN) qJ))) (kI (pst 1 nN (kO vR (pv 1) (jL (Nc:=["_law_q","_law_p"]) (js:=[none,some 2]) rfl rfl (yC (pv 3)) (CS.of rfl rfl) rfl (λ C s₂ H₂ fp pins=>(pgc 0)) (λ C s₂ H₂ fp pins D L=>(xT (kU wG (pv 1) (pv 0) (kX _)) (jN (kY (p2 (pv 1) (pv 0)))))))))))
   (kI (kP (kS gU rfl (B.z B.y11) BR (p1 (pv 1))))))),?_⟩
 try dsimp only [qE]
 refine ⟨yS0,λ l0 n0=>?_⟩;have lts:=hA.1;have g0:=kE n0 (.lst []);refine ⟨_,rfl,r,rfl,⟨_,SqL.of (g0 _ _ h1)⟩,?_⟩;refine aD (k:=true) (xs:=ts.map V.ref) (λ i σ H2=>∃ (l:ag) (x2 x3:Option V),σ=[some (.ref r),some (.ref l),x2,x3]/\Same H H2/\H l=none/\PairsAt H2 l ((qU (W.take i)).filter λ t=>decide (t.1<t.2))) ⟨l0,none,none,rfl,g0,n0,⟨[],kD,rfl,λ i b t e=>by simp at e⟩⟩ ?_ ?_ ?_
 ·rintro i σ H2 _ ⟨l,x2,x3,rfl,g,_⟩
  exact SqL.of (g _ _ h1)
 ·rintro i x Tt σ H2 hx nT ⟨l,x2,x3,rfl,g2,nl,pr⟩
  rw [bq] at hx;obtain ⟨a,ea,rfl⟩:=eE.mp hx;have hi:i<W.length:=by rw [<-lts];exact (au.mp ea).1
  have har:H a=some (.lst (W[i].map vn)):=hA.2 i a _ ea (ao hi);have rl:=S.2 i _ (ao hi);have gT:=kE nT (.tup [.int i,.ref a]);refine ⟨Tt,_,rfl,SqT.of kD,rfl,_,_,rfl,_,_,rfl,rfl,?_⟩;have g3:=g2.trans gT;have pr3:=pr.kept gT;generalize upd H2 Tt (.tup [.int i,.ref a])=H3 at *;refine ⟨_,rfl,_,rfl,a,rfl,⟨_,SqL.of (g3 _ _ har)⟩,λ D nD=>?_⟩;refine yR (xs:=W[i].map vn) (λ j σ H4=>∃ (x0:Option V),σ=[x0,some (vn i)]/\Same H3 H4/\PairsAt H4 D ((((W[i].take j).map λ q=>(i,q))).filter λ t=>decide (t.1<t.2))) ⟨none,rfl,kE nD _,⟨[],kD,rfl,λ i b t e=>by simp at e⟩⟩ ?_ ?_ ?_
  ·rintro j σ H4 _ ⟨x0,rfl,g4,_⟩
   exact SqL.of ((g3.trans g4) _ _ har)
  ·rintro j v σ H4 hv ⟨x0,rfl,g4,pr4⟩
   rw [bq] at hv;obtain ⟨q,eq',rfl⟩:=eE.mp hv;have tk:((W[i].take (j+1)).map λ q=>(i,q))=((W[i].take j).map λ q=>(i,q))++[(i,q)]:=by rw [yq,eq',iM];rfl
   refine ⟨_,rfl,_,rfl,_,_,rfl,rfl,_,rfl,?_⟩;rw [tk];refine jC (λ z=>?_) (λ z=>?_)
   ·have z:=of_decide_eq_true z
    refine ⟨_,rfl,_,rfl,yS2,λ c nc=>?_⟩;have gc:=kE nc (.tup [vn i,vn q]);have pr5:=pr4.kept gc;have g5:=g4.trans gc;refine (λ (y:upd H4 c (.tup [vn i,vn q]) c=some (.tup [vn i,vn q]))=>?_) kD;generalize upd H4 c (.tup [vn i,vn q])=H5 at *;obtain ⟨cs,c1,c2,c3⟩:=id pr5
    have lc:cs.length<=144:=by
     rw [c2];have:=mw (λ t:Nat×Nat=>decide (t.1<t.2)) ((W[i].take j).map λ q=>(i,q));rw [bg,gw] at this;omega
    refine ⟨_,c1,(by rw [bg];exact uF (by omega)),?_⟩;refine ⟨_,rfl,qQ nD g5,?_⟩;rw [vy,zk,if_pos (by exact decide_eq_true (show i<q by omega))];exact PairsAt.app (H':=H5) c1 c2 c3 (t:=(i,q)) y
   ·have z:¬ (i:Int)<(q:Int):=λ y=>z (decide_eq_true y)
    refine ⟨_,rfl,g4,?_⟩;rw [vy,zk,if_neg (by intro y;have:=of_decide_eq_true y;omega)];simpa using pr4
  ·rintro σ H4 ⟨x0,rfl,g4,pr4⟩
   rw [bg,sj] at pr4;have pr3:=pr3.kept g4;obtain ⟨ss,c1,c2,_⟩:=id pr3;obtain ⟨rs,d1,d2,_⟩:=id pr4
   have b1:ss.length<=144:=by
    rw [c2];exact gk (mw ..) (S.take_len i)
   have b2:rs.length<=144:=by
    rw [d2];have:=mw (λ t:Nat×Nat=>decide (t.1<t.2)) (W[i].map λ q=>(i,q));rw [bg] at this;omega
   refine ⟨l,D,_,_,rfl,rfl,c1,d1,(by rw [bg,bg];exact va (uF (by omega))),λ l' nl'=>?_⟩;have fin:=pr3.cat pr4 c1 d1 nl';rw [<-vy,<-dE W i hi] at fin;exact ⟨l',_,_,rfl,(g3.trans g4).trans (kE nl' _),(g3.trans g4).free nl',fin⟩
 ·rintro σ H2 ⟨l,x2,x3,rfl,g2,nl,pr⟩
  rw [bg,lts,sj] at pr;obtain ⟨ps,e1,e2,e3⟩:=dJ pr;refine ⟨_,rfl,l,ps,rfl,.inl (SqL.of e1),e2,λ l' ps' nl' pm sr=>?_⟩;have fin:=e3 l' ps' nl' pm sr;rw [kDO] at fin;exact k l' _ (g2.trans (kE nl' _)) (g2.free nl') fin
inductive bE (vs:List V) (H:Hp) (Q:VK) (Y:XK):Prop
 | mk:∀ (td l:ag) (Ps:List Pt) (L:List (Nat×Nat)),(vs=[.ref td,.ref l])->(DAt H td Ps)->(lF Ps)->(PairsAt H l L)->(hJ Ps.length L)->(∀ (D:ag) (H':Hp),Same H H'->H D=none->kOW H' D (xX Ps L L.length)->Q (.ref D) H')->bE vs H Q Y
theorem cK (B:Fx):Hs "_law_meetings" ["_law_drawing","_law_pairs_here"] 6 (bE):=by
 refine qC B.X B.d47 cG λ f cdv A outer s H vs Q E nN hr h=>?_;obtain ⟨td,l,Ps,L,rfl,hd,dl,pr,tok,kq⟩:=h
 refine ⟨_,(kF (pst 2 nN (jF kZ))
   (kF (aY (uO true rfl (B.z B.y0) (p1 (pv 1))) (jE (n:=2) rfl (kQ (pgn 3 nN) (kQ (pgn 4 nN) qJ))) (kI (aY (yC (xV uG (pv 1) (xL (kO jG (pv 3) kC)) wT)) (pgn 5 nN) (kF (pst 6 nN (pf (fN B) hr (kH (pv 0) (kH (pv 4) (kH (pv 5) kZ)))))
   (kI (qP (kU cT (pv 6) jJ (kX _)) (kI (jQ (yO jz kg xO (pv 2) (p1 (kY (kH (pv 4) (kH (pv 5) (kH (pix kJ (pv 6) kC) (kH (pix kJ (pv 6) kC) kZ))))))))) qB))))))
   (kI (kP (pv 2))))),?_⟩
 try dsimp only [qE]
 refine ⟨yS0,λ D nDH=>?_⟩;have g3':=kE nDH (.lst []);have hD3:upd H D (.lst []) D=some (.lst []):=kD;have pr:=pr.kept g3'
 have lD:l≠D:=λ z=>by
  obtain ⟨ss,e,_⟩:=pr;subst z;rw [hD3] at e;obtain ⟨ss',e',_⟩:=‹PairsAt H l L›;rw [nDH] at e'
  cases e'
 generalize upd H D (.lst [])=H3 at *;obtain ⟨ss,hl,ls,hT⟩:=pr;have l144:=tok.1;refine ⟨_,rfl,l,rfl,⟨_,SqL.of hl⟩,?_⟩;refine aD (k:=true) (xs:=ss.map V.ref) (λ i σ H4=>∃ (x4 x5 x6 x7:Option V) (us:List ag),σ=[some (.ref td),some (.ref l),some (.ref D),x4,x5,x6,x7]/\Same H H4/\SameBut D H3 H4/\H4 D=some (.lst (us.map V.ref))/\AllAt MRow H4 us (xX Ps L i)) ⟨_,_,_,_,[],rfl,g3',SameBut.refl D H3,hD3,AllAt.nil⟩ ?_ ?_ ?_
 ·rintro i σ H4 _ ⟨x4,x5,x6,x7,us,rfl,_,b4,_⟩
  exact SqL.of (b4 _ _ lD hl)
 ·rintro i x Tt σ H4 hx nT ⟨x4,x5,x6,x7,us,rfl,g4,b4,hD4,hu⟩
  rw [bq] at hx;obtain ⟨a,ea,rfl⟩:=eE.mp hx;have hi:i<L.length:=ls ▸ (au.mp ea).1;have eT:=ao hi;have ms:=fW Ps eT;have hta:=hT i a _ ea eT;have okT:=tok.2.2 _ (eJ eT);have nd:=tok.2.1
  have dif:∀ j U,L[i+1+j]?=some U->L[i]≠U:=λ j U e z=>by
   obtain ⟨h2,e2⟩:=au.mp e;have:=(yi nd).mp (z.trans e2.symm);omega
  generalize L[i]=T at *;have gT:=kE nT (.tup [.int i,.ref a]);refine ⟨Tt,_,rfl,SqT.of kD,rfl,_,_,rfl,_,_,rfl,rfl,?_⟩;have g5:=g4.trans gT;have b5:=b4.trans (SameBut.of gT);have hD5:=gT _ _ hD4;have hu5:AllAt MRow _ us (xX Ps L i):=hu.imp λ p x z=>z.kept gT;generalize upd H4 Tt (.tup [.int i,.ref a])=H5 at *;refine ⟨_,rfl,_,rfl,_,_,rfl,rfl,(i:Int)+1,rfl,l,_,rfl,SqL.of (b5 _ _ lD hl),λ p np=>?_⟩;rw [show zR (ss.map V.ref) (some ((i:Int)+1)) none=(ss.drop (i+1)).map V.ref by rw [show (i:Int)+1=((i+1:Nat):Int) by omega,aK _ (by rw [bg];omega),yv]];have gp:=kE np (.lst ((ss.drop (i+1)).map V.ref));have hp:upd H5 p (.lst ((ss.drop (i+1)).map V.ref)) p=some (.lst ((ss.drop (i+1)).map V.ref)):=kD;have pD:p≠D:=λ z=>by subst z;rw [hD5] at np;cases np
  have g6:=g5.trans gp;have b6:=b5.trans (SameBut.of gp);have hD6:=gp _ _ hD5;have hu6:AllAt MRow _ us (xX Ps L i):=hu5.imp λ p x z=>z.kept gp;generalize upd H5 p (.lst ((ss.drop (i+1)).map V.ref))=H6 at *;clear hu5 hD5 b5 g5 gp np hu hD4 b4 g4 gT nT;refine ⟨p,rfl,⟨_,SqL.of hp⟩,?_⟩;have lr:=fX Ps L i;refine gL (xs:=(ss.drop (i+1)).map V.ref) (λ j σ H7=>∃ (x6 x7:Option V) (us:List ag),σ=[some (.ref td),some (.ref l),some (.ref D),some (vn i),some (.ref a),x6,x7]/\Same H H7/\SameBut D H6 H7/\H7 D=some (.lst (us.map V.ref))/\AllAt MRow H7 us (xX Ps L i++((L.drop (i+1)).take j).flatMap (moF Ps T))) ⟨_,_,us,rfl,g6,SameBut.refl D H6,hD6,by simpa using hu6⟩ ?_ ?_ ?_
  ·rintro j σ H7 _ ⟨x6,x7,us,rfl,_,b7,_⟩
   exact SqL.of (b7 _ _ pD hp)
  ·rintro j y σ H7 hy ⟨x6,x7,us,rfl,g7,b7,hD7,hu7⟩
   rw [bq,wq] at hy;obtain ⟨b,eb,rfl⟩:=eE.mp hy;have hj:i+1+j<L.length:=ls ▸ (au.mp eb).1;have eU:=ao hj;have htb:=hT _ b _ eb eU;have okU:=tok.2.2 _ (eJ eU);have ne:=dif j _ eU;have ft:=mZ (moF Ps T) (l:=L.drop (i+1)) (j:=j) (x:=L[i+1+j]) (by rw [wq];exact eU);generalize L[i+1+j]=U at *;have b37:=b6.trans b7;have nD:∀ {c:ag} {ys:List V},H3 c=some (.tup ys)->c≠D:=λ e=>wI e hD3 (by intro z;cases z);refine ⟨_,rfl,_,rfl,_,rfl,td,a,b,Ps,T,U,rfl,hd.kept g7,dl,b37 _ _ (nD hta) hta,b37 _ _ (nD htb) htb,okT.1,okU.1,ne,okT.2,okU.2,λ v H8 g8 hv=>?_⟩;have l1:=hu7.1;have l2:=aE (moF Ps T) 1 (kAL Ps T) ((L.drop (i+1)).take j);have l3:((L.drop (i+1)).take j).length<=L.length:=by rw [gw,fh];omega
   have l4:L.length*i<=144*144:=ki l144 (by omega);rw [du] at l1;have hu8:AllAt MRow H8 us _:=hu7.imp λ p x z=>z.kept g8;have hD8:=g8 _ _ hD7;refine ⟨_,rfl,rfl,_,rfl,?_⟩;rcases hv.two with ⟨em,rfl⟩ | ⟨c,k,w',rfl,hc,kw⟩
   ·refine zQ ?_
    refine ⟨_,_,us,rfl,g7.trans g8,b7.trans (SameBut.of g8),hD8,?_⟩;rw [ft,kHO em,jq];exact hu8
   ·refine wL ?_
    have fo:=kCN kw;refine ⟨_,rfl,.inl ⟨rfl,_,SqL.of hD8⟩,_,rfl,_,rfl,_,rfl,c,_,_,_,rfl,rfl,SqT.of hc,at0,_,rfl,c,_,_,_,rfl,rfl,SqT.of hc,at1,yS4,λ r nr=>?_⟩;have g9:=kE nr (.tup [.ref a,.ref b,k,w']);have hr9:upd H8 r (.tup [.ref a,.ref b,k,w']) r=some (.tup [.ref a,.ref b,k,w']):=kD;have gg:=g8.trans g9;have hD9:=g9 _ _ hD8;have hu9:AllAt MRow _ us _:=hu8.imp λ p x z=>z.kept g9;generalize upd H8 r (.tup [.ref a,.ref b,k,w'])=H9 at *;have at9:=b37.trans (SameBut.of gg);have row:MRow H9 r (T,U,xJ Ps T U):=⟨a,b,k,w',hr9,at9 _ _ (nD hta) hta,at9 _ _ (nD htb) htb,kw.kept g9⟩;refine ⟨D,_,_,rfl,rfl,hD9,(by rw [bg,mj];omega),?_⟩;refine ⟨_,_,us++[r],rfl,qQ nDH (g7.trans gg),(b7.trans (SameBut.of gg)).trans aN,by rw [kD,iM];rfl,?_⟩;rw [ft,fo,<-eM];exact AllAt.snoc (hu9.imp λ p x z=>z.upd hD9) (row.upd hD9)
  ·rintro σ H7 ⟨x6,x7,us,rfl,g7,b7,hD7,hu7⟩
   refine ⟨_,_,_,_,us,rfl,g7,b6.trans b7,hD7,?_⟩;rw [fb (by rw [fh,bg,fh];omega),<-ms] at hu7;exact hu7
 ·rintro σ H4 ⟨x4,x5,x6,x7,us,rfl,g4,b4,hD4,hu⟩
  rw [bg,ls] at hu;exact ⟨_,rfl,kq D H4 g4 nDH ⟨us,hD4,hu⟩⟩
open Mth Sca Ang
theorem kIS (xs:List V) {k:Nat} (h:k<=xs.length):zR xs none (some (k:Int))=xs.take k:=by
 unfold zR;rw [HT.sIx_none,HT.sIx_nat,ju h,CK,Nat.sub_zero]
def rot (row:List Nat) (M:Nat):List Nat:=row.drop (row.idxOf M)++row.take (row.idxOf M)
theorem bW {ns:List Nat} {n:Nat} (h:n∈ns):aS (ns.map ci) (n:Int) (ns.idxOf n):=by
 have hl:=AR h;refine ⟨?_,λ m hm e=>?_⟩
 ·rw [bq,ao hl,List.getElem_idxOf hl]
  rfl
 ·have hm':m<ns.length:=by omega
  rw [bq,ao hm'] at e
  have e2:ns[m]=n:=by
   have z:((ns[m]:Nat):Int)=(n:Int):=eO e;omega
  have q:=List.not_of_lt_findIdx (p:=(· == n)) (xs:=ns) hm;rw [e2] at q;simp at q
theorem kBZ (ns:List Nat) (x:Nat):(ns.map vn).drop (ns.idxOf x)++(ns.map vn).take (ns.idxOf x)=(rot ns x).map vn:=by unfold rot;rw [iM,yv,Cr]
theorem sT {ns:List Nat} {M:Int} (hM:M∈ns.map ci) (hle:∀ i∈ns.map ci,M<=i):∃ m,M=ci m/\m∈ns/\∀ j∈ns,m<=j:=by
 obtain ⟨m,hm,rfl⟩:=yt.mp hM
 exact ⟨m,rfl,hm,λ j hj=>by
  have:=hle (ci j) (yt.mpr ⟨j,hj,rfl⟩);simp only [ci] at this;omega⟩
inductive rL (vs:List V) (H:Hp) (Q:VK) (Y:XK):Prop
 | mk:∀ (a:ag) (ns:List Nat),(vs=[.ref a])->(H a=some (.lst (ns.map vn))\/H a=some (.tup (ns.map vn)))->(ns≠[])->(ns.length<=900)->(∀ (t:ag) (H':Hp),Same H H'->kOS H' t (rot ns (low ns))->Q (.ref t) H')->rL vs H Q Y
theorem uS (B:Fx):Hs "_law_from_least" ["_law_row"] 1 (rL):=by
 refine qC B.X B.d50 uJ λ f cdv A outer s H vs Q E nN hr h=>?_;obtain ⟨D,cl,rfl,hD,cne,cle,k⟩:=h;have cpos:0<cl.length:=Cf.mpr cne;have lv:(cl.map vn).length=cl.length:=bg _;have il:∀ {m},m∈cl->cl.idxOf m<cl.length:=λ h=>AR h;rcases hD with hD | hD
 ·refine ⟨_,(kF (pst 1 nN (yO Bb Bc sO (qW aM rfl (B.z B.y12) me (p1 (pv 0))) (p1 (kS (kEZ rfl) rfl (B.z B.y9) ui (p1 (pv 0))))))
   (kI (kP (kO uQ (qW jI rfl (B.z B.y8) ji (p1 (xV uG (pv 0) (xL (pv 1)) wT))) (qW jI rfl (B.z B.y8) ji (p1 (xV uG (pv 0) wT (xL (pv 1))))))))),?_⟩
  try dsimp only [qE]
  refine ⟨_,rfl,D,_,rfl,.inl (SqL.of hD),λ l n1=>?_⟩;have g1:=kE n1 (.lst (cl.map vn));have hl:=kD (H:=H) (a:=l) (o:=.lst (cl.map vn));generalize upd H l (.lst (cl.map vn))=H1 at *;have hD1:=g1 _ _ hD;refine ⟨.inl ⟨rfl,_,SqL.of hl⟩,_,rfl,D,cl.map ci,rfl,SqL.of (by rw [hD1,nU]),(by rw [bg];exact cpos),λ M hM hle=>?_⟩;obtain ⟨m,rfl,hm,mle⟩:=sT hM hle;obtain rfl:=kHP hm mle;refine ⟨l,cl.map ci,_,cl.idxOf (low cl),rfl,rfl,(by rw [hl,nU]),bW hm,?_⟩;have i1:=il hm;refine ⟨_,rfl,_,rfl,_,rfl,D,_,rfl,SqL.of hD1,λ p1_ m1=>?_⟩;rw [aK _ (by rw [lv];omega)];have h1:=kE m1 (.lst ((cl.map vn).drop (cl.idxOf (low cl))));have e1:=kD (H:=H1) (a:=p1_) (o:=.lst ((cl.map vn).drop (cl.idxOf (low cl))));generalize upd H1 p1_ (.lst ((cl.map vn).drop (cl.idxOf (low cl))))=H2 at *;refine ⟨p1_,_,rfl,.inl ⟨SqL.of e1,λ q1 m2=>?_⟩⟩;have h2:=h1.trans (kE m2 (.tup ((cl.map vn).drop (cl.idxOf (low cl)))));have e2:=kD (H:=H2) (a:=q1) (o:=.tup ((cl.map vn).drop (cl.idxOf (low cl))));generalize upd H2 q1 (.tup ((cl.map vn).drop (cl.idxOf (low cl))))=H3 at *;refine ⟨_,rfl,_,rfl,_,rfl,D,_,rfl,SqL.of (h2 _ _ hD1),λ p2_ m3=>?_⟩;rw [kIS _ (by rw [lv];omega)];have h3:=kE m3 (.lst ((cl.map vn).take (cl.idxOf (low cl))));have e3:=kD (H:=H3) (a:=p2_) (o:=.lst ((cl.map vn).take (cl.idxOf (low cl))));generalize upd H3 p2_ (.lst ((cl.map vn).take (cl.idxOf (low cl))))=H4 at *;refine ⟨p2_,_,rfl,.inl ⟨SqL.of e3,λ q2 m4=>?_⟩⟩;have h4:=kE m4 (.tup ((cl.map vn).take (cl.idxOf (low cl))));have e4:=kD (H:=H4) (a:=q2) (o:=.tup ((cl.map vn).take (cl.idxOf (low cl))));generalize upd H4 q2 (.tup ((cl.map vn).take (cl.idxOf (low cl))))=H5 at *;refine ⟨q1,q2,_,_,rfl,rfl,h4 _ _ (h3 _ _ e2),e4,(by rw [fh,gw,lv];exact va (qR (by omega))),λ p3_ H6 m5 h6=>?_⟩;exact k p3_ _ (g1.trans (h2.trans (h3.trans (Same.trans h4 m5)))) (by show H6 p3_=some (.tup ((rot cl (low cl)).map vn));rw [<-kBZ];exact h6)
 ·refine ⟨_,(kF (pst 1 nN (yO Bb Bc sO (qW aM rfl (B.z B.y12) me (p1 (pv 0))) (p1 (kS (kEX rfl) rfl (B.z B.y9) ui (p1 (pv 0))))))
   (kI (kP (kO uQ (qW jI rfl (B.z B.y8) ji (p1 (xV kBS (pv 0) (xL (pv 1)) wT))) (qW jI rfl (B.z B.y8) ji (p1 (xV kBS (pv 0) wT (xL (pv 1))))))))),?_⟩
  try dsimp only [qE]
  refine ⟨_,rfl,D,_,rfl,.inr (SqT.of hD),λ l n1=>?_⟩;have g1:=kE n1 (.lst (cl.map vn));have hl:=kD (H:=H) (a:=l) (o:=.lst (cl.map vn));generalize upd H l (.lst (cl.map vn))=H1 at *;have hD1:=g1 _ _ hD;refine ⟨.inl ⟨rfl,_,SqL.of hl⟩,_,rfl,D,cl.map ci,rfl,SqT.of (by rw [hD1,nU]),(by rw [bg];exact cpos),λ M hM hle=>?_⟩;obtain ⟨m,rfl,hm,mle⟩:=sT hM hle;obtain rfl:=kHP hm mle;refine ⟨l,cl.map ci,_,cl.idxOf (low cl),rfl,rfl,(by rw [hl,nU]),bW hm,?_⟩;have i1:=il hm;refine ⟨_,rfl,_,rfl,_,rfl,D,_,rfl,hD1,λ p1_ H2 m1 h1=>?_⟩;rw [aK _ (by rw [lv];omega)] at h1;refine ⟨p1_,_,rfl,.inr ⟨SqT.of h1,?_⟩⟩;refine ⟨_,rfl,_,rfl,_,rfl,D,_,rfl,m1 _ _ hD1,λ p2_ H3 m3 h3=>?_⟩;rw [kIS _ (by rw [lv];omega)] at h3;refine ⟨p2_,_,rfl,.inr ⟨SqT.of h3,?_⟩⟩;refine ⟨p1_,p2_,_,_,rfl,rfl,m3 _ _ h1,h3,(by rw [fh,gw,lv];exact va (qR (by omega))),λ p3_ H6 m5 h6=>?_⟩;exact k p3_ _ (g1.trans (Same.trans m1 (Same.trans m3 m5))) (by show H6 p3_=some (.tup ((rot cl (low cl)).map vn));rw [<-kBZ];exact h6)
def RowS (H:Hp) (a:ag) (row:List Nat):Prop:=H a=some (.lst (row.map vn))\/H a=some (.tup (row.map vn))
theorem RowS.kept {H H':Hp} {a:ag} {row:List Nat} (h:RowS H a row) (g:Same H H'):RowS H' a row:=h.imp (g _ _) (g _ _)
inductive kFY (vs:List V) (H:Hp) (Q:VK) (Y:XK):Prop
 | mk:∀ (a:ag) (ts:List ag) (W:List (List Nat)),(vs=[.ref a])->(H a=some (.lst (ts.map V.ref)))->(AllAt RowS H ts W)->(W.length<=900)->(∀ row∈W,row≠[]/\row.length<=900)->(∀ (t:ag) (H':Hp),Same H H'->WAt H' t (W.map λ r=>rot r (low r))->Q (.ref t) H')->kFY vs H Q Y
theorem sL (B:Fx):Hs "_law_told" ["_law_rows"] 2 (kFY):=by
 refine qC B.X B.d51 rQ λ f cdv A outer s H vs Q E nN hr h=>?_;obtain ⟨a,ts,W,rfl,ha,hW,lW,ok,k⟩:=h;refine ⟨_,(kI (kP (qW jI rfl (B.z B.y8) ji (p1 (jL (Nc:=["_law_row"]) (js:=[none]) rfl rfl (yC (pv 0)) (CS.of rfl rfl) rfl (λ C s₂ H₂ fp pins=>(pgc 0)) (λ C s₂ H₂ fp pins D L=>(jW (jN (pf (uS B) hr (p1 (pv 0))))))))))),?_⟩
 try dsimp only [qE]
 refine ⟨_,rfl,a,rfl,⟨_,SqL.of ha⟩,λ D2 n2=>?_⟩;refine yR (xs:=ts.map V.ref) (λ i σ H3=>∃ (x0:Option V) (us:List ag),σ=[x0]/\Same H H3/\H3 D2=some (.lst (us.map V.ref))/\AllAt (λ H3 a row=>a≠D2/\kOS H3 a row) H3 us ((W.map λ r=>rot r (low r)).take i)) ⟨none,[],rfl,kE n2 _,kD,AllAt.nil⟩ ?_ ?_ ?_
 ·rintro i σ H3 _ ⟨x0,us,rfl,g3,_⟩
  exact SqL.of (g3 _ _ ha)
 ·rintro i x σ H3 hx ⟨x0,us,rfl,g3,hL3,hu⟩
  rw [bq] at hx;obtain ⟨b,eb,rfl⟩:=eE.mp hx;obtain ⟨row,er,hr_⟩:=hW.get eb;obtain ⟨r1,r2⟩:=ok row (eJ er);have hi:=(au.mp er).1;refine ⟨_,rfl,b,row,rfl,hr_.kept g3,r1,r2,λ t H4 g4 ht=>?_⟩;have hL4:=g4 _ _ hL3;have l:=hu.1;have l2:us.length<=i:=by rw [l];exact Ci ..
  refine ⟨_,hL4,qR (by rw [bg];omega),?_⟩
  have tD:t≠D2:=λ z=>by
   subst z;have ht:H4 t=some (.tup _):=ht;rw [ht] at hL4;cases hL4
  refine ⟨_,us++[t],rfl,qQ n2 (g3.trans g4),by rw [kD,iM];rfl,?_⟩;rw [yq,bq,er,zo,ua];refine AllAt.snoc (hu.imp λ p x z=>⟨z.1,?_⟩) ⟨tD,?_⟩
  ·show upd H4 D2 _ p=_
   rw [kN z.1];exact g4 _ _ z.2
  ·show upd H4 D2 _ t=_
   rw [kN tD];exact ht
 ·rintro σ H3 ⟨x0,us,rfl,g3,hL3,hu⟩
  rw [fb (by rw [bg,bg,hW.1];exact ba _)] at hu;refine ⟨D2,_,rfl,.inl ⟨SqL.of hL3,λ t nt=>?_⟩⟩;have gt:=kE nt (.tup (us.map V.ref));exact k t _ (g3.trans gt) ⟨us,kD,hu.imp λ p x z=>gt _ _ z.2⟩
open Mth Sca Ang
structure LW (H:Hp) (r a:ag) (ts:List ag) (W:List (List Nat)):Prop where
 top:H r=some (.lst (ts.map V.ref))
 nd:ts.Nodup
 row:AllAt kLA H ts W
 rt:r∉ts
 at_:a∉ts
 ar:a≠r
theorem LW.but {H H':Hp} {r a:ag} {ts:List ag} {W:List (List Nat)} (h:LW H r a ts W) (b:SameBut a H H'):LW H' r a ts W :=
 ⟨b _ _ h.ar.symm h.top,h.nd,⟨h.row.1,λ i p x e1 e2=>b _ _ (λ z=>h.at_ (z ▸ eJ e1)) (h.row.2 i p x e1 e2)⟩,h.rt,h.at_,h.ar⟩
theorem LW.put {H:Hp} {r a t:ag} {ts:List ag} {W:List (List Nat)} {p:Nat} {row:List Nat} (h:LW H r a ts W) (e:ts[p]?=some t):LW (upd H t (.lst (row.map vn))) r a ts (W.set p row):=by
 have mt:=eJ e;refine ⟨by rw [kN (show r≠t from λ z=>h.rt (by rw [z];exact mt))];exact h.top,h.nd,⟨by rw [wc];exact h.row.1,λ i p' x e1 e2=>?_⟩,h.rt,h.at_,h.ar⟩;unfold kLA;by_cases c:p=i
 ·subst c
  rw [e] at e1;cases e1
  rw [jo (h.row.1 ▸ (au.mp e).1)] at e2;cases e2
  exact kD
 ·rw [iO c] at e2
  rw [kN]
  ·exact h.row.2 i p' x e1 e2
  ·intro z
   subst z;obtain ⟨l1,g1⟩:=au.mp e;obtain ⟨l2,g2⟩:=au.mp e1;exact c ((yi h.nd).mp (g1.trans g2.symm))
def Out (a:ag) (ts:List ag) (H H':Hp):Prop:=∀ b o,b≠a->b∉ts->H b=some o->H' b=some o
theorem Out.trans {a:ag} {ts:List ag} {H H1 H2:Hp} (x:Out a ts H H1) (y:Out a ts H1 H2):Out a ts H H2:=λ b o n m e=>y b o n m (x b o n m e)
theorem Out.but {a:ag} {ts:List ag} {H H':Hp} (x:SameBut a H H'):Out a ts H H':=λ b o n _ e=>x b o n e
theorem Out.put {a t:ag} {ts:List ag} {H:Hp} {p:Nat} {o:HO} (e:ts[p]?=some t):Out a ts H (upd H t o):=λ b u _ m q=>by rw [kN (show b≠t from λ z=>m (by rw [z];exact eJ e))];exact q
def Grown (W W':List (List Nat)) (p q:Nat):Prop:=W'.length=W.length/\∀ (i:Nat) (row:List Nat),W[i]?=some row->∃ row',W'[i]?=some row'/\row'.Perm (if i=p then q::row else if i=q then p::row else row)
theorem sX {α:Type} (xs:List α) (y:α) (i:Nat):(xs.take i++y::xs.drop i).Perm (y::xs):=by
 have:=EB (a:=y) (l₁:=xs.take i) (l₂:=xs.drop i);rwa [iT] at this
theorem kIF {W:List (List Nat)} {p q:Nat} {rp rq rp' rq':List Nat} (ne:p≠q) (ep:W[p]?=some rp) (eq:W[q]?=some rq) (h1:rp'.Perm (q::rp)) (h2:rq'.Perm (p::rq)):Grown W ((W.set p rp').set q rq') p q:=by
 refine ⟨by rw [wc,wc],λ i row e=>?_⟩;have lp:=(au.mp ep).1;have lq:=(au.mp eq).1;by_cases c:i=p
 ·subst c
  rw [e] at ep;cases ep
  refine ⟨rp',?_,by rw [if_pos rfl];exact h1⟩;rw [iO (iY ne),jo lp]
 rw [if_neg c];by_cases d:i=q
 ·subst d
  rw [e] at eq;cases eq
  exact ⟨rq',jo (show i<(W.set p rp').length from by rw [wc];exact lq),(if_pos (c:=i=i) rfl).symm ▸ h2⟩
 ·refine ⟨row,?_,by rw [if_neg d]⟩
  rw [iO (iY d),iO (iY c),e]
inductive kLL (vs:List V) (H:Hp) (Q:VK) (Y:XK):Prop
 | mk:∀ (a r:ag) (p q:Nat) (ts:List ag) (W:List (List Nat)) (rp rq:List Nat),(vs=[.ref a,.ref r,vn p,vn q])->(PotAt H a)->(LW H r a ts W)->(p≠q)->(W[p]?=some rp)->(W[q]?=some rq)->(rp.length<=800)->(rq.length<=800) ->
   (∀ (H':Hp) (W':List (List Nat)),PotAt H' a->LW H' r a ts W'->Out a ts H H'->Grown W W' p q->Q .non H')->kLL vs H Q Y
theorem fM (B:Fx):Hs "_law_tie" ["_law_pot_here","_law_rows","_law_p","_law_q"] 2 (kLL):=by
 refine qC B.X B.d48 kAA λ f cdv A outer s H vs Q E nN hr h=>?_;obtain ⟨a,r,p,q,ts,W,rp,rq,rfl,ha,hW,ne,ep,eq,lp,lq,k⟩:=h
 refine ⟨_,(kF (jQ (yO BS BU mP (pix kT (pv 1) (pv 2)) (p2 (pf (kW B) hr (p2 (pv 0) (kO jG (kS qM rfl (B.z B.y6) jr (p1 (pix kT (pv 1) (pv 2)))) kC))) (pv 3))))
   (kI (jQ (yO BS BU mP (pix kT (pv 1) (pv 3)) (p2 (pf (kW B) hr (p2 (pv 0) (kO jG (kS qM rfl (B.z B.y6) jr (p1 (pix kT (pv 1) (pv 3)))) kC))) (pv 2)))))),?_⟩
 try dsimp only [qE]
 obtain ⟨tp,etp,hp⟩:=hW.row.at ep;obtain ⟨tq,etq,hq⟩:=hW.row.at eq;have hp:H tp=some (.lst (rp.map vn)):=hp;have hq:H tq=some (.lst (rq.map vn)):=hq;refine ⟨_,rfl,_,rfl,r,_,_,.ref tp,rfl,rfl,SqL.of hW.top,jH (j:=p) (by rw [bq,etp];rfl),.inl ⟨rfl,_,SqL.of hp⟩,?_⟩;refine ⟨_,rfl,_,rfl,_,rfl,r,_,_,_,rfl,rfl,SqL.of hW.top,jH (j:=p) (by rw [bq,etp];rfl),tp,_,rfl,.inl (SqL.of hp),_,_,rfl,rfl,a,_,rfl,ha,?_,?_,λ d H1 d0 dm s1 p1_=>?_⟩
 ·rw [bg];omega
 ·rw [bg];exact be (show _<2 ^ 10 by omega) (pk (by decide) (by decide))
 rw [bg] at dm;have tpa:tp≠a:=λ z=>hW.at_ (z ▸ eJ etp);have hp1:=s1 _ _ tpa hp;refine ⟨_,rfl,tp,_,_,_,rfl,rfl,hp1,d0,by omega,qR (by rw [bg];omega),?_⟩;have cut:∀ (xs:List Nat) (y:Nat) (i:Nat),(xs.map vn).take i++vn y::(xs.map vn).drop i=(xs.take i++y::xs.drop i).map vn:=λ xs y i=>by rw [iM,iV,Cr,yv]
 rw [cut];have W1:=(hW.but s1).put (row:=rp.take d.toNat++q::rp.drop d.toNat) etp;have o1:Out a ts H (upd H1 tp (.lst ((rp.take d.toNat++q::rp.drop d.toNat).map vn))):=(Out.but s1).trans (Out.put etp);have a1:PotAt (upd H1 tp (.lst ((rp.take d.toNat++q::rp.drop d.toNat).map vn))) a:=p1_.other (iY tpa);generalize upd H1 tp (.lst ((rp.take d.toNat++q::rp.drop d.toNat).map vn))=H2 at *;have eq2:(W.set p (rp.take d.toNat++q::rp.drop d.toNat))[q]?=some rq:=by rw [iO ne];exact eq
 have hq2:H2 tq=some (.lst (rq.map vn)):=W1.row.2 q tq rq etq eq2;refine ⟨_,rfl,_,rfl,r,_,_,.ref tq,rfl,rfl,SqL.of W1.top,jH (j:=q) (by rw [bq,etq];rfl),.inl ⟨rfl,_,SqL.of hq2⟩,?_⟩;refine ⟨_,rfl,_,rfl,_,rfl,r,_,_,_,rfl,rfl,SqL.of W1.top,jH (j:=q) (by rw [bq,etq];rfl),tq,_,rfl,.inl (SqL.of hq2),_,_,rfl,rfl,a,_,rfl,a1,?_,?_,λ e H3 e0 em s3 p3_=>?_⟩
 ·rw [bg];omega
 ·rw [bg];exact be (show _<2 ^ 10 by omega) (pk (by decide) (by decide))
 rw [bg] at em;have tqa:tq≠a:=λ z=>hW.at_ (z ▸ eJ etq);have hq3:=s3 _ _ tqa hq2;refine ⟨_,rfl,tq,_,_,_,rfl,rfl,hq3,e0,by omega,qR (by rw [bg];omega),?_⟩;rw [cut];exact k _ _ (p3_.other (iY tqa)) ((W1.but s3).put (row:=rq.take e.toNat++p::rq.drop e.toNat) etq) (o1.trans ((Out.but s3).trans (Out.put etq))) (kIF ne ep eq (sX _ _ _) (sX _ _ _))
open Mth Sca Ang
structure Wk (n k:Nat) (W:List (List Nat)):Prop where
 len:W.length=n
 nd:∀ (i:Nat) (row:List Nat),W[i]?=some row->row.Nodup
 lt:∀ (i:Nat) (row:List Nat),W[i]?=some row->∀ q∈row,q<k/\q≠i
 nil:∀ (i:Nat) (row:List Nat),W[i]?=some row->k<=i->row=[]
 ne:2<=k->∀ (i:Nat) (row:List Nat),W[i]?=some row->i<k->row≠[]
 sym:∀ (i j:Nat) (ri rj:List Nat),W[i]?=some ri->W[j]?=some rj->(j∈ri↔i∈rj)
theorem Wk.start (n:Nat):Wk n 1 (nh n []):=by
 have e:∀ (i:Nat) (row:List Nat),(nh n ([]:List Nat))[i]?=some row->row=[]:=λ i row h=>List.eq_of_mem_replicate (eJ h);refine ⟨yd,λ i row h=>?_,λ i row h q hq=>?_,λ i row h _=>e i row h,λ h=>by omega,λ i j ri rj h1 h2=>?_⟩
 ·rw [e i row h];exact Ac
 ·rw [e i row h] at hq;cases hq
 ·rw [e i ri h1,e j rj h2]
  exact ⟨(λ z=>nomatch z),(λ z=>nomatch z)⟩
theorem Grown.old {W W':List (List Nat)} {p q i:Nat} {row':List Nat} (g:Grown W W' p q) (e:W'[i]?=some row'):∃ row,W[i]?=some row/\row'.Perm (if i=p then q::row else if i=q then p::row else row):=by
 have hi:i<W.length:=g.1 ▸ (au.mp e).1;obtain ⟨r',e',h⟩:=g.2 i W[i] (ao hi);rw [e] at e'
 cases e'
 exact ⟨_,ao hi,h⟩
theorem Grown.mem {p q i x:Nat} {row row':List Nat} (ne:p≠q) (h:row'.Perm (if i=p then q::row else if i=q then p::row else row)):x∈row'↔x∈row\/(i=p/\x=q)\/(i=q/\x=p):=by
 rw [h.mem_iff];by_cases c:i=p
 ·subst c
  rw [if_pos rfl,gu];constructor
  ·rintro (z | z)
   ·exact .inr (.inl ⟨rfl,z⟩)
   ·exact .inl z
  ·rintro (z | ⟨_,z⟩ | ⟨z,_⟩)
   ·exact .inr z
   ·exact .inl z
   ·exact absurd z ne
 rw [if_neg c];by_cases d:i=q
 ·subst d
  rw [if_pos rfl,gu];constructor
  ·rintro (z | z)
   ·exact .inr (.inr ⟨rfl,z⟩)
   ·exact .inl z
  ·rintro (z | ⟨z,_⟩ | ⟨_,z⟩)
   ·exact .inr z
   ·exact absurd z c
   ·exact .inl z
 rw [if_neg d];exact ⟨.inl,λ z=>z.elim id λ z=>z.elim (λ z=>absurd z.1 c) λ z=>absurd z.1 d⟩
theorem Wk.grow {n k K0 p q:Nat} {W W':List (List Nat)} (h:Wk n k W) (g:Grown W W' p q) (ne:p≠q) (pK:p<K0) (qK:q<K0) (kK:K0=k\/(K0=k+1/\q=k/\p<k)) (nq:∀ rp,W[p]?=some rp->q∉rp) (np:∀ rq,W[q]?=some rq->p∉rq):Wk n K0 W':=by
 refine ⟨g.1.trans h.len,λ i row e=>?_,λ i row e x hx=>?_,λ i row e hi=>?_,λ k2 i row e hi z=>?_,λ i j ri rj e1 e2=>?_⟩
 ·obtain ⟨r,e',m⟩:=g.old e
  rw [m.nodup_iff];have nd:=h.nd i r e';by_cases c:i=p
  ·subst c
   rw [if_pos rfl];exact uq.mpr ⟨nq r e',nd⟩
  rw [if_neg c];by_cases d:i=q
  ·subst d
   rw [if_pos rfl];exact uq.mpr ⟨np r e',nd⟩
  rw [if_neg d];exact nd
 ·obtain ⟨r,e',m⟩:=g.old e
  rcases (Grown.mem ne m).mp hx with z | ⟨z,y⟩ | ⟨z,y⟩
  ·have:=h.lt i r e' x z
   omega
  ·omega
  ·omega
 ·obtain ⟨r,e',m⟩:=g.old e
  rw [if_neg (by omega),if_neg (by omega),h.nil i r e' (by omega)] at m;exact List.perm_nil.mp m
 ·obtain ⟨r,e',m⟩:=g.old e
  subst z;by_cases c:i=p
  ·rw [if_pos c] at m
   exact absurd (yu.mp m) (by simp)
  rw [if_neg c] at m;by_cases d:i=q
  ·rw [if_pos d] at m
   exact absurd (yu.mp m) (by simp)
  rw [if_neg d] at m;have:=yu.mp m;exact h.ne (by omega) i r e' (by omega) this
 ·obtain ⟨r,e',m⟩:=g.old e1
  obtain ⟨s,e'',m'⟩:=g.old e2;rw [Grown.mem ne m,Grown.mem ne m',h.sym i j r s e' e''];exact ⟨λ z=>z.elim .inl λ z=>.inr (by omega),λ z=>z.elim .inl λ z=>.inr (by omega)⟩
theorem Wk.ok {n:Nat} {W:List (List Nat)} (h:Wk n n W) (n2:2<=n) (n9:n<=12):WebOk W:=by
 refine ⟨h.len ▸ n9,λ p row e=>?_⟩;have lp:p<n:=h.len ▸ (au.mp e).1;have nd:=h.nd p row e;have lt:=h.lt p row e;have:=yr nd (l₂:=qg n) λ x hx=>uz.mpr (lt x hx).1;rw [BF] at this;exact ⟨nd,h.ne n2 p row e lp,by omega,λ q hq=>⟨h.len.symm ▸ (lt q hq).1,(lt q hq).2⟩⟩
theorem Wk.short {n k:Nat} {W:List (List Nat)} (h:Wk n k W) (kn:k<=n) (n9:n<=12) {i:Nat} {row:List Nat} (e:W[i]?=some row):row.length<=12:=by
 have:=yr (h.nd i row e) (l₂:=qg n) λ x hx=>uz.mpr (be (h.lt i row e x hx).1 kn);rw [BF] at this;omega
theorem kLZ {a:ag} {ts:List ag} {H H1 H2:Hp} (g:SameBut a H H1) (fr:∀ t∈ts,H t=none) (o:Out a ts H1 H2):SameBut a H H2:=λ b u n e=>o b u n (λ m=>by rw [fr b m] at e;cases e) (g b u n e)
inductive mG (vs:List V) (H:Hp) (Q:VK) (Y:XK):Prop
 | mk:∀ (a:ag) (n:Nat),(vs=[.ref a,vn n])->(PotAt H a)->(3<=n)->(n<=12)->(∀ (r:ag) (ts:List ag) (W:List (List Nat)) (H':Hp),PotAt H' a->SameBut a H H'->LW H' r a ts W->WebOk W->W.length=n->Q (.ref r) H')->mG vs H Q Y
theorem zO (B:Fx):Hs "_law_any_rows" ["_law_pot_here","_law_n"] 3 (mG):=by
 refine qC B.X B.d49 cJ λ f cdv A outer s H vs Q E nN hr h=>?_;obtain ⟨a,n,rfl,ha,n3,n8,k⟩:=h
 refine ⟨_,(kF (kCF (i:=2) (Nc:=["_law_k"]) (js:=[none]) rfl rfl nN rfl (Ds rfl) (yV rfl (B.z B.y7) (p1 (pv 1))) (CS.of rfl rfl) rfl (λ C s₂ H₂ fp pins=>(pgc 0)) (λ C s₂ H₂ fp pins D L=>(jW (jN (jF kZ)))))
   (kF (aY (mN rfl (B.z B.y7) (p2 kC (pv 1))) (pgn 3 nN) (kI (jQ (pf (fM B) hr (kH (pv 0) (kH (pv 2) (kH (pf (kW B) hr (p2 (pv 0) (pv 3))) (kH (pv 3) kZ))))))))
   (kF (aY (yV rfl (B.z B.y7) (p1 (pf (kW B) hr (p2 (pv 0) (kO Own.op_mulW kC (pv 1)))))) (pgn 3 nN) (kF (wE (i:=4) (j:=5) rfl nN rfl rfl (by decide) rfl rfl (p2 (pf (kW B) hr (p2 (pv 0) (pv 1))) (pf (kW B) hr (p2 (pv 0) (pv 1)))) rfl)
   (kI (qP (PW.pt (wC (kU sI (pv 4) (pv 5) (kX _)) (zD (kU oS (pv 5) (pix kT (pv 2) (pv 4)) rfl)))) (kI (jQ (pf (fM B) hr (kH (pv 0) (kH (pv 2) (kH (pv 4) (kH (pv 5) kZ))))))) qB))))
   (kI (kP (pv 2)))))),?_⟩
 try dsimp only [qE]
 have anone:∀ {l},H l=none->a≠l:=λ {l} z=>by
  obtain ⟨x,y,e,_⟩:=ha;exact kR e z
 refine ⟨_,rfl,_,rfl,by omega,by omega,λ r nr=>?_⟩;refine tN (λ i σ H1=>∃ (x0:Option V) (ts:List ag),σ=[x0]/\Same H H1/\(∀ t∈ts,H t=none)/\LW H1 r a ts (nh i [])) ⟨none,[],rfl,kE nr _,(λ t ht=>nomatch ht),⟨kD,Ac,AllAt.nil,(λ z=>nomatch z),(λ z=>nomatch z),anone nr⟩⟩ ?_ ?_
 ·rintro i σ H1 hi ⟨x0,ts,rfl,g,fr,X⟩
  have hi:i<n:=by simpa using hi
  refine ⟨yS0,λ t nt=>?_⟩;have gt:=kE nt (.lst []);have nt0:=g.free nt;have tr:t≠r:=λ z=>by subst z;rw [X.top] at nt;cases nt
  have lt:=X.row.1;rw [yd] at lt
  have tts:t∉ts:=λ z=>by
   obtain ⟨j,ej⟩:=yg.mp z;obtain ⟨x,_,hx⟩:=X.row.get ej;have hx:H1 t=some (.lst _):=hx;rw [nt] at hx;cases hx
  refine ⟨_,gt _ _ X.top,qR (by rw [bg];omega),?_⟩;have g3:=qQ nr (g.trans gt) (o:=.lst (ts.map V.ref++[.ref t]));refine ⟨_,ts++[t],rfl,g3,λ x hx=>?_,by rw [kD,iM];rfl,?_,?_,λ z=>?_,λ z=>?_,X.ar⟩
  ·rcases gf.mp hx with hx | hx
   ·exact fr x hx
   ·cases eu.mp hx
    exact nt0
  ·rw [BD]
   exact ⟨X.nd,by simp,λ x hx y hy=>by cases eu.mp hy;intro z;subst z;exact tts hx⟩
  ·rw [List.replicate_succ']
   refine AllAt.snoc ⟨X.row.1,λ j x y e1 e2=>?_⟩ ?_
   ·show upd _ r _ x=_
    rw [kN (show x≠r from λ z=>X.rt (z ▸ eJ e1))];exact gt _ _ (X.row.2 j x y e1 e2)
   ·show upd _ r _ t=_
    rw [kN tr];exact kD
  ·rcases gf.mp z with z | z
   ·exact X.rt z
   ·exact tr (eu.mp z).symm
  ·rcases gf.mp z with z | z
   ·exact X.at_ z
   ·exact anone nt0 (eu.mp z)
 rintro σ H1 ⟨x0,ts,rfl,g,fr,X⟩;rw [iZ] at X;have a1:=ha.kept g;have s1:=SameBut.of (a:=a) g;have X1:=Wk.start n;generalize nh n []=W at *;clear g ha;have big:∀ {m:Int},0<=m->m<100->m.natAbs<2 ^ 9000:=λ h0 h1=>be (show _<2 ^ 10 by omega) (pk (by decide) (by decide));refine ⟨_,rfl,1,n,rfl,(by omega),?_⟩;refine xP (λ i σ H2=>∃ (x3:Option V) (W:List (List Nat)),σ=[some (.ref a),some (vn n),some (.ref r),x3,none,none]/\PotAt H2 a/\SameBut a H H2/\LW H2 r a ts W/\Wk n (i+1) W) ⟨none,W,rfl,a1,s1,X,X1⟩ ?_ ?_
 ·clear X X1 s1 a1 W
  rintro i σ H2 hi ⟨x3,W,rfl,a1,s1,X,X1⟩;have hi:i+1<n:=by omega
  refine ⟨_,rfl,_,rfl,_,rfl,_,rfl,a,1+(i:Int),rfl,a1,by omega,big (by omega) (by omega),λ d H3 d0 dm s3 p3_=>?_⟩;obtain ⟨d,rfl⟩:=lg d0;have lW:=X1.len;have ed:=ao (l:=W) (i:=d) (by omega);have ei:=ao (l:=W) (i:=i+1) (by omega);generalize W[d]=rp at *;generalize W[i+1]=rq at *;have nq:∀ rp,W[d]?=some rp->i+1∉rp:=λ rp e z=>by have:=X1.lt d rp e _ z;omega
  refine ⟨_,rfl,a,r,d,i+1,ts,W,rp,rq,by simp [vn];omega,p3_,X.but s3,by omega,ed,ei,by have:=X1.short (by omega) n8 ed;omega,by have:=X1.short (by omega) n8 ei;omega,λ H4 W4 a4 X4 o4 g4=>?_⟩;refine ⟨_,W4,rfl,a4,kLZ (s1.trans s3) fr o4,X4,X1.grow g4 (by omega) (by omega) (by omega) (.inr ⟨rfl,rfl,by omega⟩) nq λ rq e z=>nq rp ed ?_⟩;exact (X1.sym d (i+1) rp rq ed e).mpr z
 rintro σ H2 ⟨x3,W2,rfl,a2,s2,X2,X3⟩;rw [show (((n:Int)-1).toNat+1)=n by omega] at X3;clear X X1 s1 a1 W x0 H1;refine ⟨_,rfl,_,rfl,_,_,rfl,rfl,⟨by decide,big (by omega) (by omega)⟩,a,2*(n:Int),rfl,a2,by omega,big (by omega) (by omega),λ m H3 m0 mm s3 p3_=>?_⟩;refine ⟨_,rfl,by omega,by omega,?_⟩;refine xP (λ i σ H4=>∃ (x3 x4 x5:Option V) (W:List (List Nat)),σ=[some (.ref a),some (vn n),some (.ref r),x3,x4,x5]/\PotAt H4 a/\SameBut a H H4/\LW H4 r a ts W/\Wk n n W) ⟨_,_,_,W2,rfl,p3_,s2.trans s3,X2.but s3,X3⟩ ?_ ?_
 ·clear X2 X3 s2 a2 s3 p3_ W2
  rintro i σ H4 hi ⟨x3,x4,x5,W,rfl,a1,s1,X,X1⟩;refine ⟨_,rfl,_,rfl,a,n,rfl,a1,by omega,big (by omega) (by omega),λ p H5 p0 pm s5 a5=>?_⟩;obtain ⟨p,rfl⟩:=lg p0;refine ⟨_,rfl,_,rfl,a,n,rfl,a5,by omega,big (by omega) (by omega),λ q H6 q0 qm s6 a6=>?_⟩;obtain ⟨q,rfl⟩:=lg q0;have X6:=(X.but s5).but s6;have s16:=s1.trans (s5.trans s6);refine ⟨_,_,rfl,?_⟩;have lW:=X1.len;have ep:=ao (l:=W) (i:=p) (by omega);have eq:=ao (l:=W) (i:=q) (by omega);generalize W[p]=rp at *;generalize W[q]=rq at *;obtain ⟨tp,etp,hp⟩:=X6.row.at ep;have hp:H6 tp=some (.lst (rp.map vn)):=hp;refine ⟨_,rfl,_,rfl,rfl,_,rfl,?_⟩;refine jC (λ c=>?_) (λ c=>⟨_,_,_,W,rfl,a6,s16,X6,X1⟩)
  have ne:p≠q:=λ z=>by
   subst z;rw [decide_eq_true rfl] at c;cases c
  refine ⟨_,rfl,_,rfl,_,rfl,r,_,_,.ref tp,rfl,rfl,SqL.of X6.top,jH (j:=p) (by rw [bq,etp];rfl),tp,_,rfl,.inl (SqL.of hp),rfl,cZ _,_,rfl,?_⟩;rw [show inV (V.int (q:Int)) (rp.map vn)=decide (q∈rp) from pG q rp];refine jC (λ c2=>?_) (λ c2=>⟨_,_,_,W,rfl,a6,s16,X6,X1⟩)
  have nq:q∉rp:=λ z=>by
   rw [decide_eq_true z] at c2;cases c2
  refine ⟨_,rfl,_,rfl,_,rfl,_,rfl,a,r,p,q,ts,W,rp,rq,rfl,a6,X6,ne,ep,eq,by have:=X1.short (by omega) n8 ep;omega,by have:=X1.short (by omega) n8 eq;omega,λ H7 W7 a7 X7 o7 g7=>?_⟩;refine ⟨_,_,_,W7,rfl,a7,kLZ s16 fr o7,X7,X1.grow g7 ne (by omega) (by omega) (.inl rfl) (λ r' e=>by rw [ep] at e;cases e;exact nq) λ rq' e z=>nq ?_⟩;exact (X1.sym p q rp rq' ep e).mpr z
 rintro σ H4 ⟨x3,x4,x5,W,rfl,a1,s1,X,X1⟩;exact ⟨_,rfl,k r ts W H4 a1 s1 X (X1.ok (by omega) (by omega)) X1.len⟩
open Mth Sca
theorem uT (B:Fx):Hs "_law_alike" ["_law_drawing"] 1 (nW):=by
 refine qC B.X B.d52 oJ λ f cdv A outer s H vs Q E nN hr h=>?_;obtain ⟨t,ps,Ps,rfl,ht,hP,l8,kn,ks⟩:=h
 refine ⟨_,(kF (aY (yV rfl (B.z B.y7) (p1 (kS qM rfl (B.z B.y6) jr (p1 (pv 0))))) (pgn 1 nN) (kI (aY (mN rfl (B.z B.y7) (p2 (kO jG (pv 1) kC) (kS qM rfl (B.z B.y6) jr (p1 (pv 0))))) (pgn 2 nN) (kI (qP (kU (oU hr.units) (pix kJ (pv 0) (pv 1)) (pix kJ (pv 0) (pv 2)) (kX _)) (kI (kP (kY (p2 (pv 1) (pv 2))))) qB)))))
   (kI (kP jJ))),?_⟩
 try dsimp only [qE]
 have lp:ps.length=Ps.length:=hP.1;have ln:((ps.map V.ref).length:Int)=(Ps.length:Int):=by rw [bg,lp]
 refine ⟨_,rfl,t,_,rfl,.inr (SqT.of ht),_,rfl,by omega,by omega,?_⟩;rw [ln,iZ];refine xP (λ i σ H2=>∃ x1 x2:Option V,σ=[some (.ref t),x1,x2]/\Same H H2/\∀ (p q:Nat) (P:Pt),p<i->p<q->Ps[p]?=some P->Ps[q]?≠some P) ⟨_,_,rfl,λ _ _ h=>h,λ p q P h=>by omega⟩ ?_ ?_
 ·rintro i σ H2 hi ⟨x1,x2,rfl,g,no⟩
  refine ⟨_,rfl,_,_,rfl,rfl,_,rfl,t,_,rfl,.inr (SqT.of (g _ _ ht)),_,_,rfl,by omega,?_⟩;rw [ln];refine xP (λ j σ H3=>∃ x2:Option V,σ=[some (.ref t),some (vn i),x2]/\Same H H3/\∀ (q:Nat) (P:Pt),q<i+1+j->i<q->Ps[i]?=some P->Ps[q]?≠some P) ⟨_,by simp [vn];rfl,g,λ q P h=>by omega⟩ ?_ ?_
  ·rintro j σ H3 hj ⟨x2,rfl,g3,no2⟩
   have hq:i+1+j<Ps.length:=by omega
   have eP:=ao hi;have eR:=ao hq;generalize Ps[i]=P0 at *;generalize Ps[i+1+j]=R at *;obtain ⟨pp,ep,hp⟩:=hP.at eP;obtain ⟨qp,eq,hq_⟩:=hP.at eR;refine ⟨_,rfl,_,rfl,t,_,_,_,rfl,rfl,SqT.of (g3 _ _ ht),jH (j:=i) (by rw [bq,ep];rfl),_,rfl,_,rfl,t,_,_,.ref qp,rfl,rfl,SqT.of (g3 _ _ ht),?_,ptD P0,ptD R,(hp.kept g3).dt,(hq_.kept g3).dt,aX _,aX _,_,rfl,?_⟩
   ·rw [show (0:Int)+(i:Int)+1+(j:Int)=((i+1+j:Nat):Int) by omega]
    exact jH (j:=i+1+j) (by rw [bq,eq];rfl)
   rw [if_neg (show ¬ (false=true) by decide)];refine jC (λ c=>?_) (λ c=>?_)
   ·have c:=(kIK _ _).mp c
    subst c;refine ⟨_,rfl,_,rfl,yS2,λ a na=>?_⟩;refine ks a i (i+1+j) _ (g3.trans (kE na _)) ?_ ⟨by omega,⟨P0,eP,eR⟩,λ p' q' R' pq e1 e2=>?_⟩
    ·rw [kD]
     simp [vn]
    ·rcases Nat.lt_trichotomy p' i with l | l | l
     ·exact absurd e2 (no p' q' R' l pq e1)
     ·subst l
      refine .inr ⟨rfl,?_⟩;rcases vc q' (p'+1+j) with l2 | l2
      ·exact absurd e2 (no2 q' R' l2 pq e1)
      ·exact l2
     ·exact .inl l
   ·have c:P0≠R:=λ z=>c ((kIK _ _).mpr z)
    refine ⟨_,rfl,g3,λ q P hq iq e1 e2=>?_⟩;rcases DF (show q<=i+1+j by omega) with l | l
    ·exact no2 q P l iq e1 e2
    ·subst l
     rw [eP] at e1;rw [eR] at e2;cases e1
     cases e2
     exact c rfl
  ·rintro σ H3 ⟨x2,rfl,g3,no2⟩
   refine ⟨_,_,rfl,g3,λ p q P hp pq e1 e2=>?_⟩;rcases DF (show p<=i by omega) with l | l
   ·exact no p q P l pq e1 e2
   ·subst l
    exact no2 q P (by have:=(au.mp e2).1;omega) pq e1 e2
 ·rintro σ H2 ⟨x1,x2,rfl,g,no⟩
  exact kn H2 g λ p q P pq e1=>no p q P (by have:=(au.mp e1).1;omega) pq e1
open Mth Sca
theorem kKY:bootBuiltins "ValueError" = some (.type "ValueError"):=by decide +kernel
theorem wP {H H':Hp} {a C:ag} {dx:Option ag} {t1:af} (x:XAt H a C dx t1) (g:Same H H'):XAt H' a C dx t1:=⟨g _ _ x.1,λ d e=>by
 obtain ⟨fs,z⟩:=x.2 d e;exact ⟨fs,g _ _ z⟩⟩
theorem kd1 {n c:Str} {b:Bool} {C:ag} (B:Fx) (d:zJ K n c b) (h:mg n=some (.ref C)):∃ G,mg c=some (.ref G)/\ir K (.ref C) (.ref G)=some b:=by
 obtain ⟨C1,G,m1,g,k⟩:=kQK B.X d;rw [h] at m1;cases m1
 exact ⟨G,g,k⟩
theorem kv1 {n:Str} {C:ag} (B:Fx) (d:kLC K n) (h:mg n=some (.ref C)):ir K (.ref C) (.type "ValueError")=some true:=by
 obtain ⟨C1,m1,k⟩:=kQJ B.X d;rw [h] at m1;cases m1
 exact k
inductive kGD (vs:List V) (H:Hp) (Q:VK) (Y:XK):Prop
 | mk:∀ (a C:ag) (dx:Option ag) (t1:af),(vs=[.ref a])->(XAt H a C dx t1)->(Ex.XK0 K C)->(mg "Alike" = some (.ref C))->(∀ H',Same H H'->Q (.bl true) H')->kGD vs H Q Y
theorem fO (B:Fx):kOY P w K mg base "_law_is_just" ["_law_e"] 2 kGD:=by
 refine kOD B.X B.d53 dN (λ f cdv A outer s H vs Q E nN hr h=>?_) (by intro _ _ _ _ h;cases h;subst_vars;rfl) (by intro _ _ _ _ _ _ us hl;obtain ⟨_,rfl⟩:=kKL hl;rfl);obtain ⟨a,C,dx,t1,rfl,xa,x0,hC,q⟩:=h;obtain ⟨G_NoText,g_NoText,k_NoText⟩:=kd1 B B.kd_Alike_NoText hC;obtain ⟨G_NotFlat,g_NotFlat,k_NotFlat⟩:=kd1 B B.kd_Alike_NotFlat hC;obtain ⟨G_NotTied,g_NotTied,k_NotTied⟩:=kd1 B B.kd_Alike_NotTied hC;obtain ⟨G_NotCornered,g_NotCornered,k_NotCornered⟩:=kd1 B B.kd_Alike_NotCornered hC;obtain ⟨G_NoRim,g_NoRim,k_NoRim⟩:=kd1 B B.kd_Alike_NoRim hC;obtain ⟨G_NoCorners,g_NoCorners,k_NoCorners⟩:=kd1 B B.kd_Alike_NoCorners hC;obtain ⟨G_NoBase,g_NoBase,k_NoBase⟩:=kd1 B B.kd_Alike_NoBase hC;obtain ⟨G_NoOrder,g_NoOrder,k_NoOrder⟩:=kd1 B B.kd_Alike_NoOrder hC;obtain ⟨G_NoWoods,g_NoWoods,k_NoWoods⟩:=kd1 B B.kd_Alike_NoWoods hC;obtain ⟨G_NoWeights,g_NoWeights,k_NoWeights⟩:=kd1 B B.kd_Alike_NoWeights hC;obtain ⟨G_NoFace,g_NoFace,k_NoFace⟩:=kd1 B B.kd_Alike_NoFace hC;obtain ⟨G_Doubled,g_Doubled,k_Doubled⟩:=kd1 B B.kd_Alike_Doubled hC;obtain ⟨G_NoTie,g_NoTie,k_NoTie⟩:=kd1 B B.kd_Alike_NoTie hC;obtain ⟨G_Parted,g_Parted,k_Parted⟩:=kd1 B B.kd_Alike_Parted hC
 obtain ⟨b,eb0,⟨G_Alike,g_Alike,k_Alike⟩,G_Folded,g_Folded,k_Folded⟩ : ∃ b,b=true/\(∃ G,mg "Alike" = some (.ref G)/\ir K (.ref C) (.ref G)=some b)/\∃ G,mg "Folded" = some (.ref G)/\ir K (.ref C) (.ref G)=some (!b) :=
  ⟨true,rfl,kd1 B B.kd_Alike_Alike hC,kd1 B B.kd_Alike_Folded hC⟩
 have kVE:=kv1 B B.kv_Alike hC
 refine ⟨_,(kF (pst 1 nN (jF (kH (kS qF rfl (B.z B.y1) cf (p2 (pv 0) (qX (v:=.ref G_NoText) rfl g_NoText rfl))) (kH (kS qF rfl (B.z B.y1) cf (p2 (pv 0) (qX (v:=.ref G_NotFlat) rfl g_NotFlat rfl))) (kH (kS qF rfl (B.z B.y1) cf (p2 (pv 0) (qX (v:=.ref G_NotTied) rfl g_NotTied rfl))) (kH (kS qF rfl (B.z B.y1) cf (p2 (pv 0) (qX (v:=.ref G_NotCornered) rfl g_NotCornered rfl))) kZ))))))
   (kF (pst 1 nN (kO vR (pv 1) (jF (kH (kS qF rfl (B.z B.y1) cf (p2 (pv 0) (qX (v:=.ref G_NoRim) rfl g_NoRim rfl))) (kH (kS qF rfl (B.z B.y1) cf (p2 (pv 0) (qX (v:=.ref G_NoCorners) rfl g_NoCorners rfl))) (kH (kS qF rfl (B.z B.y1) cf (p2 (pv 0) (qX (v:=.ref G_NoBase) rfl g_NoBase rfl))) (kH (kS qF rfl (B.z B.y1) cf (p2 (pv 0) (qX (v:=.ref G_NoOrder) rfl g_NoOrder rfl))) kZ)))))))
   (kF (pst 1 nN (kO vR (pv 1) (jF (kH (kS qF rfl (B.z B.y1) cf (p2 (pv 0) (qX (v:=.ref G_NoWoods) rfl g_NoWoods rfl))) (kH (kS qF rfl (B.z B.y1) cf (p2 (pv 0) (qX (v:=.ref G_NoWeights) rfl g_NoWeights rfl))) (kH (kS qF rfl (B.z B.y1) cf (p2 (pv 0) (qX (v:=.ref G_NoFace) rfl g_NoFace rfl))) (kH (kS qF rfl (B.z B.y1) cf (p2 (pv 0) (qX (v:=.ref G_Doubled) rfl g_Doubled rfl))) kZ)))))))
   (kF (pst 1 nN (kO vR (pv 1) (jF (kH (kS qF rfl (B.z B.y1) cf (p2 (pv 0) (qX (v:=.ref G_NoTie) rfl g_NoTie rfl))) (kH (kS qF rfl (B.z B.y1) cf (p2 (pv 0) (qX (v:=.ref G_Parted) rfl g_Parted rfl))) (kH (kS qF rfl (B.z B.y1) cf (p2 (pv 0) (qX (v:=.ref G_Alike) rfl g_Alike rfl))) (kH (kS qF rfl (B.z B.y1) cf (p2 (pv 0) (qX (v:=.ref G_Folded) rfl g_Folded rfl))) kZ)))))))
   (kI (kP (oR (kS qF rfl (B.z B.y1) cf (p2 (pv 0) (cS (v:=.ty "ValueError") rfl (B.z B.y13) kKY rfl))) (kAG (jR vG (yO PySem.F.slot_list_count PySem.F.type_list_count kEF (pv 1) (p1 fF)) kC (kX _)))))))))),?_⟩
 try dsimp only [qE]
 have f4:∀ a b c d:V,[a,b,c,d].length<=sizeLine:=λ _ _ _ _=>(by decide:4<=sizeLine);refine ⟨_,rfl,a,C,dx,t1,_,_,_,rfl,rfl,(λ _ z=>z),xa,x0,k_NoText,_,rfl,a,C,dx,t1,_,_,_,rfl,rfl,(λ _ z=>z),xa,x0,k_NotFlat,_,rfl,a,C,dx,t1,_,_,_,rfl,rfl,(λ _ z=>z),xa,x0,k_NotTied,_,rfl,a,C,dx,t1,_,_,_,rfl,rfl,(λ _ z=>z),xa,x0,k_NotCornered,f4 _ _ _ _,λ l1 n1=>?_⟩;have g1:=kE n1 (.lst [V.bl false,V.bl false,V.bl false,V.bl false]);have e1:=kD (H:=H) (a:=l1) (o:=.lst [V.bl false,V.bl false,V.bl false,V.bl false]);generalize upd H l1 (.lst [V.bl false,V.bl false,V.bl false,V.bl false])=H1 at g1 e1 ⊢;have xa1:=wP xa g1;refine ⟨_,rfl,_,rfl,a,C,dx,t1,_,_,_,rfl,rfl,(λ _ z=>z),xa1,x0,k_NoRim,_,rfl,a,C,dx,t1,_,_,_,rfl,rfl,(λ _ z=>z),xa1,x0,k_NoCorners,_,rfl,a,C,dx,t1,_,_,_,rfl,rfl,(λ _ z=>z),xa1,x0,k_NoBase,_,rfl,a,C,dx,t1,_,_,_,rfl,rfl,(λ _ z=>z),xa1,x0,k_NoOrder,f4 _ _ _ _,λ m1 o1=>?_⟩;have h1:=kE o1 (.lst [V.bl false,V.bl false,V.bl false,V.bl false]);have d1:=kD (H:=H1) (a:=m1) (o:=.lst [V.bl false,V.bl false,V.bl false,V.bl false]);refine ⟨l1,m1,[V.bl false,V.bl false,V.bl false,V.bl false],[V.bl false,V.bl false,V.bl false,V.bl false],rfl,rfl,h1 _ _ e1,d1,yS8,λ l2 n2=>?_⟩;have g2:=g1.trans (h1.trans (kE n2 (.lst ([V.bl false,V.bl false,V.bl false,V.bl false]++[V.bl false,V.bl false,V.bl false,V.bl false]))));have e2:(upd (upd H1 m1 (.lst [V.bl false,V.bl false,V.bl false,V.bl false])) l2 (.lst ([V.bl false,V.bl false,V.bl false,V.bl false]++[V.bl false,V.bl false,V.bl false,V.bl false]))) l2=some (.lst [V.bl false,V.bl false,V.bl false,V.bl false,V.bl false,V.bl false,V.bl false,V.bl false]):=kD;clear h1 d1;generalize upd (upd H1 m1 (.lst [V.bl false,V.bl false,V.bl false,V.bl false])) l2 (.lst ([V.bl false,V.bl false,V.bl false,V.bl false]++[V.bl false,V.bl false,V.bl false,V.bl false]))=H2 at g2 e2 ⊢;have xa2:=wP xa g2;refine ⟨_,rfl,_,rfl,a,C,dx,t1,_,_,_,rfl,rfl,(λ _ z=>z),xa2,x0,k_NoWoods,_,rfl,a,C,dx,t1,_,_,_,rfl,rfl,(λ _ z=>z),xa2,x0,k_NoWeights,_,rfl,a,C,dx,t1,_,_,_,rfl,rfl,(λ _ z=>z),xa2,x0,k_NoFace,_,rfl,a,C,dx,t1,_,_,_,rfl,rfl,(λ _ z=>z),xa2,x0,k_Doubled,f4 _ _ _ _,λ m2 o2=>?_⟩;have h2:=kE o2 (.lst [V.bl false,V.bl false,V.bl false,V.bl false]);have d2:=kD (H:=H2) (a:=m2) (o:=.lst [V.bl false,V.bl false,V.bl false,V.bl false]);refine ⟨l2,m2,[V.bl false,V.bl false,V.bl false,V.bl false,V.bl false,V.bl false,V.bl false,V.bl false],[V.bl false,V.bl false,V.bl false,V.bl false],rfl,rfl,h2 _ _ e2,d2,yS12,λ l3 n3=>?_⟩;have g3:=g2.trans (h2.trans (kE n3 (.lst ([V.bl false,V.bl false,V.bl false,V.bl false,V.bl false,V.bl false,V.bl false,V.bl false]++[V.bl false,V.bl false,V.bl false,V.bl false]))));have e3:(upd (upd H2 m2 (.lst [V.bl false,V.bl false,V.bl false,V.bl false])) l3 (.lst ([V.bl false,V.bl false,V.bl false,V.bl false,V.bl false,V.bl false,V.bl false,V.bl false]++[V.bl false,V.bl false,V.bl false,V.bl false]))) l3=some (.lst [V.bl false,V.bl false,V.bl false,V.bl false,V.bl false,V.bl false,V.bl false,V.bl false,V.bl false,V.bl false,V.bl false,V.bl false]):=kD;clear h2 d2;generalize upd (upd H2 m2 (.lst [V.bl false,V.bl false,V.bl false,V.bl false])) l3 (.lst ([V.bl false,V.bl false,V.bl false,V.bl false,V.bl false,V.bl false,V.bl false,V.bl false]++[V.bl false,V.bl false,V.bl false,V.bl false]))=H3 at g3 e3 ⊢;have xa3:=wP xa g3;refine ⟨_,rfl,_,rfl,a,C,dx,t1,_,_,_,rfl,rfl,(λ _ z=>z),xa3,x0,k_NoTie,_,rfl,a,C,dx,t1,_,_,_,rfl,rfl,(λ _ z=>z),xa3,x0,k_Parted,_,rfl,a,C,dx,t1,_,_,_,rfl,rfl,(λ _ z=>z),xa3,x0,k_Alike,_,rfl,a,C,dx,t1,_,_,_,rfl,rfl,(λ _ z=>z),xa3,x0,k_Folded,f4 _ _ _ _,λ m3 o3=>?_⟩;have h3:=kE o3 (.lst [V.bl false,V.bl false,V.bl b,V.bl !b]);have d3:=kD (H:=H3) (a:=m3) (o:=.lst [V.bl false,V.bl false,V.bl b,V.bl !b]);refine ⟨l3,m3,[V.bl false,V.bl false,V.bl false,V.bl false,V.bl false,V.bl false,V.bl false,V.bl false,V.bl false,V.bl false,V.bl false,V.bl false],[V.bl false,V.bl false,V.bl b,V.bl !b],rfl,rfl,h3 _ _ e3,d3,yS16,λ l4 n4=>?_⟩;have g4:=g3.trans (h3.trans (kE n4 (.lst ([V.bl false,V.bl false,V.bl false,V.bl false,V.bl false,V.bl false,V.bl false,V.bl false,V.bl false,V.bl false,V.bl false,V.bl false]++[V.bl false,V.bl false,V.bl b,V.bl !b]))));have e4:(upd (upd H3 m3 (.lst [V.bl false,V.bl false,V.bl b,V.bl !b])) l4 (.lst ([V.bl false,V.bl false,V.bl false,V.bl false,V.bl false,V.bl false,V.bl false,V.bl false,V.bl false,V.bl false,V.bl false,V.bl false]++[V.bl false,V.bl false,V.bl b,V.bl !b]))) l4=some (.lst [V.bl false,V.bl false,V.bl false,V.bl false,V.bl false,V.bl false,V.bl false,V.bl false,V.bl false,V.bl false,V.bl false,V.bl false,V.bl false,V.bl false,V.bl b,V.bl !b]):=kD;clear h3 d3;generalize upd (upd H3 m3 (.lst [V.bl false,V.bl false,V.bl b,V.bl !b])) l4 (.lst ([V.bl false,V.bl false,V.bl false,V.bl false,V.bl false,V.bl false,V.bl false,V.bl false,V.bl false,V.bl false,V.bl false,V.bl false]++[V.bl false,V.bl false,V.bl b,V.bl !b]))=H4 at g4 e4 ⊢;have xa4:=wP xa g4;have eb:H4 l4=some (.lst (([false,false,false,false,false,false,false,false,false,false,false,false,false,false,b,!b]:List Bool).map V.bl)):=e4;refine ⟨_,rfl,a,C,dx,t1,_,_,_,rfl,rfl,(λ _ z=>z),xa4,x0,kVE,_,rfl,?_⟩;refine wL ?_;refine ⟨_,rfl,.inl ⟨rfl,_,SqL.of eb⟩,l4,[false,false,false,false,false,false,false,false,false,false,false,false,false,false,b,!b],rfl,rfl,eb,rfl,?_⟩;have:=q _ g4
 cases b<;>exact this
open Mth Sca
inductive Ans
 | al (p q:Nat) | ms (L:List Mt)
def IsAns (Ps:List Pt) (L:List (Nat×Nat)):Ans->Prop
 | .al p q=>Least Ps p q
 | .ms M=>hU Ps/\M=xX Ps L L.length
def AnsAt (H:Hp) (v:V):Ans->Prop
 | .al p q=>∃ t b,v=.ref t/\H t=some (.tup [.str (sv "alike"),.ref b])/\H b=some (.tup [vn p,vn q])
 | .ms M=>∃ D,v=.ref D/\kOW H D M
theorem Least.no {Ps:List Pt} {p q:Nat} (h:Least Ps p q):¬ hU Ps:=λ n=>by
 obtain ⟨P0,a,b⟩:=h.same;exact n p q P0 h.lt a b
theorem IsAns.uniq {Ps:List Pt} {W:List (Nat×Nat)} {a b:Ans} (h:IsAns Ps W a) (k:IsAns Ps W b):a=b:=by
 cases a<;>cases b<;>simp only [IsAns] at h k
 ·obtain ⟨P0,e1,e2⟩:=h.same
  obtain ⟨R0,e3,e4⟩:=k.same;have a:=h.le _ _ _ k.lt e3 e4;have b:=k.le _ _ _ h.lt e1 e2
  congr<;>omega
 ·exact absurd k.1 h.no
 ·exact absurd h.1 k.no
 ·rw [h.2,k.2]
inductive kBP (vs:List V) (H:Hp) (Q:VK) (Y:XK):Prop
 | mk:∀ (tw td:ag) (W:List (List Nat)) (Ps:List Pt),(vs=[.ref tw,.ref td])->(WAt H tw W)->(DAt H td Ps)->(Smal W)->(lF Ps)->(Ps.length<=900)->(hJ Ps.length (Fc.tiesS W))->(∀ (v:V) (H':Hp) (a:Ans),SameE H H'->IsAns Ps (Fc.tiesS W) a->AnsAt H' v a->(∀ M,a=.ms M->∀ D,v=.ref D->H D=none)->Q v H')->kBP vs H Q Y
inductive XE (H:Hp) (Ps:List Pt) (cls:af) (dx:Option ag) (H':Hp):Prop
 | al:∀ (C d a:ag) (p q:Nat),(cls=.ref C)->(dx=some d)->(mg "Alike" = some (.ref C))->(SameE H H')->(H' d=some (.xd [("places",.ref a)]))->(H' a=some (.tup [vn p,vn q]))->(Least Ps p q)->XE H Ps cls dx H'
theorem kMU {H:Hp} {a C d T:ag} {t1:af} {fs:List (Str×V)} (xa:XAt H a C (some d) t1) (hd:H d=some (.xd fs)) (nT:H T=none):XAt (tr2 H a C (some d) T) a C (some d) (.ref T):=by
 refine ⟨kD,λ d' e=>?_⟩;cases e
 exact ⟨fs,kFL xa.1 nT _ _ (by simp) hd⟩
theorem oZ (B:Fx):Hs "_law_asked" ["_law_web","_law_drawing"] 10 (kBP):=by
 refine qC B.X B.d54 oH λ f cdv A outer s H vs Q E nN hr h=>?_;obtain ⟨fo_,od,FO,bo,ko,mo⟩:=oV B;obtain ⟨D,g_D,GD,ht⟩:=kQV B.X B.xd;obtain ⟨CA,D1,F1,fd1,g_Alike,gD1,m_A,f_A,b_A,veA,vdA,naA⟩:=al B;obtain rfl:D=D1:=by rw [g_D] at gD1;cases gD1;rfl
 obtain ⟨tw,td,W,Ps,rfl,hw,hd,sm,dl,l9,tok,k⟩:=h
 refine ⟨_,(kF (kNG (i:=2) (E:=XE H Ps) nN rfl rfl rfl g_D GD ht rfl rfl
   (λ pins E' hp=>(kI (kP (oQ FO (hr.mono (by decide)) rfl mo ko bo .nil hp (p2 (pv 0) (pv 1))))))
   (λ a=>(kI (qP (PW.pt (wC (jT (kJW (fO B) ((hr.n.mark _).mono (by decide)) rfl (p1 (pv 2)))) (zD (jT (kS (show xB _ _ (vY K) from qF) rfl (B.z B.y1) cf (p2 (pv 2) (qX (v:=.ref CA) rfl g_Alike rfl))))))) (kI (kP (kY (kH jY (kH (show PE _ _ (kLF K _ _) from kJS (pv 2) rfl) kZ))))) qB))))
  (kI (kP jJ))),?_⟩
 refine ⟨⟨_,rfl,_,rfl,tw,td,W,Ps,rfl,hw,hd,sm,dl,l9,tok,λ D H' g nD no hm=>k _ H' (.ms _) (aW g) ⟨no,rfl⟩ ⟨D,rfl,hm⟩ λ M _ D' e=>by cases e;exact nD,λ C d a p q H' mC g hd ha lst=>.al C d a p q rfl rfl mC g hd ha lst⟩,λ σ' H' e C dx T hl hE xa hT=>?_⟩
 obtain ⟨w0,w1,w2,rfl⟩ : ∃ w0 w1 w2,σ'=[w0,w1,w2]:=by
  match σ',hl with
  | [w0,w1,w2],_=>exact ⟨_,_,_,rfl⟩
 cases hE with
 | al C' d a p q eC ed mC g hd ha lst =>
  cases eC
  cases ed
  obtain rfl:C=CA:=by rw [g_Alike] at mC;cases mC;rfl
  refine ⟨m_A.x0,vdA,λ T' nT na=>?_⟩;have x1:=kMU xa hd nT;have s1:=kFL xa.1 nT;have hd1:=s1 _ _ (by simp) hd;have ha1:=s1 _ _ (by simp) ha;generalize tr2 H' e C (some d) T'=H1 at *;obtain ⟨G,gA,kA⟩:=kd1 B B.kd_Alike_Alike mC;obtain rfl:C=G:=by rw [mC] at gA;cases gA;rfl
  refine ⟨_,rfl,e,C,some d,_,rfl,x1,m_A.x0,mC,λ H2 g2=>?_⟩;have x2:=wP x1 g2;refine ⟨_,rfl,?_⟩;refine wL ?_;refine ⟨_,rfl,e,C,some d,_,_,_,_,rfl,rfl,(λ _ z=>z),x2,m_A.x0,kA,_,rfl,?_⟩;refine wL ?_;refine ⟨_,rfl,e,C,d,_,_,.ref a,rfl,x2.1,g2 _ _ hd1,m_A.x0,naA,rfl,yS2,λ t nt=>?_⟩;have gt:=kE nt (.tup [.str (sv "alike"),.ref a]);exact k _ _ (.al p q) (g.trans (s1.trans (aW (g2.trans gt)))) lst ⟨t,a,rfl,kD,gt _ _ (g2 _ _ ha1)⟩ λ M e=>nomatch e
open Mth Sca
theorem pN {K:ai} {H:Hp} (x:Str):Dt K H (.str x) (.str x):=by unfold Dt;rfl
theorem vW {K:ai} {H:Hp} (i:Int):Dt K H (.int i) (.int i):=by unfold Dt;rfl
theorem kOJ {K:ai} {H:Hp}:Dt K H .none .non:=by unfold Dt;rfl
theorem pM {K:ai} {H:Hp} {t:ag} {x y:V} {a b:vm} (h:H t=some (.tup [x,y])) (hx:Dt K H a x) (hy:Dt K H b y):Dt K H (.tuple [a,b]) (.ref t):=by
 unfold Dt;refine ⟨t,_,rfl,SqT.of h,?_⟩;unfold DtAll;refine ⟨_,_,rfl,hx,?_⟩;unfold DtAll;refine ⟨_,_,rfl,hy,?_⟩;unfold DtAll
 rfl
def wD:MO->vm×vm
 | .no=>(.none,.none)
 | .over=>(.str "over",.none)
 | .touch p=>(.str "touch",.int (p:Int))
 | .cross X=>(.str "cross",ptD X)
def mtD (x:Mt):vm:=.tuple [.tuple [.int (x.1.1:Int),.int (x.1.2:Int)],.tuple [.int (x.2.1.1:Int),.int (x.2.1.2:Int)],(wD x.2.2).1,(wD x.2.2).2]
theorem kPF {K:ai} {H:Hp} {k w:V} {m:MO} (h:KW H k w m):Dt K H (wD m).1 k/\Dt K H (wD m).2 w:=by
 cases m with
 | no=>exact h.elim
 | over =>
  obtain ⟨rfl,rfl⟩:=h;exact ⟨pN _,kOJ⟩
 | touch p =>
  obtain ⟨rfl,rfl⟩:=h;exact ⟨pN _,vW _⟩
 | cross X =>
  obtain ⟨x,rfl,rfl,hx⟩:=h;exact ⟨pN _,hx.dt⟩
theorem kNS {K:ai} {H:Hp} {a:ag} {x:Mt} (h:MRow H a x):Dt K H (mtD x) (.ref a):=by
 obtain ⟨t,u,k,w,h1,h2,h3,h4⟩:=h;obtain ⟨d1,d2⟩:=kPF (K:=K) h4;unfold mtD Dt;refine ⟨a,_,rfl,SqT.of h1,?_⟩;unfold DtAll;refine ⟨_,_,rfl,pM h2 (vW _) (vW _),?_⟩;unfold DtAll;refine ⟨_,_,rfl,pM h3 (vW _) (vW _),?_⟩;unfold DtAll;refine ⟨_,_,rfl,d1,?_⟩;unfold DtAll;refine ⟨_,_,rfl,d2,?_⟩;unfold DtAll
 rfl
theorem kHN {K:ai} {H:Hp}:∀ {us:List ag} {ms:List Mt},AllAt MRow H us ms->DtAll K H (ms.map mtD) (us.map V.ref)
 | [],[],_=>by unfold DtAll;rfl
 | u::us,m::ms,h=>by
  rw [iV,iV];unfold DtAll;exact ⟨_,_,rfl,kNS (h.2 0 u m rfl rfl),kHN ⟨by have:=h.1;simp at this;exact this,λ i p x e1 e2=>h.2 (i+1) p x e1 e2⟩⟩
 | [],_::_,h=>by have:=h.1;simp at this
 | _::_,[],h=>by have:=h.1;simp at this
theorem so1:Dh "over" = true:=by decide +kernel
theorem so2:Dh "touch" = true:=by decide +kernel
theorem so3:Dh "cross" = true:=by decide +kernel
theorem kMQ (m:MO):iJ (wD m).1=true/\iJ (wD m).2=true/\jb (wD m).1=0/\jb (wD m).2<=2:=by
 cases m with
 | cross X=>simp [wD,ptD,iJ,eX,jb,iS,so3]
 | _=>simp [wD,iJ,eX,jb,iS,so1,so2]
theorem kKH (x:Mt):iJ (mtD x)=true/\jb (mtD x)<=3:=by
 obtain ⟨h1,h2,h3,h4⟩:=kMQ x.2.2;unfold mtD;generalize wD x.2.2=d at *;simp [iJ,eX,jb,iS,h1,h2,h3];omega
theorem kKE (ms:List Mt):eX (ms.map mtD)=true/\iS (ms.map mtD)<=3+1:=by
 induction ms with
 | nil=>exact ⟨rfl,by decide⟩
 | cons x l ih =>
  obtain ⟨h1,h2⟩:=kKH x;simp only [iV,eX,iS,h1,ih.1];have:=ih.2;refine ⟨rfl,?_⟩;omega
theorem kMR (m:MO):eW (wD m).1 (wD m).1=true/\eW (wD m).2 (wD m).2=true:=by
 cases m with
 | cross X=>exact ⟨by simp [wD,eW],(kIK X X).mpr rfl⟩
 | _=>simp [wD,eW]
theorem kKF (ms:List Mt):qq (ms.map mtD) (ms.map mtD)=true:=by
 induction ms with
 | nil=>rfl
 | cons x l ih =>
  obtain ⟨h1,h2⟩:=kMR x.2.2;simp only [iV,qq,ih,mtD,eW,h1,h2];simp
def pV:Ans->vm
 | .al p q=>.tuple [.str (sv "alike"),.tuple [.int (p:Int),.int (q:Int)]]
 | .ms M=>.list (M.map mtD)
theorem AnsAt.dt {K:ai} {H:Hp} {v:V} {a:Ans} (h:AnsAt H v a):Dt K H (pV a) v:=by
 cases a with
 | al p q =>
  obtain ⟨t,b,rfl,h1,h2⟩:=h;exact pM h1 (pN _) (pM h2 (vW _) (vW _))
 | ms M =>
  obtain ⟨D,rfl,us,h1,h2⟩:=h;unfold pV Dt;exact ⟨D,_,rfl,SqL.of h1,kHN h2⟩
theorem kDF (a:Ans):iB (pV a)=true:=by
 cases a with
 | al p q=>simp [pV,iB,iJ,eX,jb,iS];decide +kernel
 | ms M =>
  obtain ⟨h1,h2⟩:=kKE M;unfold pV iB;simp only [iJ,jb,h1]
  first | (simp;omega) | (rw [gi];exact ⟨rfl,decide_eq_true (by omega)⟩) | simp_all
theorem kIY (a:Ans):eW (pV a) (pV a)=true:=by
 cases a with
 | al p q=>simp [pV,eW,qq]
 | ms M=>simp [pV,eW,kKF]
theorem KW.keptE {H H':Hp} {k w:V} {m:MO} (h:KW H k w m) (g:SameE H H'):KW H' k w m:=by
 cases m with
 | cross X =>
  obtain ⟨x,a,b,p,q,c1,c2,c3⟩:=h;exact ⟨x,a,b,p,q,g _ _ (by simp) c1,g _ _ (by simp) c2,g _ _ (by simp) c3⟩
 | _=>exact h
theorem AnsAt.keptE {H H':Hp} {v:V} {a:Ans} (h:AnsAt H v a) (g:SameE H H'):AnsAt H' v a:=by
 cases a with
 | al p q =>
  obtain ⟨t,b,e,h1,h2⟩:=h;exact ⟨t,b,e,g _ _ (by simp) h1,g _ _ (by simp) h2⟩
 | ms M =>
  obtain ⟨D,e,us,h1,h2⟩:=h;refine ⟨D,e,us,g _ _ (by simp) h1,h2.imp λ p x z=>?_⟩;obtain ⟨t,u,k,w,k1,k2,k3,k4⟩:=z;exact ⟨t,u,k,w,g _ _ (by simp) k1,g _ _ (by simp) k2,g _ _ (by simp) k3,k4.keptE g⟩
inductive kBH (vs:List V) (H:Hp) (Q:VK) (Y:XK):Prop
 | mk:∀ (tw td:ag) (W:List (List Nat)) (Ps:List Pt) (v:V) (a:Ans),(vs=[.ref tw,.ref td,v])->(WAt H tw W)->(DAt H td Ps)->(Smal W)->(lF Ps)->(Ps.length<=900)->(hJ Ps.length (Fc.tiesS W))->(IsAns Ps (Fc.tiesS W) a)->(AnsAt H v a)->(∀ H':Hp,SameE H H'->Q (.bl true) H')->kBH vs H Q Y
theorem oW (B:Fx):Hs "_law_right" ["_law_web","_law_drawing","_law_due"] 11 (kBH):=by
 refine qC B.X B.d55 oA λ f cdv A outer s H vs Q_ E nN hr h=>?_;obtain ⟨tw,td,W,Ps,v,a,rfl,hw,hd,sm,dl,l9,tok,ia,at_,k⟩:=h
 refine ⟨_,(kF (pst 3 nN (pf (oZ B) hr (p2 (pv 0) (pv 1))))
   (kF (qP (PW.pt (kCE (kU (fH hr.units) (pv 3) (pv 2) (kX _)) (oN (PW.pt (wC (jT (kS Own.call_isi rfl (B.z B.y1) cf (p2 (pv 2) (cS (v:=.ty "list") rfl (B.z B.y12) me rfl)))) (zD (kHA (jT (kS Own.call_isi rfl (B.z B.y1) cf (p2 (pv 3) (cS (v:=.ty "list") rfl (B.z B.y12) me rfl))))))))))) (kI (kP fF)) qB)
   (kF (qP (jT (kS Own.call_isi rfl (B.z B.y1) cf (p2 (pv 3) (cS (v:=.ty "list") rfl (B.z B.y12) me rfl)))) (kI (jQ (yO jz kg xO (pv 3) (p1 kC)))) qB)
   (kI (kP fF))))),?_⟩
 try dsimp only [qE]
 refine ⟨_,rfl,_,rfl,tw,td,W,Ps,rfl,hw,hd,sm,dl,l9,tok,λ v2 H1 a2 g1 ia2 at2 fr=>?_⟩;obtain rfl:=ia.uniq ia2;have at_:=at_.keptE g1;refine ⟨_,rfl,_,rfl,_,_,at2.dt,at_.dt,kDF _,kDF _,_,rfl,?_⟩;rw [if_pos (show (true=true) from rfl),kIY];refine zQ ?_
 cases a with
 | al p q =>
  obtain ⟨t,b,rfl,h1,_⟩:=at_;obtain ⟨t',b',rfl,h1',_⟩:=at2;refine ⟨_,rfl,_,_,_,_,rfl,.tup h1,rfl,_,rfl,?_⟩;refine zQ ?_;refine ⟨_,rfl,_,_,_,_,rfl,.tup h1',rfl,_,rfl,?_⟩;exact zQ (k H1 g1)
 | ms M =>
  obtain ⟨t,rfl,us,h1,hu⟩:=at_;obtain ⟨t',rfl,us',h1',hu'⟩:=at2;have nt:=fr M rfl t' rfl;refine ⟨_,rfl,_,_,_,_,rfl,.lst h1,rfl,_,rfl,?_⟩;refine wL ?_;refine ⟨_,rfl,_,_,_,_,rfl,.lst h1',rfl,_,rfl,?_⟩;refine zQ ?_;refine ⟨_,rfl,_,_,_,_,rfl,.lst h1',rfl,_,rfl,?_⟩;refine wL ?_;have lm:=fX Ps (Fc.tiesS W) (Fc.tiesS W).length;have l4:(Fc.tiesS W).length*(Fc.tiesS W).length<=144*144:=ki tok.1 tok.1;have lu:=hu'.1;rw [ia.2] at lu;refine ⟨_,rfl,.inl ⟨rfl,_,SqL.of h1'⟩,t',_,_,rfl,rfl,h1',(by rw [bg,mj];omega),?_⟩;exact k _ λ b o n e=>by rw [kN (kR e nt)];exact g1 b o n e
open Mth Sca Ang
def PermW (W W':List (List Nat)):Prop:=W'.length=W.length/\∀ (i:Nat) (r:List Nat),W[i]?=some r->∃ r',W'[i]?=some r'/\r'.Perm r
theorem PermW.old {W W':List (List Nat)} (h:PermW W W') {i:Nat} {r':List Nat} (e:W'[i]?=some r'):∃ r,W[i]?=some r/\r'.Perm r:=by
 have hi:i<W.length:=h.1 ▸ (au.mp e).1;obtain ⟨x,e',p⟩:=h.2 i W[i] (ao hi);rw [e] at e'
 cases e'
 exact ⟨_,ao hi,p⟩
theorem PermW.ok {W W':List (List Nat)} (h:PermW W W') (w:WebOk W):WebOk W':=by
 refine ⟨h.1 ▸ w.len,λ p r' e=>?_⟩;obtain ⟨r,e',m⟩:=h.old e;obtain ⟨h1,h2,h3,h4⟩:=w.row p r e';exact ⟨m.nodup_iff.mpr h1,λ z=>h2 (by rw [z] at m;exact yu.mp m),m.length_eq ▸ h3,λ q hq=>h.1 ▸ h4 q (m.mem_iff.mp hq)⟩
theorem bS {W:List (List Nat)} (f:List Nat->List Nat) (h:∀ r∈W,(f r).Perm r):PermW W (W.map f):=⟨bg _,λ i r e=>⟨f r,by rw [bq,e];rfl,h r (eJ e)⟩⟩
theorem kGR (row:List Nat) (M:Nat):(rot row M).Perm row:=by
 unfold rot;have:=(jh (l₁:=row.drop (row.idxOf M)) (l₂:=row.take (row.idxOf M)));rwa [iT] at this
theorem kDP {W W':List (List Nat)} (h:PermW W W') (w:WebOk W):Fc.tiesS W'=Fc.tiesS W:=by
 have p:(qU W').Perm (qU W):=(List.perm_ext_iff_of_nodup (zU λ i r e=>((h.ok w).row i r e).1) (zU λ i r e=>(w.row i r e).1)).mpr λ t=>by
  rw [bA,bA];constructor
  ·rintro ⟨r,e,m⟩
   obtain ⟨r',e',p⟩:=h.old e;exact ⟨r',e',p.mem_iff.mp m⟩
  ·rintro ⟨r,e,m⟩
   obtain ⟨r',e',p⟩:=h.2 _ r e;exact ⟨r',e',p.mem_iff.mpr m⟩
 unfold Fc.tiesS Fc.stepsS;rw [Fc.sortP_of_perm p]
theorem kJB {W:List (List Nat)} (w:WebOk W):hJ W.length (Fc.tiesS W):=by
 have nd:(qU W).Nodup:=zU λ i r e=>(w.row i r e).1;refine ⟨gk (mw ..) w.smal.stepsS_len,GC _ ((Fc.sortP_perm (qU W)).nodup_iff.mpr nd),λ T hT=>?_⟩;obtain ⟨h1,h2⟩:=vz.mp hT;obtain ⟨r,e,m⟩:=Fc.mem_stepsS.mp h1;exact ⟨of_decide_eq_true h2,((w.row _ r e).2.2.2 _ m).1⟩
theorem DAt.but {H H':Hp} {a td:ag} {xs:List V} {Ps:List Pt} (h:DAt H td Ps) (e:H a=some (.lst xs)) (g:SameBut a H H'):DAt H' td Ps:=by
 obtain ⟨ps,h1,h2⟩:=h;exact ⟨ps,g _ _ (wI h1 e (by intro z;cases z)) h1,h2.imp λ p x z=>z.but e g⟩
theorem DAt.keptE {H H':Hp} {t:ag} {Ps:List Pt} (h:DAt H t Ps) (g:SameE H H'):DAt H' t Ps:=by
 obtain ⟨ts,a,b⟩:=h;exact ⟨ts,g _ _ (by simp) a,b.imp λ p x ⟨y,z,h1,h2,h3⟩=>⟨y,z,g _ _ (by simp) h1,g _ _ (by simp) h2,g _ _ (by simp) h3⟩⟩
theorem RLt.keptE {H H':Hp} {t:ag} {W:List (List Nat)} (h:RLt H t W) (g:SameE H H'):RLt H' t W:=by
 obtain ⟨ts,a,b⟩:=h;exact ⟨ts,g _ _ (by simp) a,b.imp λ p x z=>g _ _ (by simp) z⟩
theorem kRL {K:ai} {H H':Hp} {a:ag} {xs:List V} (e:SameE H H') (h:SqL K H a xs):SqL K H' a xs:=by
 rcases h with (h | ⟨o,h⟩) | h
 ·exact .inl (.inl (e _ _ (λ φ z=>nomatch z) h))
 ·exact .inl (.inr ⟨o,e _ _ (λ φ z=>nomatch z) h⟩)
 ·exact .inr h
def kFC (H:Hp) (n:Nat) (z:V):Prop:=∃ r W,z=.ref r/\RLt H r W/\WebOk W/\W.length=n
theorem kNP (B:Fx) {f:ag} {fd:fj} (F:Fun K "law" "law" kBW f fd):FnOk P w K mg base CX0 12 f fd ["_law_script"] (mB K):=by
 refine F.ok sc_law (λ vs H Q E h=>?_) (λ cdv A outer s H vs Q E hr h=>?_)
 ·obtain ⟨a,ns,rfl,_⟩:=h
  rfl
 obtain ⟨a,ns,rfl,hS,h63,q⟩:=h
 refine ⟨_,(kF (aY (yV rfl (B.z B.y7) (p1 (kS (nJ rfl) rfl (B.z B.y2) CC (p2 kC (kS (kFA rfl) rfl (B.z B.y9) ui (p2 (kS qM rfl (B.z B.y6) jr (p1 (pv 0))) kC)))))) (pgn 1 sc_law.nd) (kF (pst 2 sc_law.nd (pf (kAJ B) hr (p2 (pv 0) (pv 1))))
   (kF (pst 3 sc_law.nd (pf (zO B) hr (p2 (pv 2) (pix kT (jF (p2 (kO jG kC (pf (kW B) hr (p2 (pv 2) kC))) kC)) (qW wX rfl (B.z B.y5) uh (p1 (jR vG (pf (kW B) hr (p2 (pv 2) kC)) kC (kX _))))))))
   (kF (pst 4 sc_law.nd (pf (lN B) hr (p2 (pv 2) (kS qM rfl (B.z B.y6) jr (p1 (pv 3))))))
   (kF (pst 5 sc_law.nd (pf (zO B) hr (p2 (pv 2) (kS qM rfl (B.z B.y6) jr (p1 (pv 3))))))
   (kI (aY (yC (jF (kH (pv 3) (kH (jL (Nc:=["_law_row"]) (js:=[none]) rfl rfl (yC (pv 3)) (CS.of rfl rfl) rfl (λ C s₂ H₂ fp pins=>(pgc 0)) (λ C s₂ H₂ fp pins D L=>(jW (jN (kJU (pv 0) (xL (sF dA kC))))))) (kH (pv 5) (kH (pv 3) kZ)))))) (pgn 6 sc_law.nd) (kF (pst 7 sc_law.nd (pf (cK B) hr (p2 (pv 4) (pf (oY B) hr (p1 (pv 6))))))
   (kF (qP (kU cT (pf (uT B) hr (p1 (pv 4))) jJ (kX _)) (kI (pst 7 sc_law.nd (kY (p2 jY (pf (uT B) hr (p1 (pv 4))))))) qB)
   (kI (qP (kHA (jT (pf (oW B) hr (kH (pf (sL B) hr (p1 (pv 6))) (kH (pv 4) (kH (pv 7) kZ)))))) (kI (kP fF)) qB)))))))))))
   (kI (kP fF))),?_⟩
 try dsimp only [qE]
 have hl:(ns.map V.int).length=ns.length:=bg _;refine ⟨_,rfl,a,_,rfl,.inl hS,_,4,rfl,1,_,rfl,?_⟩;rw [hl];generalize hj:(if (if (4:Int)<(ns.length:Int) then 4 else (ns.length:Int))>1 then (if (4:Int)<(ns.length:Int) then 4 else (ns.length:Int)) else 1)=j;have j0:0<=j:=by rw [<-hj];split<;>omega
 have j1:j<=63:=by
  rw [<-hj]
  split
  ·split<;>omega
  ·omega
 refine ⟨j,rfl,by omega,by omega,xP (lo:=0) (n:=j.toNat) (λ i σ H2=>∃ (x1 x2 x3 x4 x5 x6 x7:Option V),σ=[some (.ref a),x1,x2,x3,x4,x5,x6,x7]/\SqL K H2 a (ns.map V.int))
  ⟨none,none,none,none,none,none,none,rfl,hS⟩ ?_ ?_⟩
 rotate_left
 ·rintro σ H2 ⟨x1,x2,x3,x4,x5,x6,x7,rfl,g⟩
  exact q _
 rintro i σ H2 hi ⟨x1,x2,x3,x4,x5,x6,x7,rfl,hS2⟩;refine ⟨_,rfl,_,rfl,a,ns,_,rfl,hS2,h63,(by omega),(by omega),λ p x y H3 hx g3 hn hp=>?_⟩;have pA:PotAt H3 p:=⟨x,y,hp,hx⟩;refine ⟨_,rfl,_,rfl,p,6,rfl,pA,by decide,uV (by decide),λ d H4 d0 d1 s4 p4=>?_⟩;obtain ⟨d,rfl⟩:=lg d0;refine ⟨_,_,rfl,rfl,yS2,λ l nl=>?_⟩
 have lp:l≠p:=λ z=>by
  obtain ⟨_,_,e,_⟩:=p4;subst z;rw [e] at nl;cases nl
 have gl:=kE nl (.lst [V.int (3+(d:Int)),V.int 12]);have hl4:upd H4 l (.lst [V.int (3+(d:Int)),V.int 12]) l=some (.lst [V.int (3+(d:Int)),V.int 12]):=kD;have p5:=p4.kept gl;have s5:=s4.trans (SameBut.of (a:=p) gl);generalize upd H4 l (.lst [V.int (3+(d:Int)),V.int 12])=H5 at *;refine ⟨_,rfl,p,8,rfl,p5,by decide,uV (by decide),λ d' H6 _ _ s6 p6=>?_⟩
 obtain ⟨n,hat,n3,n12⟩ : ∃ n:Nat,atI [V.int (3+(d:Int)),V.int 12] (if decide (V.int d'=V.int 7)=true then 1 else 0)=some (vn n)/\3<=n/\n<=12:=by
  by_cases c:decide (V.int d'=V.int 7)=true
  ·rw [if_pos c]
   exact ⟨12,rfl,by decide,by decide⟩
  ·rw [if_neg c]
   exact ⟨3+d,by show some (V.int (3+(d:Int)))=some (V.int ((3+d:Nat):Int));congr 2,by omega,by omega⟩
 refine ⟨rfl,.inr ⟨_,rfl,l,_,_,_,rfl,rfl,SqL.of (s6 _ _ lp hl4),hat,p,n,rfl,p6,n3,n12,λ r ts W H7 p7 s7 X7 wo lW=>?_⟩⟩;have s37:=(s5.trans s6).trans s7;clear s4 s5 s6 hl4 gl nl p4 p5 p6 lp d0 d1 hat pA;refine ⟨_,rfl,_,rfl,r,_,rfl,.inl (SqL.of X7.top),p,W.length,by rw [bg,X7.row.1];rfl,p7,by omega,λ td ps H8 s8 p8 ht lps hps=>?_⟩;have X8:=X7.but s8
 obtain ⟨Ps,hP,dl⟩ : ∃ Ps:List Pt,AllAt PtAt H8 ps Ps/\lF Ps:=by
  clear lps ht
  induction ps with
  | nil=>exact ⟨[],AllAt.nil,λ P0 h=>nomatch h⟩
  | cons b ps ih =>
   obtain ⟨Ps,h1,h2⟩:=ih λ p' h=>hps p' (eY _ h);obtain ⟨P0,k1,k2,k3⟩:=hps b fe;refine ⟨P0::Ps,⟨by rw [gy,gy,h1.1],λ i p' x e1 e2=>?_⟩,λ R h=>?_⟩
   ·cases i with
    | zero=>cases e1;cases e2;exact k1
    | succ i=>exact h1.2 i p' x (by simpa using e1) (by simpa using e2)
   ·rcases gu.mp h with rfl | h
    ·exact ⟨k3,k2⟩
    ·exact h2 R h
 have el:W.length=Ps.length:=by rw [<-lps,hP.1]
 have hd8:DAt H8 td Ps:=⟨ps,ht,hP⟩;clear hps ht hP lps;refine ⟨_,rfl,_,rfl,r,_,rfl,.inl (SqL.of X8.top),p,W.length,by rw [bg,X8.row.1];rfl,p8,by omega,by omega,λ r2 ts2 W2 H9 p9 s9 X9 wo2 lW2=>?_⟩;obtain ⟨_,_,e8,_⟩:=id p8;have hd9:=hd8.but e8 s9;have Y9:=X8.but s9;have g29:Same H2 H9:=keep g3 hn ((s37.trans s8).trans s9);have h1:kFC H9 Ps.length (.ref r):=⟨r,W,rfl,⟨ts,Y9.top,Y9.row⟩,wo,el⟩;have h2:kFC H9 Ps.length (.ref r2):=⟨r2,W2,rfl,⟨ts2,X9.top,X9.row⟩,wo2,lW2.trans el⟩;have rt:=Y9.top;have rr:=Y9.row;clear X7 X8 X9 Y9 s7 s8 s9 s37 p7 p8 p9 hd8 e8 hn hp g3;have l12:Ps.length<=12:=by omega
 have tl:=rr.1
 refine ⟨_,rfl,_,rfl,r,rfl,⟨_,SqL.of rt⟩,λ D nD=>?_⟩;refine yR (xs:=ts.map V.ref) (λ i σ H'=>∃ (x0:Option V) (us:List ag),σ=[x0]/\Same H9 H'/\H' D=some (.lst (us.map V.ref))/\AllAt (λ H a r=>a≠D/\kLA H a r) H' us ((W.map Fn).take i)) ⟨none,[],rfl,kE nD _,kD,AllAt.nil⟩ ?_ ?_ ?_
 ·rintro i σ H' _ ⟨x0,us,rfl,g,_⟩
  exact SqL.of (g _ _ rt)
 ·rintro i v0 σ H' hx ⟨x0,us,rfl,g,hD,hu⟩
  rw [bq] at hx;obtain ⟨b,eb,rfl⟩:=eE.mp hx;obtain ⟨row,er,hb⟩:=rr.get eb;have hb:H9 b=some (.lst (row.map vn)):=hb;refine ⟨_,rfl,_,rfl,_,rfl,b,_,rfl,rfl,g _ _ hb,λ c nc=>?_⟩;have gc:=kE nc (.lst (row.map vn).reverse);have hD':=gc _ _ hD;have lu:=hu.1;have l2:us.length<=i:=by rw [lu];exact Ci ..
  have li:=(au.mp er).1;have cD:c≠D:=λ z=>by subst z;rw [hD] at nc;cases nc
  refine ⟨_,hD',qR (by rw [bg];omega),?_⟩;refine ⟨_,us++[c],rfl,qQ nD (g.trans gc),by rw [kD,iM];rfl,?_⟩;rw [yq,bq,er,zo,ua];refine AllAt.snoc (hu.imp λ p x z=>⟨z.1,?_⟩) ⟨cD,?_⟩
  ·show upd _ D _ p=_
   rw [kN z.1];exact gc _ _ z.2
  ·show upd _ D _ c=_
   rw [kN cD,kD,List.map_reverse]
 rintro σ H10 ⟨x0,us,rfl,g10,hD10,hu⟩;rw [fb (by rw [bg,bg,tl];exact ba _)] at hu;have pr:PermW W (W.map Fn):=bS _ λ r _=>Dd r;have h3:kFC H10 Ps.length (.ref D):=⟨D,_,rfl,⟨us,hD10,hu.imp λ p x z=>z.2⟩,pr.ok wo,pr.1.trans el⟩;clear hu hD10 nD rt rr;refine ⟨_,rfl,_,rfl,yS4,λ M nM=>?_⟩;have gM:=kE nM (.lst [.ref r,.ref D,.ref r2,.ref r]);have hM:upd H10 M (.lst [.ref r,.ref D,.ref r2,.ref r]) M=some (.lst [.ref r,.ref D,.ref r2,.ref r]):=kD;have gA:=g10.trans gM;generalize upd H10 M (.lst [.ref r,.ref D,.ref r2,.ref r])=HA at *;have hk:∀ {H H':Hp} {z:V},kFC H Ps.length z->Same H H'->kFC H' Ps.length z:=λ ⟨r,W,e,h,k⟩ g=>⟨r,W,e,h.kept g,k⟩
 have all:∀ z∈[V.ref r,.ref D,.ref r2,.ref r],kFC HA Ps.length z:=λ z hz=>by
  simp at hz;rcases hz with rfl | rfl | rfl | rfl
  ·exact hk h1 gA
  ·exact hk h3 gM
  ·exact hk h2 gA
  ·exact hk h1 gA
 have hdA:=hd9.kept gA;have g2A:=g29.trans gA;clear h1 h2 h3 hd9 g29 gA gM g10 nM pr tl wo wo2;refine ⟨M,rfl,⟨_,SqL.of hM⟩,?_⟩;refine gL (xs:=[V.ref r,.ref D,.ref r2,.ref r]) (λ k σ H'=>∃ (x6 x7:Option V),σ=[some (.ref a),some (.int (0+(i:Int))),some (.ref p),some (.ref r),some (.ref td),some (.ref r2),x6,x7]/\SameE HA H') ⟨_,_,rfl,λ _ _ _ h=>h⟩ ?_ ?_ ?_
 ·rintro k σ H' _ ⟨x6,x7,rfl,g⟩
  exact SqL.of (g _ _ (by simp) hM)
 ·rintro k z σ HB hz ⟨x6,x7,rfl,gB⟩
  obtain ⟨r',W',rfl,hr',wo',el'⟩:=all z (eJ hz);have hr':=hr'.keptE gB;have hd:=hdA.keptE gB;have tok:=kJB wo';rw [el'] at tok;refine ⟨_,rfl,_,rfl,r',W',rfl,hr',wo'.smal,λ l HC gC nl pr=>?_⟩;refine ⟨td,l,Ps,_,rfl,hd.kept gC,dl,pr,tok,λ D2 HD gD nD2 hm=>?_⟩;have gBD:=gC.trans gD;have hdD:=hd.kept gBD;dsimp only [aB];refine kBU (I:=λ σ H'=>∃ (v:V) (an:Ans),σ=[some (.ref a),some (.int (0+(i:Int))),some (.ref p),some (.ref r),some (.ref td),some (.ref r2),some (.ref r'),some v]/\Same HB H'/\IsAns Ps (Fc.tiesS W') an/\AnsAt H' v an) ?_ (λ j=>?_)
  rotate_left
  ·obtain ⟨ps',ht',hP'⟩:=id hdD
   refine ⟨_,rfl,td,ps',Ps,rfl,ht',hP',by omega,λ HE gE no=>?_,λ al p1 q1 HE gE ha lst=>?_⟩
   ·refine ⟨rfl,_,rfl,?_⟩
    refine zQ ?_;obtain ⟨us,m1,m2⟩:=hm;exact j _ _ ⟨.ref D2,.ms _,rfl,gBD.trans gE,⟨no,rfl⟩,⟨D2,rfl,us,gE _ _ m1,m2.imp λ p x z=>z.kept gE⟩⟩
   ·refine ⟨rfl,_,rfl,?_⟩
    refine wL ?_;refine ⟨_,rfl,td,ps',Ps,rfl,gE _ _ ht',hP'.imp (λ p x z=>z.kept gE),by omega,λ HF gF no=>absurd no lst.no,λ a2 p2 q2 HF gF ha2 lst2=>⟨yS2,λ t nt=>?_⟩⟩;have gt:=kE nt (.tup [.str (sv "alike"),.ref a2]);exact j _ _ ⟨.ref t,.al p2 q2,rfl,gBD.trans (gE.trans (gF.trans gt)),lst2,⟨t,a2,rfl,kD,gt _ _ ha2⟩⟩
  rintro σ HE ⟨v,an,rfl,gE,ian,at_⟩;obtain ⟨ts',h1',hA'⟩:=id (hr'.kept gE);refine ⟨_,rfl,r',ts',W',rfl,h1',hA'.imp (λ p x z=>.inl z),by have:=wo'.len;omega,λ row h=>?_,λ tw HF gF hw=>?_⟩
  ·obtain ⟨j,e⟩:=yg.mp h
   obtain ⟨_,k2,k3,_⟩:=wo'.row j row e;exact ⟨k2,by omega⟩
  have pw:PermW W' (W'.map λ r=>rot r (low r)):=bS _ λ r _=>kGR r _;have tp:=kDP pw wo';have w1:=pw.ok wo';generalize (W'.map λ r=>rot r (low r))=W1 at *;refine ⟨_,rfl,_,rfl,tw,td,W1,Ps,v,an,rfl,hw,(hd.kept (gE.trans gF)),w1.smal,dl,by omega,by rw [tp];exact tok,by rw [tp];exact ian,at_.keptE (aW gF),λ HG gG=>⟨_,rfl,?_⟩⟩;refine zQ ?_;exact ⟨_,_,rfl,gB.trans ((aW (gE.trans gF)).trans gG)⟩
 ·rintro σ H' ⟨x6,x7,rfl,g⟩
  exact ⟨_,_,_,_,_,_,_,rfl,kRL ((aW g2A).trans g) hS2⟩
theorem all_mk {l:Bs} {w:eK} {K:ai} {h:eH} {mg:Str->Option af} {fa:ag} (X:K.In h) (G:h.Ns cu mg) (hfa:mg "law" = some (.ref fa)) (B:FxG K mg):∃ fd:fj,(∀ (s:aj) (v:af),CY s fd ⟨[v],[]⟩ [("_law_script",v)])/\∀ base:eH,K.In base->base.Ns cu mg->FnOk l.prog w K mg base CX0 12 fa fd ["_law_script"] (mB K):=by
 obtain ⟨f,fd,e,F⟩:=B.d56
 cases hfa.symm.trans (jj X G e)
 refine ⟨fd,λ s v=>?_,λ base _ _=>?_⟩
 ·obtain ⟨oc,od,kV,doc,pm,an,cdv,ct,osl,rfl,_⟩:=F.ex
  exact .of_eq rfl
 refine Au λ n=>?_;obtain ⟨B',f',fd',F',n'⟩ : Bad c0:=Bm ⟨⟨l.prog,w,K,mg,base⟩,B,fa,fd,F,n⟩;exact n' (kNP B' F')
theorem walk {l:Bs} {q:cw} {loose:List Str} {XP:(Str->Option af)->eH->Prop} {YP:eK->eH->Prop} {d:DefRec} {K:GF->ai} (hn:l.most=some 63) (hdf:d.params.defaults=[])
  (hY:∀ (w:eK) (h:eH),YP w h->(K w.params).In h)
  (F:∀ (w:eK) (mg:Str->Option af) (fa:ag) (h:eH),(K w.params).In h->h.Ns cu mg->mg d.name=some (.ref fa) ->
   ∃ fd:fj,(∀ (s:aj) (u:af),CY s fd ⟨[u],[]⟩ [("_law_script",u)])/\∀ base:eH,(K w.params).In base->base.Ns cu mg->FnOk l.prog w (K w.params) mg base CX0 12 fa fd ["_law_script"] (mB (K w.params))) (hq:FY q=true:=by first | assumption | decide +kernel) :
  FV q loose XP YP l.row.toRowW d [] (λ f vs=>Ef f vs) :=
 L2.walk_of (n:=63) (k:=12) (x:="_law_script") (CX:=λ _=>CX0) (sp:=λ w=>mB (K w.params)) hn (by decide) hdf ⟨rfl,by decide,by decide,rfl⟩ hY F (λ _ _ a ns hl _ hS=>⟨a,ns,rfl,hS,hl,λ _=>rfl⟩) λ _ _ _ _ _ z=>z
end Prf
def PySem.W.Fast.tw13040919595360295407:Nat:=0
def PySem.W.Fast.tw997607173530294085:Nat:=0
def PySem.W.Fast.tw13181084612601568565:Nat:=0
def PySem.W.Fast.tw13605438456005075545:Nat:=0
def PySem.W.Fast.tw8551158033154411047:Nat:=0
def PySem.W.Fast.tw14747406436028208064:Nat:=0
def PySem.W.Fast.tw15106675171680876560:Nat:=0
def PySem.W.Fast.tw6625852916599266598:Nat:=0
def PySem.W.Fast.tw18127160559733423235:Nat:=0
def PySem.W.Fast.tw10840662003687265462:Nat:=0
def PySem.W.Fast.tw1078280006702173235:Nat:=0
def PySem.W.Fast.tw7179444942835096149:Nat:=0
def PySem.W.Fast.tw11936891269244038645:Nat:=0
def PySem.W.Fast.tw16400089130644279033:Nat:=0
def PySem.W.Fast.tw1666317449511163784:Nat:=0
def PySem.W.Fast.tw313401708753516014:Nat:=0
def PySem.W.Fast.tw4927932135410129171:Nat:=0
def PySem.W.Fast.tw17459079737809136134:Nat:=0
def PySem.W.Fast.tw7526473287567540151:Nat:=0
def PySem.W.Fast.tw5751015858070438509:Nat:=0
def PySem.W.Fast.tw13102322517745810830:Nat:=0
def PySem.W.Fast.tw5631406200551082390:Nat:=0
def PySem.W.Fast.tw3712669572531181013:Nat:=0
def PySem.W.Fast.tw5244505240806250972:Nat:=0
def PySem.W.Fast.tw1884930316742349285:Nat:=0
def PySem.W.Fast.tw14396373703161645757:Nat:=0
def PySem.W.Fast.tw12537850486916842513:Nat:=0
def PySem.W.Fast.tw18039822329960592847:Nat:=0
def PySem.W.Fast.tw4458897085948509579:Nat:=0
def PySem.W.Fast.tw11478283264290330937:Nat:=0
def PySem.W.Fast.tw8751458430257250383:Nat:=0
def PySem.W.Fast.tw8904097125922712461:Nat:=0
def PySem.W.Fast.tw8109590166404910846:Nat:=0
def PySem.W.Fast.tw12349963371515757651:Nat:=0
def PySem.W.Fast.tw1952268440457654014:Nat:=0
def PySem.W.Fast.tw7566942206021526435:Nat:=0
def PySem.W.Fast.tw12639508370882105154:Nat:=0
def PySem.W.Fast.tw10878752090042909123:Nat:=0
def PySem.W.Fast.tw13119423759605781421:Nat:=0
def PySem.W.Fast.tw13251665702080551859:Nat:=0
def PySem.W.Fast.tw4282640917962686487:Nat:=0
def PySem.W.Fast.tw1709153245588919301:Nat:=0
def PySem.W.Fast.tw14427555711457685867:Nat:=0
def PySem.W.Fast.tw13271492411223272653:Nat:=0
def PySem.W.Fast.tw8329703705546634564:Nat:=0
def PySem.W.Fast.tw2506201789985288287:Nat:=0
def PySem.W.Fast.tw7057716179355341328:Nat:=0
def PySem.W.Fast.tw17941947493658516075:Nat:=0
def PySem.W.Fast.tw2031074783521146193:Nat:=0
def PySem.W.Fast.tw6184982617549934293:Nat:=0
def PySem.W.Fast.tw14642056942599425012:Nat:=0
def PySem.W.Fast.tw9558066127096705567:Nat:=0
def PySem.W.Fast.tw11571882561472315778:Nat:=0
def PySem.W.Fast.tw12931617759340794640:Nat:=0
def PySem.W.Fast.tw9536834725352160651:Nat:=0
def PySem.W.Fast.tw12764634860799395224:Nat:=0
def PySem.W.Fast.tw4781932928446218424:Nat:=0
def PySem.W.Fast.tw8120014792469783074:Nat:=0
def PySem.W.Fast.tw11044410723989155177:Nat:=0
def PySem.W.Fast.tw17570432058315598390:Nat:=0
def PySem.W.Fast.tw11983509516486701825:Nat:=0
def PySem.W.Fast.tw18443593383878871088:Nat:=0
def PySem.W.Fast.tw11211156599905041201:Nat:=0
def PySem.W.Fast.tw17162363240768237198:Nat:=0
def PySem.W.Fast.tw17542033449906514822:Nat:=0
def PySem.W.Fast.tw5732314684513189930:Nat:=0
def PySem.W.Fast.tw11275745354094610234:Nat:=0
def PySem.W.Fast.tw8872627923044425800:Nat:=0
def PySem.W.Fast.tw15210755179701440066:Nat:=0
def PySem.W.Fast.tw6745831578565129090:Nat:=0
def PySem.W.Fast.tw11649141519334359695:Nat:=0
def PySem.W.Fast.tw17857288038248247087:Nat:=0
def PySem.W.Fast.tw1979530305276171839:Nat:=0
def PySem.W.Fast.tw2921542845819697787:Nat:=0
def PySem.W.Fast.tw17169182585579535433:Nat:=0
def PySem.W.Fast.tw10009013445074157933:Nat:=0
def PySem.W.Fast.tw904118431551713894:Nat:=0
def PySem.W.Fast.tw11784716473690303201:Nat:=0
def PySem.W.Fast.tw10338673056931941759:Nat:=0
def PySem.W.Fast.tw13952632625223114024:Nat:=0
def PySem.W.Fast.tw8025654997311304265:Nat:=0
def PySem.W.Fast.tw16783588383792336504:Nat:=0
def PySem.W.Fast.tw16595835391262370353:Nat:=0
def PySem.W.Fast.tw4706217266177622319:Nat:=0
def PySem.W.Fast.tw1395306630246349726:Nat:=0
def PySem.W.Fast.tw17432830386453465512:Nat:=0
def PySem.W.Fast.tw10739521176009428293:Nat:=0
def PySem.W.Fast.tw3298017828017900184:Nat:=0
def PySem.W.Fast.tw2893256869368142321:Nat:=0
def PySem.W.Fast.tw12898387556750478451:Nat:=0
def PySem.W.Fast.tw760150823393016005:Nat:=0
def PySem.W.Fast.tw10336947870845327007:Nat:=0
def PySem.W.Fast.tw10765247147730662813:Nat:=0
def PySem.W.Fast.tw5984333695037209023:Nat:=0
def PySem.W.Fast.tw8356128949211459968:Nat:=0
def PySem.W.Fast.tw4546673203695279712:Nat:=0
def PySem.W.Fast.tw11879447880265464736:Nat:=0
def PySem.W.Fast.tw9803379049862443202:Nat:=0
def PySem.W.Fast.tw1641590562788502628:Nat:=0
def PySem.W.Fast.tw343787139056144965:Nat:=0
def PySem.W.Fast.tw14748106877360252549:Nat:=0
def PySem.W.Fast.tw5290499338556949125:Nat:=0
def PySem.W.Fast.tw3253945317433403526:Nat:=0
def PySem.W.Fast.tw2101669448939002343:Nat:=0
def PySem.W.Fast.tw5294505039492402665:Nat:=0
def PySem.W.Fast.tw7273679268994946570:Nat:=0
def PySem.W.Fast.tw9125323656158238061:Nat:=0
def PySem.W.Fast.tw16518840385856335693:Nat:=0
def PySem.W.Fast.tw12009986944045638605:Nat:=0
def PySem.W.Fast.tw16340485119992869711:Nat:=0
def PySem.W.Fast.tw16447131249432448914:Nat:=0
def PySem.W.Fast.tw2032510719595738547:Nat:=0
def PySem.W.Fast.tw5712227953993989364:Nat:=0
def PySem.W.Fast.tw9880356639865666996:Nat:=0
def PySem.W.Fast.tw16992896988474210838:Nat:=0
def PySem.W.Fast.tw9207819104294027384:Nat:=0
def PySem.W.Fast.tw17517860181723059674:Nat:=0
def PySem.W.Fast.tw10202900569183802076:Nat:=0
def PySem.W.Fast.tw17891658904898084573:Nat:=0
def PySem.W.Fast.tw10419454303115946174:Nat:=0
def PySem.W.Fast.tw7488414771984628927:Nat:=0
open PySem PySem.W PyProof.Rows
set_option maxRecDepth 100000 in
set_option maxHeartbeats 0 in
theorem PySem.Challenge.cw_restdraw_k43_meetings_of_a_web_holds : PySem.Challenge.rw_restdraw_k43_meetings_of_a_web.Holds := by
 w_on;o_law;k_head;(case hw=>w_witness2)
 k_fill
 refine Prf.walk (l:=Ar) rfl rfl (λ w h Y=>PySem.W.kIn_of Y) ?F
 case F =>
  intro w mg fa h KX G hmg;refine' Prf.all_mk KX G hmg ?_;apply Prf.FxG.mk ⟨_,KX,G⟩<;>first | (refine' L2.df_mk ?a ?l ?c ?k;(case a=>k_is);(case l=>k_is);(case c=>k_is);(case k=>k_is)) | (refine' L2.cn_mk ?a ?l ?v;(case a=>k_is);(case l=>k_is);(case v=>first | rfl | decide)) | (refine' L2.cv_mk ?a ?v;(case a=>k_is);(case v=>first | rfl | decide +kernel)) | (refine' L2.XgAt.mk ?a ?b;(case a=>k_is);(case b=>k_is)) | (refine' L2.dx_mk ?a ?l ?t ?sa ?ga ?gh ?cl ?cg ?ct ?it;(case a=>k_is);(case l=>k_is);(case t=>k_is);(case sa=>k_is);(case ga=>k_is);(case gh=>k_is);(case cl=>k_is);(case cg=>k_is);(case ct=>k_is);(case it=>k_is)) | (refine' L2.wx_mk ?a ?d ?l ?t ?sa ?ga ?gh ?cl ?cg ?ct ?i ?f ?k ?fl ?fc ?fk;(case a=>k_is);(case d=>k_is);(case l=>k_is);(case t=>k_is);(case sa=>k_is);(case ga=>k_is);(case gh=>k_is);(case cl=>k_is);(case cg=>k_is);(case ct=>k_is);(case i=>k_is);(case f=>k_is);(case k=>k_is);(case fl=>k_is);(case fc=>k_is);(case fk=>k_is)) | (refine' L2.kd_mk ?a ?d ?i ?t ?s ?ss;(case a=>k_is);(case d=>k_is);(case i=>k_is);(case t=>k_is);(case s=>k_is);(case ss=>k_is)) | (refine' L2.kv_mk' ?a ?s;(case a=>k_is);(case s=>k_is)) | (refine' L2.di_mk ?a ?dg ?dr ?df ?fl ?fc ?fk;(case a=>k_is);(case dg=>k_is);(case dr=>k_is);(case df=>k_is);(case fl=>k_is);(case fc=>k_is);(case fk=>k_is)) | (refine' L2.ox_mk ?a ?d ?l ?t ?sa ?ga ?gh ?cl ?cg ?ct ?na ?i ?f ?k ?fl ?fc ?fk;(case a=>k_is);(case d=>k_is);(case l=>k_is);(case t=>k_is);(case sa=>k_is);(case ga=>k_is);(case gh=>k_is);(case cl=>k_is);(case cg=>k_is);(case ct=>k_is);(case na=>k_is);(case i=>k_is);(case f=>k_is);(case k=>k_is);(case fl=>k_is);(case fc=>k_is);(case fk=>k_is)) | k_is
