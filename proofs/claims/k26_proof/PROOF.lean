import PyProof.Rows.All
import Wide.All
import OpenK.AllK
import Wide.FinOn
import Lean
import PyProof.EqAt
import PyProof.EqKinds
import PyProof.TupleCall
import PyProof.Rows.SortRunsK
import PyProof.Rows.Walk
import KE.KSortTup
import PyProof.ListRange
import PyProof.ExcInit
import PyProof.StationsW
import PyProof.ExcArgsOwn
import PyProof.InstStoreFacts
import KE.KIsAll
import PyProof.ExcBaseAll.ValueError
import PyProof.RulesAs
import PyProof.NsDelKeeps
import PySem.Challenge.RW_restdraw_k26_webs_that_are_not_flat
set_option Elab.async false
set_option linter.all false
set_option maxRecDepth 100000
local macro_rules | `(tactic| omega)=>`(tactic| lia)
noncomputable section
open List renaming getElem?_eq_getElem->aa,getElem?_eq_some_iff->ag,length_map->aj,getElem?_map->bg,getElem?_append_right->bz,getElem?_append_left->cu,getD_eq_getElem?_getD->dh,getElem?_set_ne->di,mem_of_getElem?->dw,pairwise_append->eE,length_append->eI,size_toArray->eN,mem_append->eY,mem_cons_of_mem->eZ,append_assoc->eh,length_take->fb,range->fc,getElem_mem->fg,replicate->fh,mem_iff_getElem->ft,mem_append_right->fu,mem_cons_self->fv,mem_singleton->fw,getElem?_set_self->fz,mem_map->gi,map_append->gq,mem_cons->gv,idxOf_lt_length_of_mem->iA,mem_filter->iC,length_cons->iE,take_append_drop->iF,mem_append_left->iJ,mem_range->iM,length_range->iN,length->iP,nodup_append->iT,length_drop->iV,map_cons->iW,nodup_cons->iX,take_length->ig,filter_cons->ip,append_nil->ir,length_singleton->iu,Nodup->iw,perm_append_comm->jb,take_of_length_le->jt,drop_eq_nil_of_le->ju,getLast?_eq_some_getLast->jv,dropLast_concat_getLast->ke,pairwise_map->kg,pairwise_singleton->ki,pairwise_iff_getElem->kl,getElem?_concat_length->km,drop_eq_getElem_cons->kr,extract_eq_take_drop->ky,getElem?_eq_none->lh,getElem?_take_of_lt->me,length_pos_iff->nj,take_succ->oq,contains_cons->ph,length_nil->qc,length_eq_zero_iff->qh,mem_of_mem_take->rj,length_set->sg,foldl_cons->si,nil_append->sj,filter_append->so,getElem?_range->tz,replicate_succ->uc,pairwise_cons->uk,find?_cons->uo,length_replicate->ux,length_filter_le->vb,flatten_cons->vd,cons_append->vj,range'_succ->we,perm_middle->wj,reverse_append->wm,map_eq_nil_iff->wo,getElem_idxOf->xi,nodup_nil->xm,mem_flatMap->xp,eraseIdx_append_of_length_le->xr,getElem?_inj->yc,flatMap_singleton->yf,eraseIdxIfInBounds_toArray->yi,pairwise_reverse->yl,eraseIdx_sublist->ym,lookup_cons->yr,all_eq_true->yt,not_mem_nil->yv,range_succ->yw,nodup_range->yx,drop_append->yy,range'->zh,take_append_of_le_length->zi,length_eraseIdx->zj,of_mem_zip->zp,filterMap_cons->zw,length_reverse->zx,mergeSort_perm->zy,flatMap_append->AA,map_map->AF,append_of_mem->AU,sum_cons->AV,nodup_iff_pairwise_ne->AW,drop_drop->AX,perm_ext_iff_of_nodup->Aa,map_take->Ae,mem_replicate->Ag,getLast?_eq_getElem?->Ah,getElem_take->An,getElem_drop->Ap,ext_getElem?->Aq,getElem_inj->Ay,any_cons->BA,cons_ne_nil->BB,mem_reverse->BC,take_zero->BD,map_snd_zip->BE,map_drop->BG,any_eq_true->BH,map_nil->BN,not_of_lt_findIdx->BO,pairwise_lt_range->BR,sum_append->BX,filter_nil->Bd,pairwise_flatMap->Bg,lookup->Bn,reverse_reverse->Bo,length_flatMap->CA,filter_eq_self->CB,map_congr_left->CD,mem_filterMap->CM,foldl_append->Ct,take_add_one->Cw,getElem?_set->DA,map_set->DD,mem_toArray->DM,drop_length->DQ,map_fst_zip->DR,flatMap_def->DT,length_zip->Dj,foldl->Dw,drop_take->ED,take_take->EE,drop_zero->EF,all_cons->Eo,drop->Fy
open PySem renaming wpAny_bind->ae,Value->af,Addr->ah,Shared->ak,wpAny_pure->av,mainGlobals->az,wpAny->de,FuncData->eO,Program->eU,Around->eV,boot_len->fe,World->gk,Heap->gw,wpAny_holding->iO,Expr->iQ,wpAny_newObj_type->iR,mem_of_lookup->jr,Stmt->jw,wpAny_field->kq,wpAny_mono->lj,wpAny_dictEntries->ou,wpAny_loadPart_at->ow,wpAny_standAt->pf,NameKind->qb,wpAny_passesOwn->qk,wpAny_truthy_bool->qr,wpAny_comprehension_free->sk,Model->tw,Scope->ua,wpAny_callSpecial?_slot->ub,wpAny_pyIter_tuple->uf,wpAny_Call_Name_kw->ug,call_meets->uh,Fin->uv,sizeLine_eq->vh,wpAny_newFunctionEnv->vk,wpAny_setField->vm,wpAny_call_entry->wd,wpAny_execs_nil->wy,wpAny_loadPart'->wz,sizeLine->xt,codeAny_mono->xv,wpAny_typeOf->ya,wpAny_rule->yo,wpAny_call->yp,wpAny_forIn_list->yu,Builtin->zd,codeAny_call_builtin->zm,wpAny_dictEpoch->zu,wpAny_isSubtype_exc->AC,wpAny_newFunctionEnv_cells->AM,tupleKind_room_in1->AQ,PyData->AR,noFill_tuple_add->Az,IsPart->BJ,ExcBaseFacts->BS,size_of_entries->BZ,wpAny_isTrue_Compare1->Be,codeAny_call_function->Bf,fitsIndex_both->Bm,wpAny_loadPart->Bq,BindsTo->Bu,seq_tuple_add->CG,Comprehension->CH,wpAny_attempt->CI,wpAny_newList->CJ,wpAny_assign_Name->CY,wpAny_pyIter_list->Ca,concat_meets->Ce,wpAny_sequenceKey->Cf,seqIndex_neg->Cg,slot_list_getitem->Ci,wpAny_pyIter_enum->Co,atKey_none_of_get->Cv,wpAny_eqBool_int->DF,wpAny_execs_cons->DG,DictEntry->DJ,wpAny_madeBy_exc->DP,seqIndex_of->DW,intItems_at->DX,wpAny_tests_nil->De,codeAny_of_tree->Df,codeAny_builtin->Dg,wpAny_specialOf->Dh,Paired->Dk,GenState->Dm,wpAny_Name->Do,wpAny_bindName->Dp,Result->Ds,typeIs_int->Dv,call->Dx,wpAny_seqItems->Dy,numAt_eq->Dz,refuseLoop_ref->EI,Arguments->FB,Within->FD,CmpOp->FR,ReadsAll->FW,Params->Fe,Reads->Fm,Code->Fx
open PySem.Heap renaming get?_push_of_some->ao,lt_size->cf,get?_push_size->eK,get?_update_self->iI,get?_update_other->ie,SameBut->ma,get?_update_ne->pd,size_push->qe,get?_none_of_le->zf,get?_push_at->DC,size_update->DN,MadeExcOf->EH
open PySem.W renaming Frag->au,nsIn->bf,mg_of->bh,keepIn->bj,codeIn->cq,fnOf->cx,typeIn->dn,isClsIn->dq,subIn->eR,findIn->gx,mg_none_of->iB,kia_one->ja,mroIn->md,findCls->ur,specialIn->vc,callWith_K->xg,kitOne->xu,cellsFrom_some->xw,kitAny->yh,looks_mroIn->zk,methodObj->Ai,hasDictIn->Aj,looks_findIn->BU,instObj->BV,OpenLaw->BW,Looks->Ba,readsIn->Bb,methodCall_KW->Bh,lookIn->Bj,instIn->Br,codeRec_of->CO,kitx_list->Cb,kitx_dict->Cc,plainGet->DH,takesIn->Da,InstAt->Dr,WalkO->Ep,Frag->Fw
open PyProof.Rows renaming Keyed->ay,wpS_bind->bu,boot_isinstance->ck,pendingOf->cv,arrOf->cw,wpS_pure->cy,SortSt->eJ,slot_tuple_getitem->ik,wpS_forRange->iq,boot_tuple->jf,SortKind->jx,wpS_modify->kj,callWith_type1->pe,wpS_mono->qz,failedOf->rf,boot_list->um,boot_min->va,wpS_get->ye,callWith_builtin1->yq,reverseSlice'_eq->yz,get?_update_seq->zr,AllBare->AD,assignInOrder_cons->AJ,listUpdate_at->Av,boot_sorted->Ax,subscriptTail_builtinR->BL,boot_max->Bi,entry_tuple_getitem->Bw,args_tuple_getitem->CP,assignInOrder_nil->CZ,IntsAre->Cj,listItems_at->Cu,seqEpoch_at->DY,IsTup->Dl,slicePart_none->Du,boot_divmod->Ey,boot_bool->FJ,boot_abs->FL,boot_int->FM,boot_sum->FN,lt_int->FZ
open Nat renaming le_refl->be,lt_of_lt_of_le->cn,ne_of_lt->eM,lt_of_le_of_lt->eP,min_eq_left->iG,zero_le->iK,lt_or_ge->iU,le_trans->je,lt_irrefl->jj,ne_of_gt->jm,lt_succ_of_lt->om,le_of_lt->qq,min_eq_right->ud,max_eq_right->ue,add_assoc->uw,lt_succ_self->wg,max_eq_left->xb,strongRecOn->xc,eq_zero_or_pos->xh,lt_trichotomy->yb,le_succ->zg,mod_lt->AZ,add_comm->BM,add_sub_cancel->CW,le_of_eq->Ck,zero_add->Cp,le_total->Cq,add_zero->Cr,sub_self->Cs,sub_zero->Cz,div_one->FX
open Or renaming inl->cz,inr->FG
open PySem.F renaming plainAttrs_list->dc,slot_list_remove->jz,type_list_remove->ka,slot_list_insert->mf,type_list_insert->mh,slot_list_append->ml,type_list_append->mm,plainAttrs_tuple->mw,slot_tuple_index->mz,type_tuple_index->ng,slot_list_index->oy,type_list_index->oz,slot_tuple_iterator_next->qg,args_tuple_add_2->wq,entry_tuple_add->xk,slot_tuple_add->xy,args_tuple_iterator_next_1->zq,entry_tuple_iterator_next->AE,excAttr_ValueError->Ac,excBase_ValueError->Ad,slot_dict_update->Aw,args_list_index_2->By,entry_list_index->CU,slot_list_index->Cn,slot_int_rmul->Dd
open Bool renaming false_ne_true->dj,false_eq_true->eD,eq_iff_iff->jl,and_eq_true->jo,not_true->wx,or_true->yg,not_eq_true'->Ao,or_eq_true->BY,false_and->Dq,not_false->EC,true_and->Es
open Option.some renaming inj->du,injEq->Fk
open Option renaming map_eq_some_iff->eQ,map_some->uq,ne_none_iff_exists'->wc,toList_some->xj,isSome_iff_exists->Ar,isSome_map->Cm,getD_none->DI,bind_some->DK,map->EG,none->FT
open List.Nodup renaming length_le_of_subset->eX
open Array renaming length_toList->fk,toList_append->gn,getElem?_eq_some_iff->iH,size_push->iS,size_extract->iz,getElem?_toList->jd,getElem?_setIfInBounds->kh,mem_toList_iff->qv,toList_extract->rg,toList_push->rh,size_append->vg,toList_reverse->vt,getElem?_setIfInBounds_ne->yj,append_assoc->AH,toList_setIfInBounds->AY,getElem_mem->Am,size_setIfInBounds->Au,toList_modify->CC,size_reverse->CV,isEmpty_iff->Cy,toList->FE,getD->Fi
open Classical renaming choose_spec->fm,byContradiction->iL,choose->iZ
open PySem.Value renaming ref->fo,none->jg,bool->qa,int->uu,type->yn,builtin->ze,str->Bt,float->DV,isStrOf->Ea,isInt->FP,bytes->FQ
open PySem.PassesOwn renaming never->gj
open Int renaming eq_ofNat_of_zero_le->iD,toNat_natCast->qw,fdiv_eq_ediv_of_nonneg->AK,fmod_eq_emod_of_nonneg->AL,emod_lt_of_pos->Af,emod_nonneg->Bc
open ForInStep renaming yield->iY,done->vo
open PySem.Heap.SameBut renaming update->jc,refl->Al
open False renaming elim->jh
open PySem.Obj renaming data_mapFields->ji,isFreed_of_fields->lg,mapSeq->sf,mapFields->tm,data_mapDictKeys->vw,isFreed_of_dict->AB,data_mapDict->DO
open True renaming intro->jq
open Std.Legacy.Range renaming forIn_eq_forIn_range'->nh,size->yk
open Ne renaming symm->og
open PySem.PyData renaming canLayAll0->oh,eqv->qf,depthAll->Di,canLay0->EJ,eqvAll->Ez,depth->FH
open PySem.Builtin.Slice renaming slicePlaces->qi,sliceAdjust->wk,sliceApplied->AN,slicePartIndex->Dc,sliceFields->EW
open PySem.Builtin.SmallTypes renaming nextOf->qj
open List.Perm renaming trans->ql,append_right->uj,append_left->uz,refl->yd
open PySem.SeqAt renaming shaped->qx,canLay_of_shaped->ui,notIn_tupleAt->Bx,EqAt->CQ,notIn_listAt->CT
open PySem.Paired renaming length->rm,snoc->FU
open PySem.Builtin.Tuple renaming tupleExact->se,tupleItemsOf->AO,tupleIsExact->EA,tupleHashOf->EY
open Prod renaming ext->vi,fst->wu,snd->EB
open PySem.Builtin.List renaming listTooLong->wt,listExtendWith->AG
open Sum renaming inl->zc,inr->Bs
open PySem.Builtin.BaseException renaming bexcPut->zo
open PySem.Builtin.Dict renaming entriesForEmpty->zt,updateFrom->BF,mergeDict->BQ,quietEq->Bp,readDirectly->EZ,selfAndRest->Et,addKeywords->Eu,showsAll->FK,merge->Fj
open PySem.Calls renaming Name_function_global->AI
open PySem.Code renaming quiet_builtin->Ab,isFrame->Cd,isGuard->FF,frames->FS
open List.Pairwise renaming nil->Ak,imp_of_mem->Er,map->Fn
open PySem.NameKind renaming free->As
open PySem.Around renaming under->BI,frames_deeper->Bk
open PySem.Str renaming ofString->BK
open PyProof.Rows.SortSt renaming mk'->BP
open PySem.SeqAt.EqAt renaming bool_bool->Bl,int_str->CK,str_int->CL
open Iff renaming rfl->Bv
open PySem.MeetsSeq renaming list_index->Bz,EqGives->DL
open PySem.EntryCells renaming newEntry->CF
open Sum.inl renaming inj->DU
open PySem.StrLaws renaming seqIndex_nonneg->DZ
open PySem.EqNone renaming eq_none_none->EK,eq_none_bool->EL,eq_bool_none->EM,ne_none_none->ER,ne_none_bool->ES,ne_bool_none->ET,eq_none_int->Eb,eq_none_str->Ec,eq_int_none->Ed,eq_str_none->Ef,ne_none_int->Eh,ne_none_str->Ei,ne_int_none->Ej,ne_str_none->El
open PySem.EqMixed renaming eq_bool_str->EN,eq_str_bool->EO,ne_bool_str->EU,ne_str_bool->EV,eq_int_str->Ee,eq_str_int->Eg,ne_int_str->Ek,ne_str_int->Em
open PySem.Value.ref renaming inj->Ew
open PySem.Builtin.Range renaming rangeSize->FA
open And renaming intro->FC
open PySem.MeetsSeq.EqGives renaming int->FV
open PySem.Builtin.Int renaming intBits->FY
open PySem.Heap.IsSliceOf renaming new->Fb
open PySem.W.WShape renaming has->Ff
open PySem.SeqAt.Reads renaming unique->Fg
open PUnit renaming unit->Fh
open PySem.Flow renaming next->Fo
open PySem.W.WData renaming int->Fv
open PySem.W.Looks renaming ld->Fz
theorem yS0:0<=xt:=by decide
theorem yS1:1<=xt:=by decide
theorem yS2:2<=xt:=by decide
theorem yS3:3<=xt:=by decide
theorem yS4:4<=xt:=by decide
namespace L2
open PySem PySem.Spec PyProof.Rows
abbrev Key:=Sum Int Str
def nF:Key->af->Bool
 | .inl k,v=>FP k v
 | .inr x,v=>Ea x v
def kPX (w:gk):Key->Int
 | .inl k=>hashInt k
 | .inr x=>hashStr w x
theorem jB:∀ {k:Key} {v:af},nF k v=true->(∃ i t,k=zc i/\v=uu i t)\/(∃ x t,k=Bs x/\v=Bt x t)
 | .inl i,v,h=>by
  obtain ⟨t,e⟩:=Value.isInt_shape (k:=i) (v:=v) h;exact .inl ⟨i,t,rfl,e⟩
 | .inr x,v,h=>by
  obtain ⟨t,e⟩:=Value.isStrOf_shape (x:=x) (v:=v) h;exact .inr ⟨x,t,rfl,e⟩
theorem kEB (i:Int) (t:Tok):nF (.inl i) (.int i t)=true:=by simp [nF,FP]
theorem kEA (x:Str) (t:Tok):nF (.inr x) (.str x t)=true:=by simp [nF,Ea]
theorem kMN (a b:Int):decide ((zc a:Key)=zc b)=(a == b):=by
 by_cases e:a=b
 ·subst e;simp
 ·have h:¬ (zc a:Key)=zc b:=λ q=>e (DU q)
  rw [decide_eq_false h];exact (beq_eq_false_iff_ne.mpr e).symm
theorem kMK (a b:Str):decide ((Bs a:Key)=Bs b)=decide (a=b):=by
 by_cases e:a=b
 ·subst e;simp
 ·have h:¬ (Bs a:Key)=Bs b:=λ q=>e (Sum.inr.inj q)
  rw [decide_eq_false h,decide_eq_false e]
theorem kMM (a:Int) (b:Str):decide ((zc a:Key)=Bs b)=false:=decide_eq_false (λ q=>nomatch q)
theorem kML (a:Str) (b:Int):decide ((Bs a:Key)=zc b)=false:=decide_eq_false (λ q=>nomatch q)
def qN (prog:eU) (w:gk):PySem.KeyKind prog w Key where
 is:=nF
 hash:=kPX w
 inj:=λ v a b ha hb=>by
  rcases jB ha with ⟨i,t,rfl,rfl⟩ | ⟨x,t,rfl,rfl⟩
  ·rcases jB hb with ⟨j,u,rfl,e⟩ | ⟨y,u,rfl,e⟩
   ·injection e with e1 _;rw [e1]
   ·exact nomatch e
  ·rcases jB hb with ⟨j,u,rfl,e⟩ | ⟨y,u,rfl,e⟩
   ·exact nomatch e
   ·injection e with e1 _;rw [e1]
 byValue:=λ k v h=>by
  rcases jB h with ⟨i,t,rfl,rfl⟩ | ⟨x,t,rfl,rfl⟩<;>rfl
 pyHash:=λ hv h=>by
  rcases jB hv with ⟨i,t,rfl,rfl⟩ | ⟨x,t,rfl,rfl⟩
  ·exact wpAny_pyHash_int h
  ·exact wpAny_pyHash_str h
 eqBool:=λ hu hv h=>by
  rcases jB hu with ⟨i,t,rfl,rfl⟩ | ⟨x,t,rfl,rfl⟩
  ·rcases jB hv with ⟨j,u,rfl,rfl⟩ | ⟨y,u,rfl,rfl⟩
   ·rw [kMN] at h;exact DF h
   ·rw [kMM] at h;exact CK i t y u _ _ _ _ h
  ·rcases jB hv with ⟨j,u,rfl,rfl⟩ | ⟨y,u,rfl,rfl⟩
   ·rw [kML] at h;exact CL x t j u _ _ _ _ h
   ·rw [kMK] at h;exact wpAny_eqBool_str h
 «strs»:=λ k x t v h=>by
  rcases jB h with ⟨i,u,rfl,e⟩ | ⟨y,u,rfl,e⟩
  ·exact nomatch e
  ·injection e with e1 _
   subst e1;cases v<;>rfl
theorem sE (prog:eU) (w:gk) (i:Int) (t:Tok):(qN prog w).is (.inl i) (.int i t)=true:=kEB i t
theorem sC (prog:eU) (w:gk) (x:Str) (t:Tok):(qN prog w).is (.inr x) (.str x t)=true:=kEA x t
inductive V where
 | non | bl (b:Bool) | int (i:Int) | str (x:Str) | byt (b:Array UInt8) | flt (b:UInt64) | ref (a:ah) | ty (n:String)
 deriving DecidableEq
def RelV:V->af->Prop
 | .non,u=>u=jg
 | .bl b,u=>u=qa b
 | .int i,u=>∃ t,u=uu i t
 | .str x,u=>∃ t,u=Bt x t
 | .byt b,u=>∃ t,u=FQ b t
 | .flt b,u=>∃ t,u=DV b t
 | .ref a,u=>u=fo a
 | .ty n,u=>u=yn n
abbrev Vals:List V->List af->Prop:=Dk RelV
theorem Vals.length {xs:List V} {us:List af} (r:Vals xs us):xs.length=us.length:=rm r
theorem Vals.get:∀ {xs:List V} {us:List af} {i:Nat} {x:V},Vals xs us->xs[i]?=some x->∃ u,us[i]?=some u/\RelV x u
 | _,_,_,_,.nil,e=>by simp at e
 | _,_,0,_,.cons r _,e=>by simp at e;subst e;exact ⟨_,rfl,r⟩
 | _,_,i+1,x,.cons _ t,e=>by
  obtain ⟨u,h1,h2⟩:=Vals.get (i:=i) (x:=x) t (by simpa using e);exact ⟨u,by simpa using h1,h2⟩
theorem Vals.set {x:V} {u:af} (r:RelV x u):∀ {xs:List V} {us:List af} (i:Nat),Vals xs us->Vals (xs.set i x) (us.set i u)
 | _,_,_,.nil=>.nil
 | _,_,0,.cons _ t=>.cons r t
 | _,_,i+1,.cons q t=>.cons q (Vals.set r i t)
theorem Vals.append:∀ {xs ys:List V} {us ws:List af},Vals xs us->Vals ys ws->Vals (xs++ys) (us++ws)
 | _,_,_,_,.nil,s=>s
 | _,_,_,_,.cons r t,s=>.cons r (Vals.append t s)
theorem Vals.take:∀ {xs:List V} {us:List af} (n:Nat),Vals xs us->Vals (xs.take n) (us.take n)
 | _,_,0,_=>.nil
 | _,_,_+1,.nil=>.nil
 | _,_,n+1,.cons r t=>.cons r (Vals.take n t)
theorem Vals.drop:∀ {xs:List V} {us:List af} (n:Nat),Vals xs us->Vals (xs.drop n) (us.drop n)
 | _,_,0,r=>r
 | _,_,_+1,.nil=>.nil
 | _,_,n+1,.cons _ t=>Vals.drop n t
def RelO:Option V->Option af->Prop
 | some v,some u=>RelV v u
 | none,none=>True
 | _,_=>False
def KV {κ:Type}:List (κ×V)->List (κ×af)->Prop:=Dk λ (p:κ×V) (q:κ×af)=>p.1=q.1/\RelV p.2 q.2
def kV:Key->V
 | .inl i=>.int i
 | .inr x=>.str x
inductive HO where
 | lst (xs:List V)
 | tup (xs:List V)
 | dK (kvs:List (Key×V)) | dT (kvs:List (List Key×V))
 | set (S:Int->Bool) (n:Nat)
 | ins (C dx:ah) (fs:List (Str×V))
 | own (x:ah)
 | xd (fs:List (Str×V))
 | met (f x:ah)
 | rng (lo hi:Int)
 | frz (o:Obj) (u:HO)
 | tbl (ps:Array af)
 | ext (φ:gw->Prop)
abbrev Hp:=ah->Option HO
def upd (H:Hp) (a:ah) (o:HO):Hp:=λ b=>if b=a then some o else H b
theorem kC {H:Hp} {a:ah} {o:HO}:upd H a o a=some o:=by unfold upd;rw [if_pos rfl]
theorem kH {H:Hp} {a b:ah} {o:HO} (h:b≠a):upd H a o b=H b:=by unfold upd;rw [if_neg h]
theorem kHW {H:Hp} {a:ah} {o u:HO}:upd (upd H a o) a u=upd H a u:=by
 funext b;unfold upd;split<;>rfl
theorem zK {H:Hp} {a b:ah} {o u:HO} (h:H a=some o) (h':H b=some u) (d:o≠u):a≠b:=by
 intro e;subst e;rw [h] at h';exact d (du h')
theorem kF {H:Hp} {a b:ah} {o:HO} (h:H a=some o) (h':H b=none):a≠b:=by
 intro e;subst e;rw [h] at h';cases h'
section
def IsTupN (h:gw) (a:ah) (items:Array af):Prop:=∃ o,h.get? a=some o/\o.cls=.type "tuple"/\∃ n,o.data=.seq items n/\o.dict=none
theorem IsTupN.isTup {h:gw} {a:ah} {items:Array af}:IsTupN h a items->Dl h a items:=λ ⟨o,e,c,n,d,_⟩=>⟨o,e,c,n,d⟩
theorem IsTupN.lt {h:gw} {a:ah} {items:Array af} (x:IsTupN h a items):a<h.objs.size:=x.isTup.lt
theorem IsTupN.new (h:gw) (items:Array af):IsTupN (h.push { cls:=.type "tuple",data:=.seq items }) h.objs.size items:=⟨_,eK _ rfl,rfl,_,rfl,rfl⟩
variable (P:eU) (w:gk)
def ObjOk (H:Hp) (h:gw) (a:ah):HO->Prop
 | .lst xs=>xs.length<=sizeLine/\∃ (its:List af) (n:Nat),Vals xs its/\h.get? a=some { cls:=.type "list",data:=.seq its.toArray n }
 | .tup xs=>xs.length<=sizeLine/\∃ its:List af,Vals xs its/\IsTupN h a its.toArray
 | .dK kvs=>kvs.length<=sizeLine/\(a == sysModules)=false/\∃ vs,KV kvs vs/\h.DictOf (qN P w) a vs
 | .dT kvs=>kvs.length<=sizeLine/\(a == sysModules)=false/\∃ xs:List (List Key×ah×af),
   Dk (λ (p:List Key×V) (q:List Key×ah×af)=>p.1=q.1/\H q.2.1=some (.tup (p.1.map kV))/\RelV p.2 q.2.2) kvs xs /\
   ∃ o es ep,h.get? a=some o/\o.ExactDict/\o.data=.dict es ep/\es.toList=xs.map (entryOfKey (tupleKind (qN P w)))/\(xs.map (·.1)).Nodup
 | .set S n=>h.SetOf (intKind P w) a S n
 | .ins C dx fs=>H dx=some (.own a)/\fs.length<=1000/\dx≠a/\h.get? a=some (BV C dx) /\
   ∃ mA,h.Ns1 dx mA/\(∀ f,RelO (fs.lookup f) (mA f))/\FD mA (fs.map (·.1))
 | .own _=>∃ o,h.get? a=some o
 | .xd fs=>∃ mA,h.Ns1 a mA/\∀ f,RelO (fs.lookup f) (mA f)
 | .rng lo hi=>∃ t u v,h.get? a=some { cls:=.type "range",data:=.fields #[.int lo t,.int hi u,.int 1 v] }
 | .frz o u=>h.get? a=some o/\ObjOk H h a u
 | .tbl ps=>h.get? a=some { cls:=.none,data:=.fields ps }
 | .met f x=>h.get? a=some (Ai (.ref f) (.ref x))
 | .ext φ=>φ h/\(∃ o,h.get? a=some o)/\∀ h1 h2:gw,φ h1->(∀ o,h1.get? a=some o->h2.get? a=some o)->φ h2
def HOk (H:Hp) (h:gw):Prop:=∀ a o,H a=some o->ObjOk P w H h a o
end
section
variable {P:eU} {w:gk} {H H':Hp} {h h':gw} {a:ah} {o:HO}
theorem ObjOk.lt (x:ObjOk P w H h a o):a<h.objs.size:=by
 cases o with
 | lst xs=>obtain ⟨_,_,_,_,e⟩:=x;exact cf e
 | tup xs=>obtain ⟨_,_,_,p⟩:=x;exact p.lt
 | dK kvs=>obtain ⟨_,_,_,_,o,_,_,e,_⟩:=x;exact cf e
 | dT kvs=>obtain ⟨_,_,_,_,o,_,_,e,_⟩:=x;exact cf e
 | set S n=>obtain ⟨o,_,_,_,e,_⟩:=x;exact cf e
 | ins C dx fs=>obtain ⟨_,_,_,e,_⟩:=x;exact cf e
 | own y=>obtain ⟨_,e⟩:=x;exact cf e
 | xd fs=>obtain ⟨_,⟨_,_,_,e,_⟩,_⟩:=x;exact cf e
 | rng lo hi=>obtain ⟨_,_,_,e⟩:=x;exact cf e
 | frz ob u=>obtain ⟨e,_⟩:=x;exact cf e
 | tbl ps=>exact cf (show h.get? a=some _ from x)
 | met f y=>exact cf (show h.get? a=some _ from x)
 | ext φ=>obtain ⟨_,⟨_,e⟩,_⟩:=x;exact cf e
theorem Paired.mapP {α β:Type} {F G:α->β->Prop}:∀ {l₁:List α} {l₂:List β},Dk F l₁ l₂->(∀ a b,F a b->G a b)->Dk G l₁ l₂
 | _,_,.nil,_=>.nil
 | _,_,.cons r t,f=>.cons (f _ _ r) (Paired.mapP t f)
theorem ObjOk.stay (x:ObjOk P w H h a o) (k:∀ b u,(b=a\/H b=some (.own a))->h.get? b=some u->h'.get? b=some u)
  (ho:∀ b,H b=some (.own a)->H' b=some (.own a)) (ht:∀ b xs,H b=some (.tup xs)->H' b=some (.tup xs)):ObjOk P w H' h' a o:=by
 induction o with
 | lst xs=>obtain ⟨z,its,n,r,e⟩:=x;exact ⟨z,its,n,r,k _ _ (.inl rfl) e⟩
 | tup xs=>obtain ⟨z,its,r,ob,e,c⟩:=x;exact ⟨z,its,r,ob,k _ _ (.inl rfl) e,c⟩
 | dK kvs=>obtain ⟨z,y,vs,r,ob,es,ep,e,c⟩:=x;exact ⟨z,y,vs,r,ob,es,ep,k _ _ (.inl rfl) e,c⟩
 | dT kvs =>
  obtain ⟨z,y,xs,r,ob,es,ep,e,c⟩:=x;exact ⟨z,y,xs,Paired.mapP r λ p q z=>⟨z.1,ht _ _ z.2.1,z.2.2⟩,ob,es,ep,k _ _ (.inl rfl) e,c⟩
 | set S n=>obtain ⟨ob,es,ep,t,e,c⟩:=x;exact ⟨ob,es,ep,t,k _ _ (.inl rfl) e,c⟩
 | ins C dx fs =>
  obtain ⟨d,z,ne,e,mA,⟨od,es,ep,e2,c⟩,r⟩:=x;exact ⟨ho _ d,z,ne,k _ _ (.inl rfl) e,mA,⟨od,es,ep,k _ _ (.inr d) e2,c⟩,r⟩
 | own y=>obtain ⟨ob,e⟩:=x;exact ⟨ob,k _ _ (.inl rfl) e⟩
 | xd fs=>obtain ⟨mA,⟨od,es,ep,e,c⟩,r⟩:=x;exact ⟨mA,⟨od,es,ep,k _ _ (.inl rfl) e,c⟩,r⟩
 | rng lo hi=>obtain ⟨t,u,v,e⟩:=x;exact ⟨t,u,v,k _ _ (.inl rfl) e⟩
 | frz ob u ih=>obtain ⟨e,q⟩:=x;exact ⟨k _ _ (.inl rfl) e,ih q⟩
 | tbl ps =>
  have e:h.get? a=some { cls:=.none,data:=.fields ps }:=x;show h'.get? a=some { cls:=.none,data:=.fields ps };exact k a _ (.inl rfl) e
 | met f y =>
  have e:h.get? a=some (Ai (.ref f) (.ref y)):=x;show h'.get? a=some (Ai (.ref f) (.ref y));exact k a _ (.inl rfl) e
 | ext φ=>obtain ⟨p,⟨o,e⟩,st⟩:=x;exact ⟨st _ _ p λ o q=>k _ _ (.inl rfl) q,⟨o,k _ _ (.inl rfl) e⟩,st⟩
theorem HOk.lt (x:HOk P w H h) (e:H a=some o):a<h.objs.size:=(x a o e).lt
theorem HOk.fresh (x:HOk P w H h) (e:h.objs.size<=a):H a=none:=by
 cases q:H a with
 | none=>rfl
 | some u=>exact absurd (cn (x.lt q) e) (jj _)
theorem HOk.kept (x:HOk P w H h) (k:∀ b u,h.get? b=some u->h'.get? b=some u):HOk P w H h':=λ a o e =>
 (x a o e).stay (λ b u _ q=>k b u q) (λ _ q=>q) λ _ _ q=>q
theorem HOk.laid (x:HOk P w H h) (k:∀ b u,h.get? b=some u->h'.get? b=some u) (hp:h.objs.size<=a) (new:ObjOk P w (upd H a o) h' a o):HOk P w (upd H a o) h':=λ b u e=>by
 have hn:=x.fresh hp;by_cases hb:b=a
 ·subst hb;rw [kC] at e;cases e;exact new
 ·rw [kH hb] at e
  exact (x b u e).stay (λ c v _ q=>k c v q) (λ c q=>by rw [kH (kF q hn)];exact q) λ c xs q=>by rw [kH (kF q hn)];exact q
end
def Rd (H:Hp) (a:ah) (u:HO):Prop:=H a=some u\/∃ o,H a=some (.frz o u)
theorem Rd.ok {P:eU} {w:gk} {H:Hp} {h:gw} {a:ah} {u:HO} (r:Rd H a u) (x:HOk P w H h):ObjOk P w H h a u:=by
 rcases r with r | ⟨o,r⟩
 ·exact x a u r
 ·obtain ⟨_,q⟩:=x a _ r
  exact q
def Mut:Option HO->Prop
 | some (.lst _)=>True
 | some (.dK _)=>True
 | some (.dT _)=>True
 | some (.set _ _)=>True
 | some (.ins _ _ _)=>True
 | some (.ext _)=>True
 | _=>False
section
variable {P:eU} {w:gk} {H:Hp} {h h':gw} {x e:ah} {o':HO}
theorem HOk.write (ok:HOk P w H h) (mu:Mut (H x)) (he:e=x\/H e=some (.own x)) (k:∀ b u,b≠e->h.get? b=some u->h'.get? b=some u) (heo:∃ u,h'.get? e=some u)
  (new:ObjOk P w (upd H x o') h' x o'):HOk P w (upd H x o') h':=λ b u q=>by
 have nown:∀ c y,H c=some (.own y)->c≠x:=λ c y r z=>by subst z;rw [r] at mu;exact mu
 have ntup:∀ c xs,H c=some (.tup xs)->c≠x:=λ c xs r z=>by subst z;rw [r] at mu;exact mu
 by_cases hb:b=x
 ·subst hb;rw [kC] at q;cases q;exact new
 ·rw [kH hb] at q
  by_cases hbe:b=e
  ·have q':H b=some (.own x):=by
    rcases he with z | z
    ·exact absurd (hbe.trans z) hb
    ·rw [hbe];exact z
   rw [q] at q';cases q';obtain ⟨v,hv⟩:=heo;exact ⟨v,by rw [hbe];exact hv⟩
  ·refine (ok b u q).stay (λ c v hc r=>k c v ?_ r) (λ c r=>by rw [kH (nown c b r)];exact r) λ c xs r=>by rw [kH (ntup c xs r)];exact r
   rcases hc with rfl | hc
   ·exact hbe
   ·rintro rfl
    rcases he with z | z
    ·exact nown c b hc z
    ·rw [hc] at z;cases z;exact hb rfl
end
structure Un (fs ex:List ah) (H H':Hp) (h h':gw):Prop where
 keep:∀ b o,h.get? b=some o->H b=none->b∉fs->b∉ex->h'.get? b=some o
 slot:∀ b o,h.get? b=some o->H b=none->b∈fs->b∉ex->∃ sl,h'.get? b=some { o with slots:=sl }
 free:∀ b o,h.get? b=some o->H b=none->b∉ex->H' b=none
 there:∀ b o,h.get? b=some o->b∉ex->∃ o',h'.get? b=some o'
 tups:∀ b xs,H b=some (.tup xs)->H' b=some (.tup xs)
 frzs:∀ b o u,H b=some (.frz o u)->H' b=some (.frz o u)
 tbls:∀ b ps,H b=some (.tbl ps)->∃ more,H' b=some (.tbl (ps++more))
section
variable {fs fs' ex ex':List ah} {H H1 H2:Hp} {h h1 h2 h':gw} {a x e:ah} {o:HO}
theorem Un.any (u:Un fs ex H H1 h h1) {b:ah} {ob:Obj} (q:h.get? b=some ob) (n:H b=none) (hx:b∉ex):∃ sl,h1.get? b=some { ob with slots:=sl }:=by
 by_cases hb:b∈fs
 ·exact u.slot b ob q n hb hx
 ·exact ⟨ob.slots,u.keep b ob q n hb hx⟩
theorem Un.trans (a:Un fs ex H H1 h h1) (b:Un fs ex H1 H2 h1 h2):Un fs ex H H2 h h2 where
 keep:=λ c ob q n hc hx=>b.keep c ob (a.keep c ob q n hc hx) (a.free c ob q n hx) hc hx
 slot:=λ c ob q n hc hx=>by
  obtain ⟨sl,e1⟩:=a.slot c ob q n hc hx;obtain ⟨sl',e2⟩:=b.slot c _ e1 (a.free c ob q n hx) hc hx;exact ⟨sl',e2⟩
 free:=λ c ob q n hx=>by
  obtain ⟨o',e1⟩:=a.there c ob q hx;exact b.free c o' e1 (a.free c ob q n hx) hx
 there:=λ c ob q hx=>by
  obtain ⟨o',e1⟩:=a.there c ob q hx;exact b.there c o' e1 hx
 tups:=λ c xs q=>b.tups c xs (a.tups c xs q)
 frzs:=λ c ob xs q=>b.frzs c ob xs (a.frzs c ob xs q)
 tbls:=λ c ps q=>by
  obtain ⟨m1,e1⟩:=a.tbls c ps q;obtain ⟨m2,e2⟩:=b.tbls c _ e1;exact ⟨m1++m2,by rw [e2,AH]⟩
theorem Un.kept (k:∀ b u,h.get? b=some u->h'.get? b=some u):Un fs ex H H h h' :=
 ⟨λ b ob q _ _ _=>k b ob q,λ b ob q _ _ _=>⟨ob.slots,k b ob q⟩,λ _ _ _ n _=>n,λ b ob q _=>⟨ob,k b ob q⟩,λ _ _ q=>q,λ _ _ _ q=>q,λ _ ps q=>⟨#[],by rw [q];simp⟩⟩
theorem Un.refl:Un fs ex H H h h:=Un.kept λ _ _ q=>q
theorem Un.laid (k:∀ b u,h.get? b=some u->h'.get? b=some u) (hp:h.objs.size<=a) (hn:H a=none):Un fs ex H (upd H a o) h h' where
 keep:=λ b u q _ _ _=>k b u q
 slot:=λ b u q _ _ _=>⟨u.slots,k b u q⟩
 free:=λ b u q n _=>by rw [kH (eM (cn (cf q) hp))];exact n
 there:=λ b u q _=>⟨u,k b u q⟩
 tups:=λ b xs q=>by rw [kH (kF q hn)];exact q
 frzs:=λ b u xs q=>by rw [kH (kF q hn)];exact q
 tbls:=λ b ps q=>⟨#[],by rw [kH (kF q hn),q];simp⟩
theorem Un.write (mu:Mut (H x)) (he:e=x\/H e=some (.own x)) (k:∀ b u,b≠e->h.get? b=some u->h'.get? b=some u) (heo:∃ u,h'.get? e=some u):Un fs ex H (upd H x o) h h':=by
 have hx:∀ b,H b=none->b≠x:=λ b n z=>by subst z;rw [n] at mu;exact mu
 have hb:∀ b,H b=none->b≠e:=λ b n z=>by
  subst z;rcases he with r | r
  ·exact hx b n r
  ·rw [n] at r;cases r
 have hm:∀ b u,H b=some u->¬ Mut (some u)->b≠x:=λ b u q nm z=>by subst z;rw [q] at mu;exact nm mu
 refine ⟨λ b u q n _ _=>k b u (hb b n) q,λ b u q n _ _=>⟨u.slots,k b u (hb b n) q⟩,λ b u q n _=>by rw [kH (hx b n)];exact n,λ b u q _=>?_,
  λ b xs q=>by rw [kH (hm b _ q λ z=>z)];exact q,λ b u xs q=>by rw [kH (hm b _ q λ z=>z)];exact q,λ b ps q=>⟨#[],by rw [kH (hm b _ q λ z=>z),q];simp⟩⟩
 by_cases hbe:b=e
 ·subst hbe;exact heo
 ·exact ⟨u,k b u hbe q⟩
end
def trk (h:gw) (H:Hp):List ah:=(fc h.objs.size).filter λ a=>(H a).isSome
def pW (h:gw) (H:Hp):gw:=PySem.W.hideAll h (trk h H)
theorem kEF (h:gw) (H:Hp):(pW h H).objs.size=h.objs.size:=PySem.W.hideAll_size _ _
theorem kGV {h:gw} {H:Hp} {b:ah} {o:Obj} (e:h.get? b=some o) (n:H b=none):(pW h H).get? b=some o :=
 PySem.W.hideAll_get _ e λ hm=>by
  have q:(H b).isSome=true:=(iC.mp hm).2;rw [n] at q;simp at q
theorem kIZ {h:gw} {H:Hp} {b:ah} {o:Obj} (e:(pW h H).get? b=some o):h.get? b=some o/\H b=none:=by
 have e':h.get? b=some o:=PySem.W.of_hideAll (trk h H) e;refine ⟨e',?_⟩
 cases q:H b with
 | none=>rfl
 | some x =>
  have hm:b∈trk h H:=iC.mpr ⟨iM.mpr (cf e'),by simp [q]⟩;have z:(pW h H).get? b=none:=PySem.W.hideAll_none (trk h H) hm;rw [z] at e;cases e
structure Mod (K:au) (mg:Str->Option af) (base:gw):Prop where
 kin:K.In base
 glob:base.Ns az mg
 blt:∃ mb,base.Ns builtinsNs mb/\∀ x:Str,x≠"__name__"->mb x=bootBuiltins x
 nolimit:base.NoLimit
structure Cx where
 prog:eU
 w:gk
 K:au
 mg:Str->Option af
 base:gw
 A:eV
 N:List Str
 s₀:ak
 H₀:Hp
 env:Env
 outer:List Env
 stack:List Env
 ex:List ah
 fn:Str->Bool
 calm:Bool
 pn:List (ah×Obj)
 xe:af->ak->Prop
def frs (l:List Env):List ah:=l.filterMap (·.frame)
abbrev Cx.fs (X:Cx):List ah:=frs X.outer
def Vis (sc:ua) (x:Str):Prop:=sc.names.lookup x=some .local\/sc.names.lookup x=some .cell\/sc.names.lookup x=some .free
def Loc (sc:ua) (x:Str):Prop:=sc.names.lookup x=some .local\/sc.names.lookup x=some .cell
def kQE (env:Env) (h:gw) (m:Str->Option af) (x:Str) (u:af):Prop :=
 (env.kindOf x=some .local/\m x=some u)\/((env.kindOf x=some .cell\/env.kindOf x=some .free)/\∃ c,env.cells.lookup x=some c/\h.IsCell c (some u))
structure Cx.Ok (X:Cx):Prop where
 mod:Mod X.K X.mg X.base
 kind:X.env.scope.kind=.function
 glob:X.env.globals=az
 blt:X.env.builtins=builtinsNs
 above:X.s₀.heap.objs.size<=X.env.locals
 inj:∀ x y c,X.env.cells.lookup x=some c->X.env.cells.lookup y=some c->x=y
 has:∀ x,(X.env.kindOf x=some .cell\/X.env.kindOf x=some .free)->∃ c,X.env.cells.lookup x=some c
 cab:∀ x c,X.fn x=true->X.env.cells.lookup x=some c->X.s₀.heap.objs.size<=c
 hd:X.calm=true->X.A.handled=none
 frames:X.A.frames=some X.stack
 stk:X.stack=X.outer\/(X.stack=X.env::X.outer/\X.env.frame=some X.env.locals)
 exf:∀ b∈X.ex,b≠X.env.locals/\∀ x c,X.env.cells.lookup x=some c->c≠b
 bs:∀ b o,X.base.get? b=some o->X.s₀.heap.get? b=some o/\X.H₀ b=none
 bsz:X.base.objs.size<=X.s₀.heap.objs.size
 noex:∀ b o,X.base.get? b=some o->b∉X.ex
 exfs:∀ b∈X.ex,b∉X.fs
 funs:X.s₀.heap.FunFrames X.base X.outer
 frf:∀ b∈X.fs,X.H₀ b=none
structure Inv (X:Cx) (pins:List (ah×Obj)) (σ:List (Option V)) (H:Hp) (s:ak):Prop where
 ok:X.Ok
 os:s.os=X.s₀.os
 bare:AD s.gens
 base:Un X.fs X.ex X.H₀ H X.s₀.heap s.heap
 loc:∃ m,s.heap.Ns X.env.locals m/\∀ (i:Nat) (x:Str) (v:V),X.N[i]?=some x->σ[i]?=some (some v)->Vis X.env.scope x->∃ u,RelV v u/\kQE X.env s.heap m x u
 cell:∀ x c,X.env.cells.lookup x=some c->∃ v,s.heap.IsCell c v
 free:H X.env.locals=none
 freeC:∀ x c,X.env.cells.lookup x=some c->H c=none
 pin:∀ p∈X.pn++pins,s.heap.get? p.1=some p.2/\H p.1=none/\p.1≠X.env.locals/\p.1∉X.fs/\∀ v,p.2.data≠.cell v
 hok:HOk X.prog X.w H s.heap
 len:σ.length=X.N.length
section
variable {X:Cx} {pins:List (ah×Obj)} {σ:List (Option V)} {H H':Hp} {s:ak} {h':gw}
theorem Cx.Ok.nofr (ok:X.Ok) {b:ah} {o:Obj} (e:X.base.get? b=some o):b∉X.fs:=λ hb=>by
 have:=(ok.funs.mem hb).1;rw [e] at this;cases this
theorem Inv.bs (I:Inv X pins σ H s):∀ b o,X.base.get? b=some o->s.heap.get? b=some o/\H b=none:=λ b o e =>
 ⟨I.base.keep b o (I.ok.bs b o e).1 (I.ok.bs b o e).2 (I.ok.nofr e) (I.ok.noex b o e),I.base.free b o (I.ok.bs b o e).1 (I.ok.bs b o e).2 (I.ok.noex b o e)⟩
theorem Inv.bk (I:Inv X pins σ H s):∀ b o,X.base.get? b=some o->s.heap.get? b=some o:=λ b o e=>(I.bs b o e).1
theorem Inv.mod (I:Inv X pins σ H s):Mod X.K X.mg X.base:=I.ok.mod
theorem Inv.kIn (I:Inv X pins σ H s):X.K.In s.heap:=I.ok.mod.kin.keeps I.bk
theorem Inv.fr (I:Inv X pins σ H s):∃ m,Fr X.base X.env.locals s.heap m :=
 let ⟨m,hn,_⟩:=I.loc
 ⟨m,hn,I.bk,je I.ok.bsz I.ok.above⟩
theorem Inv.lt (I:Inv X pins σ H s):X.env.locals<s.heap.objs.size:=let ⟨_,hn,_⟩:=I.loc;hn.lt
theorem Inv.sz (I:Inv X pins σ H s):X.s₀.heap.objs.size<=s.heap.objs.size:=je I.ok.above (qq I.lt)
theorem Inv.nofs (I:Inv X pins σ H s) {a:ah} (h:s.heap.objs.size<=a):a∉X.fs:=λ hb=>by
 obtain ⟨_,o,ho,_⟩:=I.ok.funs.mem hb;exact absurd (cn (cf ho) (je I.sz h)) (jj _)
theorem Inv.cne (I:Inv X pins σ H s):∀ x c,X.env.cells.lookup x=some c->c≠X.env.locals:=λ x c e z=>by
 obtain ⟨v,o,ho,hd⟩:=I.cell x c e;obtain ⟨m,⟨o',es,ep,ho',hd',_⟩,_⟩:=I.loc;rw [z,ho'] at ho;cases ho;rw [hd'] at hd;cases hd
theorem Inv.funs (I:Inv X pins σ H s):s.heap.FunFrames X.base X.outer:=by
 have all:∀ (l:List Env),(∀ b∈frs l,b∈X.fs)->X.s₀.heap.FunFrames X.base l->s.heap.FunFrames X.base l:=by
  intro l
  induction l with
  | nil=>intro _ _;trivial
  | cons env r ih =>
   intro hs hl;obtain ⟨hk,⟨L,o,hf,hn,ho,hd⟩,hr⟩:=hl;have hL:L∈X.fs:=hs L (by unfold frs;rw [zw,hf];exact fv);obtain ⟨sl,e⟩:=I.base.slot L o ho (I.ok.frf L hL) hL λ z=>I.ok.exfs L z hL;exact ⟨hk,⟨L,_,hf,hn,e,hd⟩,ih (λ b hb=>hs b (by unfold frs;rw [zw,hf];exact eZ _ hb)) hr⟩
 exact all X.outer (λ _ hb=>hb) I.ok.funs
theorem Inv.stack (I:Inv X pins σ H s):s.heap.FunFrames X.base X.stack:=by
 rcases I.ok.stk with e | ⟨e,hf⟩
 ·rw [e];exact I.funs
 ·rw [e]
  obtain ⟨m,hn,_⟩:=I.loc;refine .cons (by rw [I.ok.kind];decide) hf hn ?_ I.funs;exact zf (je I.ok.bsz I.ok.above)
theorem Inv.stkSub (I:Inv X pins σ H s):∀ b∈frs X.stack,b∈X.env.locals::X.fs:=λ b hb=>by
 rcases I.ok.stk with e | ⟨e,hf⟩
 ·rw [e] at hb;exact eZ _ hb
 ·rw [e] at hb
  unfold frs at hb;rw [zw,hf] at hb;exact hb
theorem Inv.stkFree (I:Inv X pins σ H s):∀ b∈frs X.stack,H b=none:=λ b hb=>by
 rcases gv.mp (I.stkSub b hb) with e | hb
 ·rw [e];exact I.free
 ·obtain ⟨_,o,ho,_⟩:=I.ok.funs.mem hb
  exact I.base.free b o ho (I.ok.frf b hb) λ z=>I.ok.exfs b z hb
theorem Inv.step {g':Array Dm} {t':Nat} {d':Drawn} {ch:List ah} (I:Inv X pins σ H s)
  (hch:∀ b∈ch,(b∈X.ex\/X.s₀.heap.objs.size<=b)/\b≠X.env.locals/\(∀ x c,X.env.cells.lookup x=some c->c≠b)/\∀ p∈X.pn++pins,p.1≠b)
  (keep:∀ b o,b≠X.env.locals->b∉X.fs->b∉ch->s.heap.get? b=some o->H b=none->h'.get? b=some o)
  (slot:∀ b o,b≠X.env.locals->b∈X.fs->b∉ch->s.heap.get? b=some o->H b=none->∃ sl,h'.get? b=some { o with slots:=sl }) (free:∀ b o,b∉ch->s.heap.get? b=some o->H b=none->H' b=none)
  (there:∀ b o,b∉ch->s.heap.get? b=some o->∃ o',h'.get? b=some o')
  (tups:∀ b xs,H b=some (.tup xs)->H' b=some (.tup xs)) (frzs:∀ b o u,H b=some (.frz o u)->H' b=some (.frz o u)) (tbls:∀ b ps,H b=some (.tbl ps)->∃ more,H' b=some (.tbl (ps++more)))
  (ns:∀ m,s.heap.Ns X.env.locals m->h'.Ns X.env.locals m) (hok:HOk X.prog X.w H' h') (hg:AD g') :
  Inv X pins σ H' { s with heap:=h',gens:=g',drawn:=d',toks:=t' }:=by
 have neL:∀ b o,X.s₀.heap.get? b=some o->b≠X.env.locals:=λ b o e=>eM (cn (cf e) I.ok.above)
 have neC:∀ b o,X.s₀.heap.get? b=some o->b∉X.ex->b∉ch:=λ b o e hx hb=>by
  rcases (hch b hb).1 with z | z
  ·exact hx z
  ·exact absurd (cn (cf e) z) (jj _)
 have cellK:∀ x c,X.env.cells.lookup x=some c->∀ v,s.heap.IsCell c v->h'.IsCell c v:=λ x c e v ⟨o,ho,hd⟩=>by
  have nch:c∉ch:=λ z=>(hch c z).2.2.1 x c e rfl;by_cases hc:c∈X.fs
  ·obtain ⟨sl,q⟩:=slot c o (I.cne x c e) hc nch ho (I.freeC x c e)
   exact ⟨_,q,hd⟩
  ·exact ⟨o,keep c o (I.cne x c e) hc nch ho (I.freeC x c e),hd⟩
 refine ⟨I.ok,I.os,hg,⟨λ b o e n hb hx=>?_,λ b o e n hb hx=>?_,λ b o e n hx=>?_,λ b o e hx=>?_,λ b xs e=>tups b xs (I.base.tups b xs e),λ b o xs e=>frzs b o xs (I.base.frzs b o xs e),λ b ps e=>?_⟩,?_,λ x c e=>?_,?_,λ x c e=>?_,λ p hp=>?_,hok,I.len⟩
 ·exact keep b o (neL b o e) hb (neC b o e hx) (I.base.keep b o e n hb hx) (I.base.free b o e n hx)
 ·obtain ⟨sl,e1⟩:=I.base.slot b o e n hb hx
  obtain ⟨sl',e2⟩:=slot b _ (neL b o e) hb (neC b o e hx) e1 (I.base.free b o e n hx);exact ⟨sl',e2⟩
 ·obtain ⟨o',e1⟩:=I.base.there b o e hx
  exact free b o' (neC b o e hx) e1 (I.base.free b o e n hx)
 ·obtain ⟨o',e1⟩:=I.base.there b o e hx
  exact there b o' (neC b o e hx) e1
 ·obtain ⟨m1,e1⟩:=I.base.tbls b ps e
  obtain ⟨m2,e2⟩:=tbls b _ e1;exact ⟨m1++m2,by rw [e2,AH]⟩
 ·obtain ⟨m,hn,hl⟩:=I.loc
  refine ⟨m,ns m hn,λ i x v e1 e2 e3=>?_⟩;obtain ⟨u,r,l⟩:=hl i x v e1 e2 e3;refine ⟨u,r,?_⟩;rcases l with l | ⟨k,c,e,z⟩
  ·exact .inl l
  ·exact .inr ⟨k,c,e,cellK x c e _ z⟩
 ·obtain ⟨v,z⟩:=I.cell x c e
  exact ⟨v,cellK x c e v z⟩
 ·obtain ⟨m,⟨o,_,_,ho,_⟩,_⟩:=I.loc
  exact free _ o (λ z=>(hch _ z).2.1 rfl) ho I.free
 ·obtain ⟨v,o,ho,hd⟩:=I.cell x c e
  exact free c o (λ z=>(hch c z).2.2.1 x c e rfl) ho (I.freeC x c e)
 ·obtain ⟨e,n,ne,nf,d⟩:=I.pin p hp
  have nch:p.1∉ch:=λ z=>(hch p.1 z).2.2.2 p hp rfl;exact ⟨keep p.1 p.2 ne nf nch e n,free p.1 p.2 nch e n,ne,nf,d⟩
theorem Inv.un {t':Nat} (I:Inv X pins σ H s) (u:Un X.fs [] H H' s.heap h') (hok:HOk X.prog X.w H' h'):Inv X pins σ H' { s with heap:=h',toks:=t' }:=by
 obtain ⟨m,⟨o,es,ep,ho,r⟩,_⟩:=id I.loc;obtain ⟨sl,hL⟩:=u.any ho I.free (by simp)
 exact I.step (g':=s.gens) (d':=s.drawn) (ch:=[]) (λ _ z=>nomatch z) (λ b o _ hb _ e n=>u.keep b o e n hb (by simp)) (λ b o _ hb _ e n=>u.slot b o e n hb (by simp)) (λ b o _ e n=>u.free b o e n (by simp)) (λ b o _ e=>u.there b o e (by simp)) u.tups u.frzs u.tbls (λ m' hm=>by
  obtain ⟨o',es',ep',ho',r'⟩:=hm;rw [ho] at ho';cases ho';exact ⟨_,es',ep',hL,r'⟩) hok I.bare
theorem Inv.call {g':Array Dm} {t':Nat} {d':Drawn} {ch:List ah} (I:Inv X pins σ H s) (u:Un (frs X.stack) ch H H' s.heap h') (hok:HOk X.prog X.w H' h') (hg:AD g')
  (hch:∀ b∈ch,(b∈X.ex\/X.s₀.heap.objs.size<=b)/\b≠X.env.locals/\(∀ x c,X.env.cells.lookup x=some c->c≠b)/\∀ p∈X.pn++pins,p.1≠b) :
  Inv X pins σ H' { s with heap:=h',gens:=g',drawn:=d',toks:=t' }:=by
 obtain ⟨m,⟨o,es,ep,ho,r⟩,_⟩:=id I.loc;obtain ⟨sl,hL⟩:=u.any ho I.free λ z=>(hch _ z).2.1 rfl
 exact I.step (ch:=ch) hch (λ b o hL hb hc e n=>u.keep b o e n (λ z=>(gv.mp (I.stkSub b z)).elim hL hb) hc) (λ b o _ _ hc e n=>u.any e n hc) (λ b o hc e n=>u.free b o e n hc) (λ b o hc e=>u.there b o e hc) u.tups u.frzs u.tbls (λ m' hm=>by
  obtain ⟨o',es',ep',ho',r'⟩:=hm;rw [ho] at ho';cases ho';exact ⟨_,es',ep',hL,r'⟩) hok hg
theorem Inv.turned {t':Nat} {it:ah} (I:Inv X pins σ H s) (k:∀ b o,b≠it->s.heap.get? b=some o->h'.get? b=some o) (hn:H it=none) (hL:it≠X.env.locals)
  (h1:it∈X.ex\/X.s₀.heap.objs.size<=it) (h2:∀ x c,X.env.cells.lookup x=some c->c≠it) (h3:∀ p∈X.pn++pins,p.1≠it):Inv X pins σ H { s with heap:=h',toks:=t' }:=by
 have nit:∀ b u,H b=some u->b≠it:=λ b u e z=>by rw [z,hn] at e;cases e
 refine I.step (g':=s.gens) (d':=s.drawn) (ch:=[it]) (λ b hb=>?_) (λ b o _ _ hc e _=>k b o (λ z=>hc (by simp [z])) e) (λ b o _ _ hc e _=>⟨o.slots,k b o (λ z=>hc (by simp [z])) e⟩) (λ _ _ _ _ n=>n)
  (λ b o hc e=>⟨o,k b o (λ z=>hc (by simp [z])) e⟩) (λ _ _ e=>e) (λ _ _ _ e=>e) (λ b ps e=>⟨#[],by rw [e];simp⟩) (λ m hm=>?_) (λ b u e=>?_) I.bare
 ·have e:b=it:=by simpa using hb
  subst e;exact ⟨h1,hL,h2,h3⟩
 ·obtain ⟨o,es,ep,ho,r⟩:=hm
  exact ⟨o,es,ep,k _ o (og hL) ho,r⟩
 ·refine (I.hok b u e).stay (λ c v hc q=>k c v ?_ q) (λ _ q=>q) λ _ _ q=>q
  rcases hc with z | z
  ·rw [z];exact nit b u e
  ·exact nit c _ z
theorem Inv.tok (I:Inv X pins σ H s) (t:Nat):Inv X pins σ H { s with toks:=t }:=I.un (h':=s.heap) (t':=t) Un.refl I.hok
theorem Inv.kept {t':Nat} (I:Inv X pins σ H s) (k:∀ b u,s.heap.get? b=some u->h'.get? b=some u):Inv X pins σ H { s with heap:=h',toks:=t' }:=I.un (Un.kept k) (I.hok.kept k)
theorem Inv.laid {a:ah} {o:HO} {t':Nat} (I:Inv X pins σ H s) (k:∀ b u,s.heap.get? b=some u->h'.get? b=some u) (hp:s.heap.objs.size<=a) (new:ObjOk X.prog X.w (upd H a o) h' a o) :
  Inv X pins σ (upd H a o) { s with heap:=h',toks:=t' }:=I.un (Un.laid k hp (I.hok.fresh hp)) (I.hok.laid k hp new)
theorem Inv.write {x e:ah} {o:HO} {t':Nat} (I:Inv X pins σ H s) (mu:Mut (H x)) (he:e=x\/H e=some (.own x)) (k:∀ b u,b≠e->s.heap.get? b=some u->h'.get? b=some u) (heo:∃ u,h'.get? e=some u)
  (new:ObjOk X.prog X.w (upd H x o) h' x o):Inv X pins σ (upd H x o) { s with heap:=h',toks:=t' }:=I.un (Un.write mu he k heo) (I.hok.write mu he k heo new)
theorem Inv.pins_of {pins':List (ah×Obj)} (I:Inv X pins σ H s) (h:∀ p∈pins',s.heap.get? p.1=some p.2/\H p.1=none/\p.1≠X.env.locals/\p.1∉X.fs/\∀ v,p.2.data≠.cell v):Inv X pins' σ H s :=
 ⟨I.ok,I.os,I.bare,I.base,I.loc,I.cell,I.free,I.freeC,λ p hp=>(eY.mp hp).elim (λ z=>I.pin p (iJ _ z)) (h p),I.hok,I.len⟩
theorem lD {N:List Str} (hN:N.Nodup) {i j:Nat} {x:Str} (a:N[i]?=some x) (b:N[j]?=some x):i=j:=by
 obtain ⟨h1,e1⟩:=ag.mp a;obtain ⟨h2,e2⟩:=ag.mp b;exact (Ay hN).mp (e1.trans e2.symm)
theorem mS {M:tw} {A:eV} {E:af->ak->Prop} {i:Nat} {x:Str} {v:V} {u:af} {Q:Unit->ak->Prop} (I:Inv X pins σ H s) (hN:X.N.Nodup) (hi:X.N[i]?=some x) (hx:Loc X.env.scope x) (r:RelV v u)
  (h:∀ s',Inv X pins (σ.set i (some v)) H s'->(∃ a,ma a s.heap s'.heap/\(a=X.env.locals\/X.env.cells.lookup x=some a))->Q () s') (hf:X.fn x=true\/X.env.scope.names.lookup x=some .local:=by first | exact .inl rfl | exact .inr rfl | assumption):de M A (storeName X.env x u) Q E s:=by
 obtain ⟨m,hn,hl⟩:=id I.loc;have hcls:(X.env.scope.kind == .class || (X.env.scope.kind == .module && X.env.locals != X.env.globals))=false:=by rw [I.ok.kind];rfl
 have hiσ:i<σ.length:=by rw [I.len];exact (ag.mp hi).1
 have cne:=I.cne
 have tracked:∀ {a:ah} {h':gw},(∃ o,s.heap.get? a=some o/\H a=none)->ma a s.heap h'->HOk X.prog X.w H h':=λ {a h'} ha hs b ob e=>by
  obtain ⟨_,_,hfree⟩:=ha;refine (I.hok b ob e).stay (λ c w' hc q=>(hs.2 c ?_).trans q) (λ _ q=>q) λ _ _ q=>q;rintro rfl;rcases hc with rfl | hc
  ·rw [hfree] at e;cases e
  ·rw [hfree] at hc;cases hc
 rcases hx with hk | hk
 ·refine wpAny_storeName_local hk hn (λ h' hn' hs=>?_) hcls
  obtain ⟨oL,_,_,hoL,_⟩:=id hn;refine h _ ⟨I.ok,I.os,I.bare,⟨λ b o e n hb hx=>?_,λ b o e n hb hx=>?_,I.base.free,λ b o e hx=>?_,I.base.tups,I.base.frzs,I.base.tbls⟩,⟨_,hn',λ j y v' e1 e2 e3=>?_⟩,λ y c e=>?_,I.free,I.freeC,λ p hp=>?_,tracked ⟨oL,hoL,I.free⟩ hs,by simpa using I.len⟩ ⟨_,hs,.inl rfl⟩
  ·exact (hs.2 b (eM (cn (cf e) I.ok.above))).trans (I.base.keep b o e n hb hx)
  ·obtain ⟨sl,e1⟩:=I.base.slot b o e n hb hx
   exact ⟨sl,(hs.2 b (eM (cn (cf e) I.ok.above))).trans e1⟩
  ·obtain ⟨o',e1⟩:=I.base.there b o e hx
   exact ⟨o',(hs.2 b (eM (cn (cf e) I.ok.above))).trans e1⟩
  ·by_cases hj:j=i
   ·subst hj
    rw [hi] at e1;cases e1;rw [fz hiσ] at e2;cases e2
    exact ⟨u,r,.inl ⟨hk,by simp⟩⟩
   ·rw [di (og hj)] at e2
    obtain ⟨u',r',q⟩:=hl j y v' e1 e2 e3;refine ⟨u',r',?_⟩;rcases q with ⟨k,e⟩ | ⟨k,c,e,z⟩
    ·refine .inl ⟨k,?_⟩
     have:y≠x:=λ e=>hj (lD hN e1 (e ▸ hi));simp [this,e]
    ·exact .inr ⟨k,c,e,z.sameBut hs (cne y c e)⟩
  ·obtain ⟨w',z⟩:=I.cell y c e
   exact ⟨w',z.sameBut hs (cne y c e)⟩
  ·obtain ⟨e,n,ne,nf,d⟩:=I.pin p hp
   exact ⟨(hs.2 p.1 ne).trans e,n,ne,nf,d⟩
 ·have hfn:X.fn x=true:=by
   rcases hf with z | z
   ·exact z
   ·rw [z] at hk;cases hk
  obtain ⟨c,hc⟩:=I.ok.has x (.inl hk);obtain ⟨w',z⟩:=I.cell x c hc;refine wpAny_storeName_cell I.ok.kind hk hc z (λ h' hc' hs=>?_);obtain ⟨oc,hoc,hocd⟩:=id z;refine h { s with heap:=h' } ⟨I.ok,I.os,I.bare,⟨λ b o e n hb hx=>?_,λ b o e n hb hx=>?_,I.base.free,λ b o e hx=>?_,I.base.tups,I.base.frzs,I.base.tbls⟩,⟨m,hn.sameBut hs (og (cne x c hc)),λ j y v' e1 e2 e3=>?_⟩,λ y c' e=>?_,I.free,I.freeC,λ p hp=>?_,tracked ⟨oc,hoc,I.freeC x c hc⟩ hs,by simpa using I.len⟩ ⟨c,hs,.inr hc⟩
  ·exact (hs.2 b (eM (cn (cf e) (I.ok.cab x c hfn hc)))).trans (I.base.keep b o e n hb hx)
  ·obtain ⟨sl,e1⟩:=I.base.slot b o e n hb hx
   exact ⟨sl,(hs.2 b (eM (cn (cf e) (I.ok.cab x c hfn hc)))).trans e1⟩
  ·obtain ⟨o',e1⟩:=I.base.there b o e hx
   exact ⟨o',(hs.2 b (eM (cn (cf e) (I.ok.cab x c hfn hc)))).trans e1⟩
  ·by_cases hj:j=i
   ·subst hj
    rw [hi] at e1;cases e1;rw [fz hiσ] at e2;cases e2
    exact ⟨u,r,.inr ⟨.inl hk,c,hc,hc'⟩⟩
   ·rw [di (og hj)] at e2
    obtain ⟨u',r',q⟩:=hl j y v' e1 e2 e3;refine ⟨u',r',?_⟩;rcases q with q | ⟨k,c',e,z'⟩
    ·exact .inl q
    ·refine .inr ⟨k,c',e,z'.sameBut hs ?_⟩
     rintro rfl;exact hj (lD hN e1 (I.ok.inj _ _ _ e hc ▸ hi))
  ·by_cases hcc:c'=c
   ·subst hcc;exact ⟨_,hc'⟩
   ·obtain ⟨w2,z2⟩:=I.cell y c' e
    exact ⟨w2,z2.sameBut hs hcc⟩
  ·obtain ⟨e,n,ne,nf,d⟩:=I.pin p hp
   refine ⟨(hs.2 p.1 ?_).trans e,n,ne,nf,d⟩;intro q;rw [q,hoc] at e;have q':oc=p.2:=du e;exact d w' (by rw [<-q'];exact hocd)
theorem uE {M:tw} {A:eV} {E:af->ak->Prop} {i:Nat} {x:Str} {v:V} {u:af} {Q:Unit->ak->Prop} (I:Inv X pins σ H s) (hN:X.N.Nodup) (hi:X.N[i]?=some x) (hx:Loc X.env.scope x) (r:RelV v u)
  (h:∀ s',Inv X pins (σ.set i (some v)) H s'->Q () s') (hf:X.fn x=true\/X.env.scope.names.lookup x=some .local:=by first | exact .inl rfl | exact .inr rfl | assumption):de M A (storeName X.env x u) Q E s :=
 mS I hN hi hx r (λ s' I' _=>h s' I') hf
theorem Inv.call' {s':ak} {ch:List ah} (I:Inv X pins σ H s) (ho:s'.os=s.os) (u:Un (frs X.stack) ch H H' s.heap s'.heap) (hok:HOk X.prog X.w H' s'.heap) (hg:AD s'.gens)
  (hch:∀ b∈ch,(b∈X.ex\/X.s₀.heap.objs.size<=b)/\b≠X.env.locals/\(∀ x c,X.env.cells.lookup x=some c->c≠b)/\∀ p∈X.pn++pins,p.1≠b):Inv X pins σ H' s':=by
 obtain ⟨h',g',d',t',o'⟩:=s';have e:o'=s.os:=ho;subst e;exact I.call (g':=g') (t':=t') (d':=d') u hok hg hch
end
abbrev XK:=af->Option ah->Hp->Prop
abbrev St:=List (Option V)
abbrev VK:=V->Hp->Prop
abbrev TE:=St->Hp->VK->Prop
abbrev TT:=St->Hp->(Bool->Hp->Prop)->Prop
abbrev TA:=St->Hp->(List V->Hp->Prop)->Prop
structure Ends where
 nx:St->Hp->Prop
 rt:VK
 bk:St->Hp->Prop:=λ _ _=>False
 ct:St->Hp->Prop:=λ _ _=>False
abbrev TS:=Ends->St->Hp->Prop
def EP (X:Cx) (pins:List (ah×Obj)) (σ:St) (Q:VK) (u:af) (s':ak):Prop:=∃ v H',Inv X pins σ H' s'/\RelV v u/\Q v H'
def TP (X:Cx) (pins:List (ah×Obj)) (σ:St) (Q:Bool->Hp->Prop) (b:Bool) (s':ak):Prop:=∃ H',Inv X pins σ H' s'/\Q b H'
def AP (X:Cx) (pins:List (ah×Obj)) (σ:St) (Q:List V->Hp->Prop) (us:List af) (s':ak):Prop:=∃ vs H',Inv X pins σ H' s'/\Vals vs us/\Q vs H'
def SP (X:Cx) (pins:List (ah×Obj)) (D:Ends) (f:Flow) (s':ak):Prop :=
 match f with
 | .next=>∃ σ' H',Inv X pins σ' H' s'/\D.nx σ' H'
 | .brk=>∃ σ' H',Inv X pins σ' H' s'/\D.bk σ' H'
 | .cont=>∃ σ' H',Inv X pins σ' H' s'/\D.ct σ' H'
 | .ret u=>∃ v σ' H',Inv X pins σ' H' s'/\RelV v u/\D.rt v H'
def PE (X:Cx) (e:iQ) (t:TE):Prop :=
 ∀ (pins:List (ah×Obj)) (s:ak) (σ:St) (H:Hp) (Q:VK),Inv X pins σ H s->t σ H Q->de (model X.prog X.w) X.A (eval e X.env) (EP X pins σ Q) X.xe s
def PT (X:Cx) (e:iQ) (t:TT):Prop :=
 ∀ (pins:List (ah×Obj)) (s:ak) (σ:St) (H:Hp) (Q:Bool->Hp->Prop),Inv X pins σ H s->t σ H Q->de (model X.prog X.w) X.A (isTrue e X.env (eval e X.env)) (TP X pins σ Q) X.xe s
def PW (X:Cx) (e:iQ) (t:TT):Prop :=
 ∀ (vZ:Sem af) (pins:List (ah×Obj)) (s:ak) (σ:St) (H:Hp) (Q:Bool->Hp->Prop),Inv X pins σ H s->t σ H Q->de (model X.prog X.w) X.A (isTrue e X.env vZ) (TP X pins σ Q) X.xe s
theorem PW.pt {X:Cx} {e:iQ} {t:TT} (h:PW X e t):PT X e t:=h _
def PA (X:Cx) (es:List iQ) (t:TA):Prop :=
 ∀ (pos:Pos) (pins:List (ah×Obj)) (s:ak) (σ:St) (H:Hp) (Q:List V->Hp->Prop),Inv X pins σ H s->t σ H Q->de (model X.prog X.w) X.A (spliced (backTo pos (starEach es X.env))) (AP X pins σ Q) X.xe s
def PS (X:Cx) (st:jw) (t:TS):Prop :=
 ∀ (pins:List (ah×Obj)) (s:ak) (σ:St) (H:Hp) (D:Ends),Inv X pins σ H s->t D σ H->de (model X.prog X.w) X.A (exec st X.env) (SP X pins D) X.xe s
def PSs (X:Cx) (st:List jw) (t:TS):Prop :=
 ∀ (pins:List (ah×Obj)) (s:ak) (σ:St) (H:Hp) (D:Ends),Inv X pins σ H s->t D σ H->de (model X.prog X.w) X.A (execs st X.env) (SP X pins D) X.xe s
theorem thn {α:Type} {t:Sem α} {Q Q':α->ak->Prop} {M:tw} {A:eV} {E:af->ak->Prop} {s:ak} (h:de M A t Q E s) (hQ:∀ a s,Q a s->Q' a s):de M A t Q' E s:=lj h hQ λ _ _ x=>x
section
variable {X:Cx}
def tO (i:Nat):TE:=λ σ H Q=>∃ v,σ[i]?=some (some v)/\Q v H
def tC (v:V):TE:=λ _ H Q=>Q v H
theorem kLS {i:Nat} {x:Str} {pos:Pos} (hN:X.N[i]?=some x) (hv:Vis X.env.scope x) (hd:(x == ("__debug__" : Str))=false:=by decide) (hcd:(x == ("__classdict__" : Str))=false:=by decide):PE X (.Name x pos) (tO i):=by
 intro pins s σ H Q I h;obtain ⟨v,e,h⟩:=h;obtain ⟨m,hn,hl⟩:=I.loc;obtain ⟨u,r,l⟩:=hl i x v hN e hv;have fin:EP X pins σ Q u s:=⟨v,H,I,r,h⟩;rcases l with ⟨hk,hm⟩ | ⟨hk,c,hc,hcell⟩
 ·exact Do (wpAny_loadName_local I.ok.kind hk hn hm fin) hd
 ·rcases hk with hk | hk
  ·exact Do (wpAny_loadName_cell I.ok.kind hk hc hcell fin) hd
  ·exact Do (wpAny_loadName_free I.ok.kind hk hc hcell fin hcd) hd
theorem kO {i j pos}:PE X (.Constant (.int i) j pos) (tC (.int i)):=λ _ _ _ H _ I h=>wpAny_Constant_int ⟨.int i,H,I.tok _,⟨_,rfl⟩,h⟩
theorem uJ {b j pos}:PE X (.Constant (.bool b) j pos) (tC (.bl b)):=λ _ _ _ H _ I h=>Constant_bool ⟨.bl b,H,I,rfl,h⟩
theorem kAF {j pos}:PE X (.Constant .none j pos) (tC .non):=λ _ _ _ H _ I h=>Constant_none ⟨.non,H,I,rfl,h⟩
theorem kLT {x j pos}:PE X (.Constant (.str x) j pos) (tC (.str x)):=λ _ _ _ H _ I h=>Calls.Constant_str ⟨.str x,H,I.tok _,⟨_,rfl⟩,h⟩
def Gl (X:Cx) (x:Str):Prop:=X.env.kindOf x=some .globalImplicit
theorem aJ {E:af->ak->Prop} {pins:List (ah×Obj)} {s:ak} {σ:St} {H:Hp} {x:Str} {u:af} {pos:Pos} {Q:af->ak->Prop} (I:Inv X pins σ H s) (hg:Gl X x) (hm:X.mg x=some u) (h:Q u s)
  (hd:(x == ("__debug__" : Str))=false:=by decide):de (model X.prog X.w) X.A (eval (.Name x pos) X.env) Q E s :=
 AI I.ok.kind hg (Calls.loadGlobal_global (by rw [I.ok.glob];exact I.mod.glob.keeps I.bk) hm h) hd
theorem aR {E:af->ak->Prop} {pins:List (ah×Obj)} {s:ak} {σ:St} {H:Hp} {x:Str} {u:af} {pos:Pos} {Q:af->ak->Prop} (I:Inv X pins σ H s) (hg:Gl X x) (hm:X.mg x=none) (hv:bootBuiltins x=some u) (h:Q u s)
  (hn:x≠"__name__":=by decide) (hd:(x == ("__debug__" : Str))=false:=by decide):de (model X.prog X.w) X.A (eval (.Name x pos) X.env) Q E s:=by
 obtain ⟨mb,h1,h2⟩:=I.mod.blt;exact AI I.ok.kind hg (Calls.loadGlobal_builtin (by rw [I.ok.glob];exact I.mod.glob.keeps I.bk) hm (by rw [I.ok.blt];exact h1.keeps I.bk) ((h2 x hn).trans hv) h) hd
theorem qM {x:Str} {v:V} {u:af} {pos:Pos} (hg:Gl X x) (hm:X.mg x=some u) (r:RelV v u) (hd:(x == ("__debug__" : Str))=false:=by decide):PE X (.Name x pos) (tC v) :=
 λ _ _ _ H _ I h=>aJ I hg hm ⟨v,H,I,r,h⟩ hd
theorem fS {x:Str} {v:V} {u:af} {pos:Pos} (hg:Gl X x) (hm:X.mg x=none) (hv:bootBuiltins x=some u) (r:RelV v u) (hn:x≠"__name__":=by decide) (hd:(x == ("__debug__" : Str))=false:=by decide):PE X (.Name x pos) (tC v) :=
 λ _ _ _ H _ I h=>aR I hg hm hv ⟨v,H,I,r,h⟩ hn hd
variable {a b:iQ} {ta tb:TE} {pos:Pos}
def PC (X:Cx) (op:FR) (a b:iQ) (t:TE):Prop :=
 ∀ (pins:List (ah×Obj)) (s:ak) (σ:St) (H:Hp) (Q:VK),Inv X pins σ H s->t σ H Q ->
  de (model X.prog X.w) X.A (eval a X.env) (λ v s₁=>de (model X.prog X.w) X.A (eval b X.env) (λ u s₂=>de (model X.prog X.w) X.A (compareOp op v u) (EP X pins σ Q) X.xe s₂) X.xe s₁) X.xe s
def tB (t:TE):TT:=λ σ H Q=>t σ H λ x H1=>∃ c,x=.bl c/\Q c H1
theorem kAB {op:FR} {t:TE} (h:PC X op a b t) (h1:behindInMarks op b=false:=by first | exact nobehind _ (by decide) (by decide) | rfl):PT X (.Compare a [op] [b] pos) (tB t):=by
 intro pins s σ H Q I hw;refine Be (thn (h pins s σ H _ I hw) λ v s1 h1=>thn h1 λ u s2 h2=>thn h2 λ c s3 ⟨x,H1,I1,r1,q1⟩=>?_) h1;obtain ⟨d,rfl,q⟩:=q1;cases r1
 exact qr ⟨H1,I1,q⟩
theorem yS {e:iQ} {t:TE} (h:PE X e t) (he:∀ vZ,isTrue e X.env vZ=(do let v <-vZ;standAt e.pos;holding [v] (truthy v)):=by intro _;rfl):PT X e (tB t):=by
 intro pins s σ H Q I hw;refine isTrue_plain (thn (h pins s σ H _ I hw) λ v s1 ⟨x,H1,I1,r1,q1⟩=>?_) (he _);obtain ⟨d,rfl,q⟩:=q1;cases r1
 exact qr ⟨H1,I1,q⟩
variable {tA tB':TT} {rest:List iQ}
def kPM (t u:TT):TT:=λ σ H Q=>t σ H λ c H1=>if c=true then u σ H1 Q else Q false H1
def tOr (t u:TT):TT:=λ σ H Q=>t σ H λ c H1=>if c=true then Q true H1 else u σ H1 Q
def kPH (t:TT):TT:=λ σ H Q=>t σ H λ c H1=>Q (!c) H1
theorem vR (ha:PT X a tA):PW X (.BoolOp .And [a] pos) tA:=by
 intro wh pins s σ H Q I h;refine isTrue_and (thn (ha pins s σ H Q I h) λ c s1 e=>?_)
 cases c with
 | true=>exact isTrue_and_nil e
 | false=>exact e
theorem cZ (ha:PT X a tA):PW X (.BoolOp .Or [a] pos) tA:=by
 intro wh pins s σ H Q I h;refine isTrue_or (thn (ha pins s σ H Q I h) λ c s1 e=>?_)
 cases c with
 | false=>exact isTrue_or_nil e
 | true=>exact e
theorem uG (ha:PT X a tA) (hb:PW X (.BoolOp .And (b::rest) pos) tB'):PW X (.BoolOp .And (a::b::rest) pos) (kPM tA tB'):=by
 intro wh pins s σ H Q I h;refine isTrue_and (thn (ha pins s σ H _ I h) λ c s1 ⟨H1,I1,q1⟩=>?_)
 cases c with
 | true=>exact hb wh pins s1 σ H1 Q I1 q1
 | false=>exact ⟨H1,I1,q1⟩
theorem mV (ha:PT X a tA) (hb:PW X (.BoolOp .Or (b::rest) pos) tB'):PW X (.BoolOp .Or (a::b::rest) pos) (tOr tA tB'):=by
 intro wh pins s σ H Q I h;refine isTrue_or (thn (ha pins s σ H _ I h) λ c s1 ⟨H1,I1,q1⟩=>?_)
 cases c with
 | true=>exact ⟨H1,I1,q1⟩
 | false=>exact hb wh pins s1 σ H1 Q I1 q1
theorem uH (ha:PT X a tA):PT X (.UnaryOp .Not a pos) (kPH tA):=by
 intro pins s σ H Q I h;exact isTrue_not (ha pins s σ H (λ c H1=>Q (!c) H1) I h)
def kNS (ta tb:TE):TE:=λ σ H Q=>ta σ H λ x H1=>∃ c,x=.bl c/\if c=true then tb σ H1 Q else Q (.bl false) H1
theorem kLU {op} {t:TE} (h:PE X a t):PE X (.BoolOp op [a] pos) t:=λ pins s σ H Q I hw=>BoolOp_one (h pins s σ H Q I hw)
theorem kLV (ha:PE X a ta) (hb:PE X (.BoolOp .And (b::rest) pos) tb):PE X (.BoolOp .And (a::b::rest) pos) (kNS ta tb):=by
 intro pins s σ H Q I h;refine BoolOp_and (thn (ha pins s σ H _ I h) λ v s1 ⟨x,H1,I1,r1,q1⟩=>?_);obtain ⟨c,rfl,q1⟩:=q1;cases r1
 refine qr ?_
 cases c with
 | true=>exact hb pins s1 σ H1 Q I1 q1
 | false=>exact ⟨.bl false,H1,I1,rfl,q1⟩
def tIf (t:TT) (ta tb:TE):TE:=λ σ H Q=>t σ H λ c H1=>if c=true then ta σ H1 Q else tb σ H1 Q
theorem kGE {c:iQ} (hc:PT X c tA) (ha:PE X a ta) (hb:PE X b tb):PE X (.IfExp c a b pos) (tIf tA ta tb):=by
 intro pins s σ H Q I h;refine wpAny_IfExp (thn (hc pins s σ H _ I h) λ d s1 ⟨H1,I1,q1⟩=>?_)
 cases d with
 | true=>exact ha pins s1 σ H1 Q I1 q1
 | false=>exact hb pins s1 σ H1 Q I1 q1
end
def SqL (K:au) (H:Hp) (a:ah) (xs:List V):Prop :=
 Rd H a (.lst xs) \/
  ∃ (o:Obj) (its:Array af) (n:Nat),K.lookup a=some o/\o.cls=.type "list"/\o.dict=none/\o.data=.seq its n/\its.size<=sizeLine/\Vals xs its.toList
def SqT (K:au) (H:Hp) (a:ah) (xs:List V):Prop :=
 Rd H a (.tup xs) \/
  ∃ (o:Obj) (its:Array af) (n:Nat),K.lookup a=some o/\o.cls=.type "tuple"/\o.data=.seq its n/\its.size<=sizeLine/\Vals xs its.toList
def kQC:af->Option V
 | .none=>some .non
 | .bool b=>some (.bl b)
 | .int i _=>some (.int i)
 | .str x _=>some (.str x)
 | .bytes b _=>some (.byt b)
 | .float b _=>some (.flt b)
 | .ref a=>some (.ref a)
 | .type n=>some (.ty n)
 | _=>none
theorem RelV.abs {x:V} {u:af} (r:RelV x u):kQC u=some x:=by
 cases x with
 | non=>cases r;rfl
 | bl _=>cases r;rfl
 | int _=>obtain ⟨t,rfl⟩:=r;rfl
 | str _=>obtain ⟨t,rfl⟩:=r;rfl
 | byt _=>obtain ⟨t,rfl⟩:=r;rfl
 | flt _=>obtain ⟨t,rfl⟩:=r;rfl
 | ref _=>cases r;rfl
 | ty _=>cases r;rfl
theorem RelV.inj {x y:V} {u:af} (r:RelV x u) (q:RelV y u):x=y:=du (r.abs.symm.trans q.abs)
theorem Vals.inj:∀ {xs ys:List V} {us:List af},Vals xs us->Vals ys us->xs=ys
 | _,_,_,.nil,.nil=>rfl
 | _,_,_,.cons r t,.cons r' t'=>by rw [r.inj r',Vals.inj t t']
section
variable {X:Cx} {pins:List (ah×Obj)} {σ:St} {H:Hp} {s:ak} {a:ah} {xs ys:List V}
theorem SqL.of {K:au} (h:H a=some (.lst xs)):SqL K H a xs:=.inl (.inl h)
theorem SqT.of {K:au} (h:H a=some (.tup xs)):SqT K H a xs:=.inl (.inl h)
theorem Inv.list (I:Inv X pins σ H s) (h:SqL X.K H a xs):∃ its:List af,Vals xs its/\PlainL s.heap a its.toArray/\xs.length<=sizeLine:=by
 rcases h with h | ⟨o,its,n,hk,hc,hd,hs,hz,r⟩
 ·obtain ⟨z,its,n,r,e⟩:=h.ok I.hok
  exact ⟨its,r,⟨_,n,e,rfl,rfl,rfl⟩,z⟩
 ·refine ⟨its.toList,r,⟨o,n,I.kIn a o hk,hc,hd,by simpa using hs⟩,?_⟩
  have e:=r.length;simp only [fk] at e;omega
theorem Inv.tuple (I:Inv X pins σ H s) (h:SqT X.K H a xs):∃ its:List af,Vals xs its/\Dl s.heap a its.toArray/\xs.length<=sizeLine:=by
 rcases h with h | ⟨o,its,n,hk,hc,hs,hz,r⟩
 ·obtain ⟨z,its,r,p⟩:=h.ok I.hok
  exact ⟨its,r,p.isTup,z⟩
 ·refine ⟨its.toList,r,⟨o,I.kIn a o hk,hc,n,by simpa using hs⟩,?_⟩
  have e:=r.length;simp only [fk] at e;omega
theorem Inv.list_inj (I:Inv X pins σ H s) (h:SqL X.K H a xs) (h':SqL X.K H a ys):xs=ys:=by
 obtain ⟨its,r,⟨o,n,e,_,_,d⟩,_⟩:=I.list h;obtain ⟨its',r',⟨o',n',e',_,_,d'⟩,_⟩:=I.list h';rw [e] at e';cases e';rw [d] at d';injection d' with d1 _
 have:its=its':=by simpa using congrArg FE d1
 subst this;exact r.inj r'
theorem Inv.tuple_inj (I:Inv X pins σ H s) (h:SqT X.K H a xs) (h':SqT X.K H a ys):xs=ys:=by
 obtain ⟨its,r,⟨o,e,_,n,d⟩,_⟩:=I.tuple h;obtain ⟨its',r',⟨o',e',_,n',d'⟩,_⟩:=I.tuple h';rw [e] at e';cases e';rw [d] at d';injection d' with d1 _
 have:its=its':=by simpa using congrArg FE d1
 subst this;exact r.inj r'
end
abbrev Cx.wish (X:Cx) (E:af->ak->Prop):Cx:={ X with xe:=E }
abbrev Cx.nox (X:Cx):Cx:=X.wish λ _ _=>False
theorem Cx.Ok.wish {X:Cx} (ok:X.Ok) (E:af->ak->Prop):(X.wish E).Ok :=
 ⟨ok.mod,ok.kind,ok.glob,ok.blt,ok.above,ok.inj,ok.has,ok.cab,ok.hd,ok.frames,ok.stk,ok.exf,ok.bs,ok.bsz,ok.noex,ok.exfs,ok.funs,ok.frf⟩
theorem Cx.Ok.unwish {X:Cx} {E:af->ak->Prop} (ok:(X.wish E).Ok):X.Ok :=
 ⟨ok.mod,ok.kind,ok.glob,ok.blt,ok.above,ok.inj,ok.has,ok.cab,ok.hd,ok.frames,ok.stk,ok.exf,ok.bs,ok.bsz,ok.noex,ok.exfs,ok.funs,ok.frf⟩
section
variable {X:Cx} {pins:List (ah×Obj)} {σ:St} {H:Hp} {s:ak} {E:af->ak->Prop}
theorem Inv.wish (I:Inv X pins σ H s) (E:af->ak->Prop):Inv (X.wish E) pins σ H s:=⟨I.ok.wish E,I.os,I.bare,I.base,I.loc,I.cell,I.free,I.freeC,I.pin,I.hok,I.len⟩
theorem Inv.unwish (I:Inv (X.wish E) pins σ H s):Inv X pins σ H s:=⟨I.ok.unwish,I.os,I.bare,I.base,I.loc,I.cell,I.free,I.freeC,I.pin,I.hok,I.len⟩
theorem SP.unwish {D:Ends} {f:Flow} {s':ak} (h:SP (X.wish E) pins D f s'):SP X pins D f s':=by
 cases f with
 | next=>obtain ⟨σ',H',I,q⟩:=h;exact ⟨σ',H',I.unwish,q⟩
 | brk=>obtain ⟨σ',H',I,q⟩:=h;exact ⟨σ',H',I.unwish,q⟩
 | cont=>obtain ⟨σ',H',I,q⟩:=h;exact ⟨σ',H',I.unwish,q⟩
 | ret u=>obtain ⟨v,σ',H',I,r,q⟩:=h;exact ⟨v,σ',H',I.unwish,r,q⟩
theorem PSs.nox {st:List jw} {t:TS} (h:PSs X.nox st t):PSs X st t:=λ pins s σ H D I hw =>
 lj (h pins s σ H D (I.wish _) hw) (λ _ _ q=>q.unwish) λ _ _ z=>jh z
end
section
variable {X:Cx} {st:jw} {rest:List jw} {t u:TS} {e:iQ} {te:TE} {pos:Pos}
def kNQ:TS:=λ D σ H=>D.nx σ H
def kPF (t u:TS):TS:=λ D σ H=>t { D with nx:=u D } σ H
theorem qX:PSs X [] kNQ:=λ _ _ σ H _ I h=>wy ⟨σ,H,I,h⟩
theorem kD (h1:PS X st t) (h2:PSs X rest u):PSs X (st::rest) (kPF t u):=by
 intro pins s σ H D I h;refine DG (thn (h1 pins s σ H { D with nx:=u D } I h) λ f s1 q=>?_)
 cases f with
 | next =>
  obtain ⟨σ',H',I',q⟩:=q;exact h2 pins s1 σ' H' D I' q
 | ret v=>exact q
 | brk=>exact q
 | cont=>exact q
theorem kJ (h1:PS X st t):PSs X [st] t:=by
 intro pins s σ H D I h;refine DG (thn (h1 pins s σ H D I h) λ f s1 q=>?_)
 cases f with
 | next=>exact wy q
 | ret v=>exact q
 | brk=>exact q
 | cont=>exact q
theorem Inv.quiet {pins:List (ah×Obj)} {σ:St} {H:Hp} {s:ak} (I:Inv X pins σ H s):interactive X.env=false:=by simp [interactive,I.ok.kind]
def kNR (te:TE):TS:=λ D σ H=>te σ H λ _ H1=>D.nx σ H1
theorem qB (he:PE X e te) (hs:swapsWith e none pos.line X.env=pure false:=by rfl):PS X (.Expr e pos) (kNR te):=by
 intro pins s σ H D I h;exact wpAny_Expr_any (thn (he pins s σ H _ I h) λ v s1 ⟨x,H1,I1,r1,q1⟩=>⟨σ,H1,I1,q1⟩) I.quiet hs
def kNO (te:TE):TS:=λ D σ H=>te σ H D.rt
theorem kW (he:PE X e te):PS X (.Return (some e) pos) (kNO te):=by
 intro pins s σ H D I h;exact wpAny_Return_some (thn (he pins s σ H _ I h) λ v s1 ⟨x,H1,I1,r1,q1⟩=>⟨x,σ,H1,I1,r1,q1⟩)
def kPJ (c:TT) (t u:TS):TS:=λ D σ H=>c σ H λ b H1=>if b=true then t D σ H1 else u D σ H1
theorem yT {c:iQ} {a b:List jw} {tc:TT} (hc:PT X c tc) (ha:PSs X a t) (hb:PSs X b u):PS X (.If c a b pos) (kPJ tc t u):=by
 intro pins s σ H D I h;refine wpAny_If (thn (hc pins s σ H _ I h) λ d s1 ⟨H1,I1,q1⟩=>?_)
 cases d with
 | true=>exact ha pins s1 σ H1 D I1 q1
 | false=>exact hb pins s1 σ H1 D I1 q1
end
abbrev TG:=V->St->Hp->(St->Hp->Prop)->Prop
abbrev TGs:=List V->St->Hp->(St->Hp->Prop)->Prop
def PG (X:Cx) (target:iQ) (t:TG):Prop :=
 ∀ (pins:List (ah×Obj)) (s:ak) (σ:St) (H:Hp) (v:V) (u:af) (Q:St->Hp->Prop),Inv X pins σ H s->RelV v u->t v σ H Q ->
  de (model X.prog X.w) X.A (assign target X.env u) (λ _ s'=>∃ σ' H',Inv X pins σ' H' s'/\Q σ' H') X.xe s
def PGs (X:Cx) (ts:List iQ) (t:TGs):Prop :=
 ∀ (pins:List (ah×Obj)) (s:ak) (σ:St) (H:Hp) (vs:List V) (us:List af) (Q:St->Hp->Prop),Inv X pins σ H s->Vals vs us->t vs σ H Q ->
  de (model X.prog X.w) X.A (assignInOrder ((assignEach ts X.env).map (·.2)) us) (λ _ s'=>∃ σ' H',Inv X pins σ' H' s'/\Q σ' H') X.xe s
abbrev kNI:=V->V->V->Hp->(Hp->Prop)->Prop
def kPC (X:Cx) (t:kNI):Prop :=
 ∀ (pins:List (ah×Obj)) (s:ak) (σ:St) (H:Hp) (o i v:V) (ov iv u:af) (Q:Hp->Prop),Inv X pins σ H s->RelV o ov->RelV i iv->RelV v u->t o i v H Q ->
  de (model X.prog X.w) X.A (setItem ov iv u) (λ _ s'=>∃ H',Inv X pins σ H' s'/\Q H') X.xe s
section
variable {X:Cx} {pos:Pos}
def sP (i:Nat):TG:=λ v σ H Q=>Q (σ.set i (some v)) H
theorem kM {i:Nat} {x:Str} (hN:X.N.Nodup) (hi:X.N[i]?=some x) (hx:Loc X.env.scope x) (hf:X.fn x=true\/X.env.scope.names.lookup x=some .local:=by first | exact .inl rfl | exact .inr rfl | assumption):PG X (.Name x pos) (sP i):=by
 intro pins s σ H v u Q I r h;exact CY (uE I hN hi hx r (λ s' I'=>⟨_,H,I',h⟩) hf)
def kPZ:TGs:=λ vs σ H Q=>vs=[]/\Q σ H
def kOV (t:TG) (u:TGs):TGs:=λ vs σ H Q=>∃ v r,vs=v::r/\t v σ H λ σ' H'=>u r σ' H' Q
theorem jG:PGs X [] kPZ:=by
 intro pins s σ H vs us Q I r h;obtain ⟨e,h⟩:=h;subst e;cases r
 exact CZ ⟨σ,H,I,h⟩
theorem kU {e:iQ} {es:List iQ} {t:TG} {u:TGs} (h1:PG X e t) (h2:PGs X es u)
  (hs:(assignEach (e::es) X.env).map (·.2)=assign e X.env::(assignEach es X.env).map (·.2):=by rfl):PGs X (e::es) (kOV t u):=by
 intro pins s σ H vs us Q I r h;obtain ⟨v,vr,e1,h⟩:=h;subst e1
 cases r with
 | cons r rr =>
  rw [hs];refine AJ (thn (h1 pins s σ H _ _ _ I r h) λ _ s1 ⟨σ1,H1,I1,q1⟩=>?_);exact h2 pins s1 σ1 H1 _ _ Q I1 rr q1
def kGY (K:au) (n:Nat) (t:TGs):TG:=λ v σ H Q=>∃ a xs,v=.ref a/\SqT K H a xs/\xs.length=n/\t xs σ H Q
theorem xQ {es:List iQ} {k:Nat} {t:TGs} {n:Nat} (hc:X.calm=true) (h:PGs X es t)
  (hn:(assignEach es X.env).length=n:=by rfl) (hst:(assignEach es X.env).findIdx? (·.1)=none:=by rfl):PG X (.Tuple es k pos) (kGY X.K n t):=by
 intro pins s σ H v u Q I r hw;obtain ⟨a,xs,e1,hq,hl,hw⟩:=hw;subst e1;cases r
 obtain ⟨its,rv,ht,hz⟩:=I.tuple hq;refine assign_Tuple_tuple (I.ok.hd hc) ht (by simp [hn,<-hl,rv.length]) hst λ h' hx=>?_;have I1:Inv X pins σ H { s with heap:=h' }:=I.kept (t':=s.toks) λ b o e=>hx b o (eM (cf e)) e
 exact h pins _ σ H xs _ Q I1 (by simpa using rv) hw
def kPY (to ti:TE) (t:kNI):TG:=λ v σ H Q=>to σ H λ o H1=>ti σ H1 λ i H2=>t o i v H2 λ H3=>Q σ H3
theorem gX {o i:iQ} {to ti:TE} {t:kNI} (ho:PE X o to) (hi:PE X i ti) (hs:kPC X t)
  (ha:∀ v,assign (.Subscript o i pos) X.env v=(do
   let ov <-holding [v] (eval o X.env)
   let iv <-holding [v,ov] (eval i X.env)
   standAt pos
   holding [v,ov,iv] (setItem ov iv v)
   release [v,ov,iv] []):=by intro _;rfl):PG X (.Subscript o i pos) (kPY to ti t):=by
 intro pins s σ H v u Q I r h;rw [ha];refine ae (iO (thn (ho pins s σ H _ I h) λ ov s1 ⟨x,H1,I1,r1,q1⟩=>?_));refine ae (iO (thn (hi pins s1 σ H1 _ I1 q1) λ iv s2 ⟨y,H2,I2,r2,q2⟩=>?_));refine ae (pf (ae (iO (thn (hs pins s2 σ H2 x y v ov iv u _ I2 r1 r2 r q2) λ _ s3 ⟨H3,I3,q3⟩=>?_))));exact wpAny_release ⟨σ,H3,I3,q3⟩
def kLE (te:TE) (g:TG):TS:=λ D σ H=>te σ H λ x H1=>g x σ H1 D.nx
theorem xZ {tg e:iQ} {te:TE} {g:TG} (he:PE X e te) (hg:PG X tg g) (hs:swapsWithSole [tg] e pos.line X.env=pure false:=by rfl) (hw:swappedStores [tg] e X.env=pure none:=by rfl)
  (h1:(assignEach [tg] X.env).map (·.2)=[assign tg X.env]:=by rfl):PS X (.Assign [tg] e pos) (kLE te g):=by
 intro pins s σ H D I h;refine wpAny_Assign_stores (thn (he pins s σ H _ I h) λ v s1 ⟨x,H1,I1,r1,q1⟩=>?_) hs hw;rw [h1];exact thn (hg pins s1 σ H1 x v _ I1 r1 q1) λ _ s2 q=>q
theorem kT {i:Nat} {x:Str} {e:iQ} {te:TE} {pos':Pos} (hN:X.N.Nodup) (hi:X.N[i]?=some x) (hx:Loc X.env.scope x) (he:PE X e te) (hs:swapsWith e (some (.Name x pos')) pos.line X.env=pure false:=by rfl) (hf:X.fn x=true\/X.env.scope.names.lookup x=some .local:=by first | exact .inl rfl | exact .inr rfl | assumption) :
  PS X (.Assign [.Name x pos'] e pos) (kLE te (sP i)):=by
 intro pins s σ H D I h;refine wpAny_Assign_Name (thn (he pins s σ H _ I h) λ v s1 ⟨y,H1,I1,r1,q1⟩=>?_) hs;exact uE I1 hN hi hx r1 (λ s2 I2=>⟨_,H1,I2,q1⟩) hf
def kPG (i j:Nat) (ta:TA):TS:=λ D σ H=>ta σ H λ vs H1=>∃ v w,vs=[v,w]/\D.nx ((σ.set i (some v)).set j (some w)) H1
theorem kFZ {i j:Nat} {x y:Str} {a b:iQ} {ta:TA} {px py pt:Pos} {kt k2 pt2} (hc:X.calm=true) (hN:X.N.Nodup) (hi:X.N[i]?=some x) (hj:X.N[j]?=some y) (hij:i≠j)
  (hx:X.env.scope.names.lookup x=some .local) (hy:X.env.scope.names.lookup y=some .local) (ha:PA X [a,b] ta)
  (hw:swappedStores [.Tuple [.Name x px,.Name y py] kt pt] (.Tuple [a,b] k2 pt2) X.env=pure (some [x,y]))
  (hs:swapsWithSole [.Tuple [.Name x px,.Name y py] kt pt] (.Tuple [a,b] k2 pt2) pos.line X.env=pure false:=by rfl) :
  PS X (.Assign [.Tuple [.Name x px,.Name y py] kt pt] (.Tuple [a,b] k2 pt2) pos) (kPG i j ta):=by
 intro pins s σ H D I h;rw [exec_Assign_arm];refine ae (pf ?_);rw [hs];refine ae (av ?_);rw [if_neg (by decide)];refine ae (Tuple_ (thn (ha _ pins s σ H _ I h) λ us s1 ⟨vs,H1,I1,r1,q1⟩=>?_));obtain ⟨v,w,e1,q1⟩:=q1;subst e1
 obtain ⟨u1,u2,rfl,rv,rw'⟩ : ∃ u1 u2,us=[u1,u2]/\RelV v u1/\RelV w u2:=by
  cases r1 with
  | cons p q =>
   cases q with
   | cons p' q' =>
    cases q'
    exact ⟨_,_,rfl,p,p'⟩
 refine iR ?_ yS2;have I2:Inv X pins σ H1 { s1 with heap:=s1.heap.push { cls:=.type "tuple",data:=.seq [u1,u2].toArray } }:=I1.kept (t':=s1.toks) λ b o e=>ao _ e
 rw [hw];refine ae (av ?_);show de (model X.prog X.w) X.A (do rule "assign.swapped-stores";let items <-unpackItems (.ref s1.heap.objs.size) 2 none;assignInOrder [λ v=>bindName X.env y v,λ v=>bindName X.env x v] items.reverse;pure Fo) _ _ _;refine ae (yo (ae (unpackItems_tuple (items:=#[u1,u2]) (I.ok.hd hc) (IsTup.new s1.heap _) λ h' hx'=>?_)));have I3:=I2.kept (h':=h') (t':=s1.toks) λ b o e=>hx' b o (eM (cf e)) e;show de _ _ (assignInOrder [λ v=>bindName X.env y v,λ v=>bindName X.env x v] [u2,u1] >>= λ _=>pure Fo) _ _ _;refine ae (AJ (Dp (uE I3 hN hj (.inl hy) rw' (λ s2 I4=>?_) (.inr hy))));refine AJ (Dp (uE I4 hN hi (.inl hx) rv (λ s3 I5=>CZ (av ?_)) (.inr hx)));rw [List.set_comm _ _ (og hij)] at I5;exact ⟨_,H1,I5,q1⟩
def kFG (c:TT) (tb:TS):TS:=λ D σ H=>∃ W:Nat->St->Hp->Prop,(∃ m,W m σ H)/\∀ m σ H,W m σ H ->
 c σ H λ b H1=>if b=true then ∃ N:St->Hp->Prop,(∀ σ' H',N σ' H'->∃ m',m'<m/\W m' σ' H')/\tb { D with nx:=N,ct:=N,bk:=D.nx } σ H1 else D.nx σ H1
theorem bL {c:iQ} {body:List jw} {tc:TT} {tb:TS} (hp:PassesOwn (model X.prog X.w) X.A X.env X.xe) (hc:PT X c tc) (hb:PSs X body tb):PS X (.While c body [] pos) (kFG tc tb):=by
 intro pins s σ H D I h;obtain ⟨W,⟨m0,w0⟩,turn⟩:=h;refine wpAny_While (codeAny_whileLoop (λ n s'=>∃ σ' H',Inv X pins σ' H' s'/\W n σ' H') ?_ m0 ⟨σ,H,I,w0⟩);rintro n s1 ⟨σ1,H1,I1,w1⟩;refine qk hp (thn (hc pins s1 σ1 H1 _ I1 (turn n σ1 H1 w1)) λ b s2 ⟨H2,I2,q2⟩=>?_)
 cases b with
 | true =>
  obtain ⟨N,hN,q2⟩:=q2;rw [if_pos rfl];refine qk hp (thn (hb pins s2 σ1 H2 _ I2 q2) λ f s3 q3=>?_)
  cases f with
  | next =>
   obtain ⟨σ3,H3,I3,n3⟩:=q3;obtain ⟨m',hm,w3⟩:=hN σ3 H3 n3;exact ⟨m',hm,σ3,H3,I3,w3⟩
  | cont =>
   obtain ⟨σ3,H3,I3,n3⟩:=q3;obtain ⟨m',hm,w3⟩:=hN σ3 H3 n3;exact ⟨m',hm,σ3,H3,I3,w3⟩
  | brk=>exact q3
  | ret v=>exact q3
 | false =>
  rw [if_neg dj];exact wy ⟨σ1,H2,I2,q2⟩
end
structure It where
 go:Nat->Hp->Prop
 yld:Nat->Hp->V->Hp->Prop
 stop:Nat->Hp->Prop
def vY (X:Cx) (pins:List (ah×Obj)) (H:Hp) (b:ah):Prop :=
 H b=none/\b≠X.env.locals/\b∉X.fs/\(b∈X.ex\/X.s₀.heap.objs.size<=b)/\(∀ x c,X.env.cells.lookup x=some c->c≠b)/\∀ p∈X.pn++pins,p.1≠b
theorem Inv.fpOk {X:Cx} {pins:List (ah×Obj)} {σ:St} {H H':Hp} {s:ak} {b:ah} (I:Inv X pins σ H s) (hb:s.heap.objs.size<=b) (hn:H' b=none):vY X pins H' b:=by
 refine ⟨hn,jm (cn I.lt hb),I.nofs hb,.inr (je I.sz hb),λ x c e z=>?_,λ p hp z=>?_⟩
 ·obtain ⟨v,q⟩:=I.cell x c e
  exact absurd (cn q.lt (by rw [z];exact hb)) (jj _)
 ·exact absurd (cn (cf (I.pin p hp).1) (by rw [z];exact hb)) (jj _)
structure Turn (P:eU) (w:gk) (K:au) (tg:iQ) (J:It) (fp:List ah) (it:ah) (tn:Nat->gw->Prop):Prop where
 mem:it∈fp
 obj:∀ i h,tn i h->∀ b∈fp,∃ o,h.get? b=some o/\∀ v,o.data≠.cell v
 keep:∀ i h h',tn i h->(∀ b∈fp,∀ o,h.get? b=some o->h'.get? b=some o)->tn i h'
 item:∀ (X:Cx),X.prog=P->X.w=w->X.K=K->X.calm=true->∀ (i:Nat) (pins:List (ah×Obj)) (s:ak) (σ:St) (H:Hp) (E:af->ak->Prop),Inv X pins σ H s->(∀ b∈fp,vY X pins H b)->tn i s.heap->J.go i H ->
  de (model P w) X.A (pyNext (.ref it)) (λ r s1=>∃ u,r=some u /\
   de (model P w) X.A (letOwnedTupleGo tg (.ref it) u) (λ _ s2=>∃ x H',Inv X pins σ H' s2/\RelV x u/\J.yld i H x H'/\tn (i+1) s2.heap/\∀ b∈fp,H' b=none) E s1) E s
 done:∀ (X:Cx),X.prog=P->X.w=w->X.K=K->X.calm=true->∀ (i:Nat) (pins:List (ah×Obj)) (s:ak) (σ:St) (H:Hp) (E:af->ak->Prop),Inv X pins σ H s->(∀ b∈fp,vY X pins H b)->tn i s.heap->J.stop i H ->
  de (model P w) X.A (pyNext (.ref it)) (λ r s1=>r=none/\Inv X pins σ H s1) E s
 self:∀ (A:eV) (i:Nat) (s:ak) (Q:af->ak->Prop) (E:af->ak->Prop),tn i s.heap->Q (.ref it) s->de (model P w) A (pyIter (.ref it)) Q E s
abbrev TI:=St->Hp->(It->Hp->Prop)->Prop
def PIE (X:Cx) (pins:List (ah×Obj)) (σ:St) (tg:iQ) (R:It->Hp->Prop) (itv:af) (s2:ak):Prop :=
 ∃ (it:ah) (fp:List ah) (tn:Nat->gw->Prop) (J:It) (H':Hp),itv=.ref it/\Inv X pins σ H' s2/\Turn X.prog X.w X.K tg J fp it tn/\tn 0 s2.heap/\(∀ b∈fp,vY X pins H' b)/\R J H'
def PI (X:Cx) (tg iter:iQ) (wi:TI):Prop :=
 ∀ (pins:List (ah×Obj)) (s:ak) (σ:St) (H:Hp) (R:It->Hp->Prop),Inv X pins σ H s->wi σ H R ->
  de (model X.prog X.w) X.A (eval iter X.env) (λ v s1=>de (model X.prog X.w) X.A (pyIter v) (PIE X pins σ tg R) X.xe s1) X.xe s
theorem kGX {M : tw} {A : eV} {E : af -> ak -> Prop} {s : ak} {tg : iQ} {it : ah} {u : af} {o : Obj} {n : String} {vs : Array af} {Q : Unit -> ak -> Prop} (ho : s.heap.get? it = some o) (hc : o.cls = .type n) (hd : o.data = .fields vs)
    (hn : ["enumerate", "zip", "dict_itemiterator", "dict_reverseitemiterator", "odict_iterator", "itertools.zip_longest", "itertools.pairwise"].contains n = false) (hQ : Q () s) : de M A (letOwnedTupleGo tg (.ref it) u) Q E s := by
  unfold letOwnedTupleGo
  cases tg <;> first
    | exact av hQ
    | (cases u <;> first
        | exact av hQ
        | (refine ae (wpAny_load ho ?_)
           rw [hc, hd];show de M A (if (["enumerate", "zip", "dict_itemiterator", "dict_reverseitemiterator", "odict_iterator", "itertools.zip_longest", "itertools.pairwise"].contains n && vs[0]? == some (rawInt _)) = true then _ else _) Q E s;rw [if_neg (by intro h; rw [hn, Dq] at h; cases h)];exact av hQ))
def Itl (K:au) (a:ah):It :=
 ⟨λ i H=>∃ xs x,SqL K H a xs/\xs[i]?=some x,λ i H x H'=>H'=H/\∀ xs,SqL K H a xs->xs[i]?=some x,λ i H=>∃ xs,SqL K H a xs/\xs.length<=i⟩
def Itt (K:au) (a:ah):It :=
 ⟨λ i H=>∃ xs x,SqT K H a xs/\xs[i]?=some x,λ i H x H'=>H'=H/\∀ xs,SqT K H a xs->xs[i]?=some x,λ i H=>∃ xs,SqT K H a xs/\xs.length<=i⟩
def Itr (lo:Int) (n:Nat):It:=⟨λ i _=>i<n,λ i H x H'=>H'=H/\x=.int (lo+i),λ i _=>n<=i⟩
theorem kDD {P:eU} {w:gk} {K:au} {tg:iQ} (a it:ah):Turn P w K tg (Itl K a) [it] it (λ i h=>h.IsListIter it a i) where
 mem:=by simp
 obj:=λ i h st b hb=>by
  have e:b=it:=by simpa using hb
  subst e;obtain ⟨o,e,c,d⟩:=st;exact ⟨o,e,λ v z=>by rw [d] at z;cases z⟩
 keep:=λ i h h' st k=>st.at λ o e=>k it (by simp) o e
 item:=by
  intro X hP hw hK hc i pins s σ H E I hf st hg;subst hP hw hK;obtain ⟨xs,x,hq,hx⟩:=hg;obtain ⟨its,rv,p,hz⟩:=I.list hq;obtain ⟨u,hu,ru⟩:=rv.get hx;obtain ⟨f0,f1,f2,f3,f4,f5⟩:=hf it (by simp);refine wpAny_pyNext_list_item st p.isList (x:=u) (by simpa using hu) λ h' st' sb=>?_;have I1:Inv X pins σ H { s with heap:=h' }:=I.turned (t':=s.toks) (λ b o hb e=>(sb.2 b hb).trans e) f0 f1 f3 f4 f5
  obtain ⟨o,e,c,d⟩:=id st';exact ⟨u,rfl,kGX (s:={ s with heap:=h' }) e c d (by decide) ⟨x,H,I1,ru,⟨rfl,λ ys hy=>by rw [I.list_inj hy hq];exact hx⟩,st',λ b hb=>(hf b hb).1⟩⟩
 done:=by
  intro X hP hw hK hc i pins s σ H E I hf st hg;subst hP hw hK;obtain ⟨xs,hq,hx⟩:=hg;obtain ⟨its,rv,p,hz⟩:=I.list hq;obtain ⟨f0,f1,f2,f3,f4,f5⟩:=hf it (by simp);have hl:=rv.length;exact wpAny_pyNext_list_end (I.ok.hd hc) st p.isList (by simp;omega) λ h' eb=>⟨rfl,I.turned (t':=s.toks) (λ b o hb e=>eb b o hb e) f0 f1 f3 f4 f5⟩
 self:=λ _ _ _ _ _ st h=>wpAny_pyIter_listiter st h
theorem tK {P:eU} {w:gk} {K:au} {tg:iQ} (a it:ah):Turn P w K tg (Itt K a) [it] it (λ i h=>h.IsTupleIter it a i) where
 mem:=by simp
 obj:=λ i h st b hb=>by
  have e:b=it:=by simpa using hb
  subst e;obtain ⟨o,e,c,d⟩:=st;exact ⟨o,e,λ v z=>by rw [d] at z;cases z⟩
 keep:=λ i h h' st k=>st.at λ o e=>k it (by simp) o e
 item:=by
  intro X hP hw hK hc i pins s σ H E I hf st hg;subst hP hw hK;obtain ⟨xs,x,hq,hx⟩:=hg;obtain ⟨its,rv,p,hz⟩:=I.tuple hq;obtain ⟨u,hu,ru⟩:=rv.get hx;obtain ⟨f0,f1,f2,f3,f4,f5⟩:=hf it (by simp);refine wpAny_pyNext_tuple_item st (show s.heap.IsTuple a its.toArray from p) (x:=u) (by simpa using hu) λ h' st' sb=>?_;have I1:Inv X pins σ H { s with heap:=h' }:=I.turned (t':=s.toks) (λ b o hb e=>(sb.2 b hb).trans e) f0 f1 f3 f4 f5
  obtain ⟨o,e,c,d⟩:=id st';exact ⟨u,rfl,kGX (s:={ s with heap:=h' }) e c d (by decide) ⟨x,H,I1,ru,⟨rfl,λ ys hy=>by rw [I.tuple_inj hy hq];exact hx⟩,st',λ b hb=>(hf b hb).1⟩⟩
 done:=by
  intro X hP hw hK hc i pins s σ H E I hf st hg;subst hP hw hK;obtain ⟨xs,hq,hx⟩:=hg;obtain ⟨its,rv,p,hz⟩:=I.tuple hq;obtain ⟨f0,f1,f2,f3,f4,f5⟩:=hf it (by simp);have hl:=rv.length;exact wpAny_pyNext_tuple_end (I.ok.hd hc) st (show s.heap.IsTuple a its.toArray from p) (by simp;omega) λ h' eb=>⟨rfl,I.turned (t':=s.toks) (λ b o hb e=>eb b o hb e) f0 f1 f3 f4 f5⟩
 self:=λ _ _ _ _ _ st h=>wpAny_pyIter_tupleiter st h
theorem tL {P:eU} {w:gk} {K:au} {tg:iQ} (it:ah) (lo:Int) (n:Nat):Turn P w K tg (Itr lo n) [it] it (λ i h=>IsRangeIter h it (lo+(i:Nat)*1) ((n:Int)-(i:Nat)) 1) where
 mem:=by simp
 obj:=λ i h st b hb=>by
  have e:b=it:=by simpa using hb
  subst e
  exact ⟨_,st,λ v z=>by
   have z':Data.fields _=Data.cell v:=z
   cases z'⟩
 keep:=λ i h h' st k=>k it (by simp) _ st
 item:=by
  intro X hP hw hK hc i pins s σ H E I hf st hg;subst hP hw hK;obtain ⟨f0,f1,f2,f3,f4,f5⟩:=hf it (by simp);have W:=Walks.range (prog:=X.prog) (w:=X.w) (I.ok.hd hc) it lo 1 n;refine W.item i s _ _ hg st λ v h' tk hv st' kk=>?_;obtain ⟨t,rfl⟩:=hv;have I1:Inv X pins σ H { s with heap:=h',toks:=tk }:=I.turned (λ b o hb e=>kk b o (by simpa using hb) e) f0 f1 f3 f4 f5
  refine ⟨_,rfl,kGX (s:={ s with heap:=h',toks:=tk }) (n:="range_iterator") st' rfl rfl (by decide) ⟨.int (lo+i),H,I1,⟨t,?_⟩,⟨rfl,rfl⟩,st',λ b hb=>(hf b hb).1⟩⟩
  rw [Int.mul_one]
 done:=by
  intro X hP hw hK hc i pins s σ H E I hf st hg;subst hP hw hK;obtain ⟨f0,f1,f2,f3,f4,f5⟩:=hf it (by simp);exact wpAny_pyNext_range_end (I.ok.hd hc) st (by have:n<=i:=hg;omega) λ h' eb=>⟨rfl,I.turned (t':=s.toks) (λ b o hb e=>eb b o hb e) f0 f1 f3 f4 f5⟩
 self:=λ _ _ _ _ _ st h=>wpAny_pyIter_rangeiter st h
section
variable {X:Cx} {tg:iQ}
def kOR (K:au) (tl:TE):TI:=λ σ H R=>tl σ H λ x H1=>∃ a,x=.ref a/\(∃ xs,SqL K H1 a xs)/\R (Itl K a) H1
def kOO (K:au) (tl:TE):TI:=λ σ H R=>tl σ H λ x H1=>∃ a,x=.ref a/\(∃ xs,SqT K H1 a xs)/\R (Itt K a) H1
theorem xX {l:iQ} {tl:TE} (hl:PE X l tl):PI X tg l (kOR X.K tl):=by
 intro pins s σ H R I h;refine thn (hl pins s σ H _ I h) λ v s1 ⟨x,H1,I1,r1,q1⟩=>?_;obtain ⟨a,e,⟨xs,hq⟩,q⟩:=q1;subst e;cases r1
 obtain ⟨its,rv,p,hz⟩:=I1.list hq;refine Ca p.isList ?_;refine ⟨s1.heap.objs.size,[s1.heap.objs.size],_,_,H1,rfl,I1.kept (t':=s1.toks) λ b o e=>ao _ e,kDD a _,⟨_,eK _ rfl,rfl,rfl⟩,λ b hb=>?_,q⟩;have e:b=s1.heap.objs.size:=by simpa using hb
 subst e;exact I1.fpOk (be _) (I1.hok.fresh (be _))
theorem gW {l:iQ} {tl:TE} (hl:PE X l tl):PI X tg l (kOO X.K tl):=by
 intro pins s σ H R I h;refine thn (hl pins s σ H _ I h) λ v s1 ⟨x,H1,I1,r1,q1⟩=>?_;obtain ⟨a,e,⟨xs,hq⟩,q⟩:=q1;subst e;cases r1
 obtain ⟨its,rv,p,hz⟩:=I1.tuple hq;refine uf (show s1.heap.IsTuple a its.toArray from p) ?_;refine ⟨s1.heap.objs.size,[s1.heap.objs.size],_,_,H1,rfl,I1.kept (t':=s1.toks) λ b o e=>ao _ e,tK a _,⟨_,eK _ rfl,rfl,rfl⟩,λ b hb=>?_,q⟩;have e:b=s1.heap.objs.size:=by simpa using hb
 subst e;exact I1.fpOk (be _) (I1.hok.fresh (be _))
theorem rV {pins:List (ah×Obj)} {σ:St} {H:Hp} {s:ak} {R:It->Hp->Prop} {E:af->ak->Prop} {lo hi:Int} {t u v:Tok} {tk:Nat} (I:Inv X pins σ H s) (h1 : -(2 ^ 62)<=lo) (h2:lo<2 ^ 62) (h3 : -(2 ^ 62)<=hi) (h4:hi<2 ^ 62)
  (q:R (Itr lo (hi-lo).toNat) H):de (model X.prog X.w) X.A (pyIter (.ref s.heap.objs.size)) (PIE X pins σ tg R) E { s with heap:=s.heap.push { cls:=.type "range",data:=.fields #[.int lo t,.int hi u,.int 1 v] },toks:=tk }:=by
 refine wpAny_pyIter_range (IsRange.new ..) (small_one h1 h2 h3 h4) ?_;have I1:Inv X pins σ H { s with heap:=s.heap.push { cls:=.type "range",data:=.fields #[.int lo t,.int hi u,.int 1 v] },toks:=tk }:=I.kept λ b o e=>ao _ e
 refine ⟨(s.heap.push { cls:=.type "range",data:=.fields #[.int lo t,.int hi u,.int 1 v] }).objs.size,[(s.heap.push { cls:=.type "range",data:=.fields #[.int lo t,.int hi u,.int 1 v] }).objs.size],_,_,H,rfl,
  I1.kept (t':=tk) λ b o e=>ao _ e,tL _ lo (hi-lo).toNat,?_,λ b hb=>?_,q⟩
 ·have e1:lo+((0:Nat):Int)*1=lo:=by simp
  have e2:(((hi-lo).toNat:Nat):Int)-((0:Nat):Int)=FA lo hi 1:=by rw [rangeSize_one];split<;>omega
  show IsRangeIter _ _ (lo+((0:Nat):Int)*1) ((((hi-lo).toNat:Nat):Int)-((0:Nat):Int)) 1;rw [e1,e2];exact eK _ rfl
 ·have e:b=(s.heap.push { cls:=.type "range",data:=.fields #[.int lo t,.int hi u,.int 1 v] }).objs.size:=by simpa using hb
  subst e;exact I1.fpOk (be _) (I1.hok.fresh (be _))
def kOQ (ta:TA):TI:=λ σ H R=>ta σ H λ vs H1=>∃ j:Int,vs=[.int j]/\-(2 ^ 62)<=j/\j<2 ^ 62/\R (Itr 0 j.toNat) H1
def kOP (ta:TA):TI:=λ σ H R=>ta σ H λ vs H1=>∃ i j:Int,vs=[.int i,.int j]/\(-(2 ^ 62)<=i/\i<2 ^ 62/\-(2 ^ 62)<=j/\j<2 ^ 62)/\R (Itr i (j-i).toNat) H1
theorem jJ {a:iQ} {ta:TA} {p pos:Pos} (hg:Gl X "range") (hm:X.mg "range" = none) (ha:PA X [a] ta) (hs:starEach [a] X.env=[(false,eval a X.env)]:=by rfl):PI X tg (.Call (.Name "range" p) [a] [] pos) (kOQ ta):=by
 intro pins s σ H R I h;refine Call_ (aR I hg hm boot_range (pe (thn (ha pos pins s σ H _ I h) λ us s1 ⟨vs,H1,I1,r1,q1⟩=>?_) hs rfl));obtain ⟨j,e,q1,q2,q⟩:=q1;subst e
 cases r1 with
 | cons r rr =>
  cases rr
  obtain ⟨t,rfl⟩:=r;exact call_range_1 (rV I1 (by omega) (by omega) q1 q2 (by simpa using q))
theorem kDN {a b:iQ} {ta:TA} {p pos:Pos} (hg:Gl X "range") (hm:X.mg "range" = none) (ha:PA X [a,b] ta) (hs:starEach [a,b] X.env=[(false,eval a X.env),(false,eval b X.env)]:=by rfl) (hs2:starEach [b] X.env=[(false,eval b X.env)]:=by rfl) :
  PI X tg (.Call (.Name "range" p) [a,b] [] pos) (kOP ta):=by
 intro pins s σ H R I h;refine Call_ (aR I hg hm boot_range (pe (thn (ha pos pins s σ H _ I h) λ us s1 ⟨vs,H1,I1,r1,q1⟩=>?_) (by rw [hs,hs2]) (by rw [hs2];rfl)));obtain ⟨i,j,e,⟨q1,q2,q3,q4⟩,q⟩:=q1;subst e
 cases r1 with
 | cons r rr =>
  cases rr with
  | cons r' rr =>
   cases rr
   obtain ⟨t,rfl⟩:=r;obtain ⟨t',rfl⟩:=r';exact call_range_2 (rV I1 q1 q2 q3 q4 q)
def kPK (wi:TI) (g:TG) (tb:TS):TS:=λ D σ H=>wi σ H λ J H1=>∃ W:Nat->Nat->St->Hp->Prop,(∃ m,W 0 m σ H1)/\∀ i m σ H,W i m σ H ->
 (J.stop i H/\D.nx σ H)\/(J.go i H/\∃ N:St->Hp->Prop,(∀ σ' H',N σ' H'->∃ m',m'<m/\W (i+1) m' σ' H')/\∀ x H',J.yld i H x H'->g x σ H' λ σ2 H2=>tb { D with nx:=N,ct:=N,bk:=D.nx } σ2 H2)
def oY (fp:List ah) (h:gw):List (ah×Obj):=fp.filterMap λ b=>(h.get? b).map λ o=>(b,o)
theorem vS {fp:List ah} {h:gw} {b:ah} {o:Obj} (hb:b∈fp) (e:h.get? b=some o):(b,o)∈oY fp h:=CM.mpr ⟨b,hb,by rw [e];rfl⟩
theorem kDT {fp:List ah} {h:gw} {p:ah×Obj} (hp:p∈oY fp h):p.1∈fp/\h.get? p.1=some p.2:=by
 obtain ⟨b,hb,e⟩:=CM.mp hp
 cases q:h.get? b with
 | none=>rw [q] at e;cases e
 | some o =>
  rw [q] at e;have e':(b,o)=p:=du e;subst e';exact ⟨hb,q⟩
theorem Inv.pinned {pins:List (ah×Obj)} {σ:St} {H:Hp} {s:ak} {fp:List ah} (I:Inv X pins σ H s) (hf:∀ b∈fp,vY X pins H b) (ho:∀ b∈fp,∃ o,s.heap.get? b=some o/\∀ v,o.data≠.cell v):Inv X (pins++oY fp s.heap) σ H s :=
 I.pins_of λ p hp=>(eY.mp hp).elim (λ z=>I.pin p (fu _ z)) λ z=>by
  obtain ⟨hb,e⟩:=kDT z;obtain ⟨f0,f1,f2,_⟩:=hf p.1 hb;obtain ⟨o,e',d⟩:=ho p.1 hb;rw [e] at e';cases e';exact ⟨e,f0,f1,f2,d⟩
theorem Inv.unpinned {pins pl:List (ah×Obj)} {σ:St} {H:Hp} {s:ak} (I:Inv X (pins++pl) σ H s):Inv X pins σ H s:=I.pins_of λ p hp=>I.pin p (fu _ (iJ _ hp))
theorem xP {iter:iQ} {body:List jw} {wi:TI} {g:TG} {tb:TS} {pos:Pos} (hp:PassesOwn (model X.prog X.w) X.A X.env X.xe) (hc:X.calm=true) (hi:PI X tg iter wi) (hg:PG X tg g) (hb:PSs X body tb)
  (hs:∀ x,foldedSetIterable iter X.env x=pure x:=by intro _;rfl):PS X (.For tg iter body [] pos) (kPK wi g tb):=by
 intro pins s σ H D I h;refine wpAny_For (thn (hi pins s σ H _ I h) λ v s1 h1=>thn h1 λ itv s2 h2=>?_) hs;obtain ⟨it,fp,tn,J,H2,e,I2,T,st2,f2,W,⟨m0,w0⟩,turn⟩:=h2
 subst e
 have stat:∀ {H':Hp},(∀ b∈fp,H' b=none)->∀ b∈fp,vY X pins H' b:=λ hn b hb=>⟨hn b hb,(f2 b hb).2⟩;refine codeAny_forLoop_any (λ n s'=>∃ i σ' H',Inv X pins σ' H' s'/\tn i s'.heap/\(∀ b∈fp,H' b=none)/\W i n σ' H') ?_ m0 ⟨0,σ,H2,I2,st2,λ b hb=>(f2 b hb).1,w0⟩;rintro n s3 ⟨i,σ3,H3,I3,st3,fr3,w3⟩;rcases turn i n σ3 H3 w3 with ⟨stop,qn⟩ | ⟨go,N,hN,step⟩
 ·refine qk hp (thn (T.done X rfl rfl rfl hc i pins s3 σ3 H3 X.xe I3 (stat fr3) st3 stop) λ r s4 ⟨hr,I4⟩=>?_)
  subst hr;exact wy ⟨σ3,H3,I4,qn⟩
 ·refine qk hp (thn (T.item X rfl rfl rfl hc i pins s3 σ3 H3 X.xe I3 (stat fr3) st3 go) λ r s4 ⟨u,hr,h4⟩=>?_)
  subst hr;refine qk hp (thn h4 λ _ s5 ⟨x,H5,I5,r5,y5,st5,fr5⟩=>?_);have I5':=I5.pinned (stat fr5) (T.obj _ _ st5);refine qk hp (thn (hg _ s5 σ3 H5 x u _ I5' r5 (step x H5 y5)) λ _ s6 ⟨σ6,H6,I6,q6⟩=>?_);refine qk hp (thn (hb _ s6 σ6 H6 _ I6 q6) λ f s7 q7=>?_)
  have again:∀ {σ7:St} {H7:Hp},Inv X (pins++oY fp s5.heap) σ7 H7 s7->N σ7 H7->∃ m,m<n/\∃ i σ' H',Inv X pins σ' H' s7/\tn i s7.heap/\(∀ b∈fp,H' b=none)/\W i m σ' H':=λ {σ7 H7} I7 n7=>by
   obtain ⟨m',hm,w7⟩:=hN σ7 H7 n7;refine ⟨m',hm,i+1,σ7,H7,I7.unpinned,T.keep _ _ _ st5 λ b hb o e=>(I7.pin (b,o) (fu _ (fu _ (vS hb e)))).1,λ b hb=>?_,w7⟩;obtain ⟨o,e,d⟩:=T.obj _ _ st5 b hb;exact (I7.pin (b,o) (fu _ (fu _ (vS hb e)))).2.1
  cases f with
  | next=>obtain ⟨σ7,H7,I7,n7⟩:=q7;exact again I7 n7
  | cont=>obtain ⟨σ7,H7,I7,n7⟩:=q7;exact again I7 n7
  | brk=>obtain ⟨σ7,H7,I7,q7⟩:=q7;exact ⟨σ7,H7,I7.unpinned,q7⟩
  | ret v=>obtain ⟨x7,σ7,H7,I7,r7,q7⟩:=q7;exact ⟨x7,σ7,H7,I7.unpinned,r7,q7⟩
end
theorem lP {K:au} {a:ah} {xs:List V} {g:TG} {tb:TS} {D:Ends} {σ:St} {H:Hp} (Pv:Nat->St->Hp->Prop) (h0:Pv 0 σ H) (hl:∀ i σ H,i<=xs.length->Pv i σ H->SqL K H a xs)
  (hs:∀ i x σ H,xs[i]?=some x->Pv i σ H->g x σ H λ σ2 H2=>tb { D with nx:=Pv (i+1),ct:=Pv (i+1),bk:=D.nx } σ2 H2) (hd:∀ σ H,Pv xs.length σ H->D.nx σ H) :
  ∃ W:Nat->Nat->St->Hp->Prop,(∃ m,W 0 m σ H)/\∀ i m σ H,W i m σ H ->
   ((Itl K a).stop i H/\D.nx σ H)\/((Itl K a).go i H/\∃ N:St->Hp->Prop,(∀ σ' H',N σ' H'->∃ m',m'<m/\W (i+1) m' σ' H')/\∀ x H',(Itl K a).yld i H x H'->g x σ H' λ σ2 H2=>tb { D with nx:=N,ct:=N,bk:=D.nx } σ2 H2):=by
 refine ⟨λ i m σ H=>m=xs.length-i/\i<=xs.length/\Pv i σ H,⟨xs.length,by simp,iK _,h0⟩,?_⟩;rintro i m σ H ⟨rfl,hi,p⟩;have q:=hl i σ H hi p;by_cases hlt:i<xs.length
 ·refine .inr ⟨⟨xs,xs[i],q,by simp [hlt]⟩,Pv (i+1),λ σ' H' p'=>⟨xs.length-(i+1),by omega,rfl,hlt,p'⟩,λ x H' y=>?_⟩
  obtain ⟨e,y⟩:=y;subst e;exact hs i x σ _ (y xs q) p
 ·have e:i=xs.length:=by omega
  subst e;exact .inl ⟨⟨xs,q,be _⟩,hd σ H p⟩
theorem kCL {K:au} {a:ah} {xs:List V} {g:TG} {tb:TS} {D:Ends} {σ:St} {H:Hp} (Pv:Nat->St->Hp->Prop) (h0:Pv 0 σ H) (hl:∀ i σ H,i<=xs.length->Pv i σ H->SqT K H a xs)
  (hs:∀ i x σ H,xs[i]?=some x->Pv i σ H->g x σ H λ σ2 H2=>tb { D with nx:=Pv (i+1),ct:=Pv (i+1),bk:=D.nx } σ2 H2) (hd:∀ σ H,Pv xs.length σ H->D.nx σ H) :
  ∃ W:Nat->Nat->St->Hp->Prop,(∃ m,W 0 m σ H)/\∀ i m σ H,W i m σ H ->
   ((Itt K a).stop i H/\D.nx σ H)\/((Itt K a).go i H/\∃ N:St->Hp->Prop,(∀ σ' H',N σ' H'->∃ m',m'<m/\W (i+1) m' σ' H')/\∀ x H',(Itt K a).yld i H x H'->g x σ H' λ σ2 H2=>tb { D with nx:=N,ct:=N,bk:=D.nx } σ2 H2):=by
 refine ⟨λ i m σ H=>m=xs.length-i/\i<=xs.length/\Pv i σ H,⟨xs.length,by simp,iK _,h0⟩,?_⟩;rintro i m σ H ⟨rfl,hi,p⟩;have q:=hl i σ H hi p;by_cases hlt:i<xs.length
 ·refine .inr ⟨⟨xs,xs[i],q,by simp [hlt]⟩,Pv (i+1),λ σ' H' p'=>⟨xs.length-(i+1),by omega,rfl,hlt,p'⟩,λ x H' y=>?_⟩
  obtain ⟨e,y⟩:=y;subst e;exact hs i x σ _ (y xs q) p
 ·have e:i=xs.length:=by omega
  subst e;exact .inl ⟨⟨xs,q,be _⟩,hd σ H p⟩
theorem jX {lo:Int} {n:Nat} {g:TG} {tb:TS} {D:Ends} {σ:St} {H:Hp} (Pv:Nat->St->Hp->Prop) (h0:Pv 0 σ H)
  (hs:∀ i σ H,i<n->Pv i σ H->g (.int (lo+i)) σ H λ σ2 H2=>tb { D with nx:=Pv (i+1),ct:=Pv (i+1),bk:=D.nx } σ2 H2) (hd:∀ σ H,Pv n σ H->D.nx σ H) :
  ∃ W:Nat->Nat->St->Hp->Prop,(∃ m,W 0 m σ H)/\∀ i m σ H,W i m σ H ->
   ((Itr lo n).stop i H/\D.nx σ H)\/((Itr lo n).go i H/\∃ N:St->Hp->Prop,(∀ σ' H',N σ' H'->∃ m',m'<m/\W (i+1) m' σ' H')/\∀ x H',(Itr lo n).yld i H x H'->g x σ H' λ σ2 H2=>tb { D with nx:=N,ct:=N,bk:=D.nx } σ2 H2):=by
 refine ⟨λ i m σ H=>m=n-i/\i<=n/\Pv i σ H,⟨n,by simp,iK _,h0⟩,?_⟩;rintro i m σ H ⟨rfl,hi,p⟩;by_cases hlt:i<n
 ·refine .inr ⟨hlt,Pv (i+1),λ σ' H' p'=>⟨n-(i+1),by omega,rfl,hlt,p'⟩,λ x H' y=>?_⟩
  obtain ⟨e,y⟩:=y;subst e y;exact hs i σ _ hlt p
 ·have e:i=n:=by omega
  subst e;exact .inl ⟨be _,hd σ H p⟩
theorem aW {c:TT} {tb:TS} {D:Ends} {σ:St} {H:Hp} (Pv:St->Hp->Prop) (μ:St->Hp->Nat) (h0:Pv σ H)
  (hs:∀ σ H,Pv σ H->c σ H λ b H1=>if b=true then tb { D with nx:=λ σ' H'=>Pv σ' H'/\μ σ' H'<μ σ H,ct:=λ σ' H'=>Pv σ' H'/\μ σ' H'<μ σ H,bk:=D.nx } σ H1 else D.nx σ H1)
  (mono:∀ σ H Q Q',(∀ b H1,Q b H1->Q' b H1)->c σ H Q->c σ H Q'):kFG c tb D σ H:=by
 refine ⟨λ m σ H=>m=μ σ H/\Pv σ H,⟨_,rfl,h0⟩,?_⟩;rintro m σ H ⟨rfl,p⟩;refine mono σ H _ _ (λ b H1 q=>?_) (hs σ H p)
 cases b with
 | true=>exact ⟨_,λ σ' H' ⟨p',l⟩=>⟨_,l,rfl,p'⟩,q⟩
 | false=>exact q
abbrev R2:=V->V->Hp->VK->Prop
def OpR (X:Cx) (f:af->af->Sem af) (r:R2):Prop :=
 ∀ (pins:List (ah×Obj)) (s:ak) (σ:St) (H:Hp) (x y:V) (v u:af) (Q:VK),Inv X pins σ H s->RelV x v->RelV y u->r x y H Q ->
  de (model X.prog X.w) X.A (f v u) (EP X pins σ Q) X.xe s
def UnR (X:Cx) (f:af->Sem af) (r:V->Hp->VK->Prop):Prop :=
 ∀ (pins:List (ah×Obj)) (s:ak) (σ:St) (H:Hp) (x:V) (v:af) (Q:VK),Inv X pins σ H s->RelV x v->r x H Q ->
  de (model X.prog X.w) X.A (f v) (EP X pins σ Q) X.xe s
def xW (X:Cx) (f:af) (r:List V->Hp->VK->Prop):Prop :=
 ∀ (pins:List (ah×Obj)) (s:ak) (σ:St) (H:Hp) (xs:List V) (us:List af) (Q:VK),Inv X pins σ H s->Vals xs us->r xs H Q ->
  de (model X.prog X.w) X.A (call f us) (EP X pins σ Q) X.xe s
def kQD (X:Cx) (r:V->Hp->(Bool->Hp->Prop)->Prop):Prop :=
 ∀ (pins:List (ah×Obj)) (s:ak) (σ:St) (H:Hp) (x:V) (v:af) (Q:Bool->Hp->Prop),Inv X pins σ H s->RelV x v->r x H Q ->
  de (model X.prog X.w) X.A (truthy v) (TP X pins σ Q) X.xe s
def tOp (r:R2) (ta tb:TE):TE:=λ σ H Q=>ta σ H λ x H1=>tb σ H1 λ y H2=>r x y H2 Q
def tUn (r:V->Hp->VK->Prop) (ta:TE):TE:=λ σ H Q=>ta σ H λ x H1=>r x H1 Q
def rI (C:Int->Int->Prop) (g:Int->Int->V):R2:=λ x y H Q=>∃ i j,x=.int i/\y=.int j/\C i j/\Q (g i j) H
def rI0 (g:Int->Int->V):R2:=λ x y H Q=>∃ i j,x=.int i/\y=.int j/\Q (g i j) H
def rU (g:Int->V):V->Hp->VK->Prop:=λ x H Q=>∃ i,x=.int i/\Q (g i) H
section
variable {X:Cx} {a b c:iQ} {ta tb tc:TE} {pos:Pos}
theorem kND (ha:PE X a ta) (hb:PE X b tb) {pins:List (ah×Obj)} {s:ak} {σ:St} {H:Hp} {R:V->V->Hp->Prop} (I:Inv X pins σ H s)
  (h:ta σ H λ x H1=>tb σ H1 λ y H2=>R x y H2) {Q:af->ak->Prop} {f:af->af->Sem af}
  (hf:∀ v u s2 x y H2,Inv X pins σ H2 s2->RelV x v->RelV y u->R x y H2->de (model X.prog X.w) X.A (f v u) Q X.xe s2) :
  de (model X.prog X.w) X.A (eval a X.env) (λ v s₁=>de (model X.prog X.w) X.A (eval b X.env) (λ u s₂=>de (model X.prog X.w) X.A (f v u) Q X.xe s₂) X.xe s₁) X.xe s:=by
 refine thn (ha pins s σ H _ I h) λ v s1 ⟨x,H1,I1,r1,q1⟩=>?_;refine thn (hb pins s1 σ H1 _ I1 q1) λ u s2 ⟨y,H2,I2,r2,q2⟩=>?_;exact hf v u s2 x y H2 I2 r1 r2 q2
theorem qC {op:Operator} {r:R2} (ho:OpR X (binaryOp op) r) (ha:PE X a ta) (hb:PE X b tb):PE X (.BinOp a op b pos) (tOp r ta tb):=by
 intro pins s σ H Q I h;exact wpAny_BinOp (kND ha hb I h λ v u s2 x y H2 I2 rx ry q=>ho pins s2 σ H2 x y v u Q I2 rx ry q)
theorem kOI {op:UnaryOp} {r:V->Hp->VK->Prop} (ho:UnR X (unaryOp op) r) (ha:PE X a ta):PE X (.UnaryOp op a pos) (tUn r ta):=by
 intro pins s σ H Q I h;exact UnaryOp_ (thn (ha pins s σ H _ I h) λ v s1 ⟨x,H1,I1,r1,q1⟩=>ho pins s1 σ H1 x v Q I1 r1 q1)
theorem opI {f:af->af->Sem af} {C:Int->Int->Prop} {g:Int->Int->Int}
  (rule:∀ (i j:Int) (t u:Tok) (s:ak) (Q:af->ak->Prop) (E:af->ak->Prop),C i j->Q (.int (g i j) s.toks) { s with toks:=s.toks+1 }->de (model X.prog X.w) X.A (f (.int i t) (.int j u)) Q E s) :
  OpR X f (rI C λ i j=>.int (g i j)):=by
 intro pins s σ H x y v u Q I rx ry h;obtain ⟨i,j,rfl,rfl,hc,q⟩:=h;obtain ⟨t,rfl⟩:=rx;obtain ⟨t',rfl⟩:=ry;exact rule i j t t' s _ _ hc ⟨.int (g i j),H,I.tok _,⟨_,rfl⟩,q⟩
theorem kOL {f:af->af->Sem af} {g:Int->Int->Int}
  (rule:∀ (i j:Int) (t u:Tok) (s:ak) (Q:af->ak->Prop) (E:af->ak->Prop),Q (.int (g i j) s.toks) { s with toks:=s.toks+1 }->de (model X.prog X.w) X.A (f (.int i t) (.int j u)) Q E s) :
  OpR X f (rI0 λ i j=>.int (g i j)):=by
 intro pins s σ H x y v u Q I rx ry h;obtain ⟨i,j,rfl,rfl,q⟩:=h;obtain ⟨t,rfl⟩:=rx;obtain ⟨t',rfl⟩:=ry;exact rule i j t t' s _ _ ⟨.int (g i j),H,I.tok _,⟨_,rfl⟩,q⟩
theorem kLZ {f:af->af->Sem af} {g:Int->Int->Bool}
  (rule:∀ (i j:Int) (t u:Tok) (s:ak) (Q:af->ak->Prop) (E:af->ak->Prop),Q (.bool (g i j)) s->de (model X.prog X.w) X.A (f (.int i t) (.int j u)) Q E s) :
  OpR X f (rI0 λ i j=>.bl (g i j)):=by
 intro pins s σ H x y v u Q I rx ry h;obtain ⟨i,j,rfl,rfl,q⟩:=h;obtain ⟨t,rfl⟩:=rx;obtain ⟨t',rfl⟩:=ry;exact rule i j t t' s _ _ ⟨.bl (g i j),H,I,rfl,q⟩
def kQG (i j:Int):Prop:=0<j/\j<1073741824
def kQF (i j:Int):Prop:=0<=j/\j<=1000000/\i.natAbs<2 ^ 64
def CMul (i j:Int):Prop:=(-(2 ^ 64)<i/\i<2 ^ 64)\/(-(2 ^ 64)<j/\j<2 ^ 64)
theorem CMul.ok {i j:Int} (h:CMul i j):IntMulOk i j:=by
 rcases h with ⟨h1,h2⟩ | ⟨h1,h2⟩
 ·exact .of_left (intBits_le_64 h1 h2)
 ·exact .of_right (intBits_le_64 h1 h2)
theorem jM:OpR X (binaryOp .Add) (rI0 λ i j=>.int (i+j)):=kOL λ _ _ _ _ _ _ _ q=>add_int q
theorem dB:OpR X (binaryOp .Sub) (rI0 λ i j=>.int (i-j)):=kOL λ _ _ _ _ _ _ _ q=>sub_int q
theorem kAI:OpR X (binaryOp .Mult) (rI CMul λ i j=>.int (i*j)):=opI λ _ _ _ _ _ _ _ hc q=>mul_int q hc.ok
theorem kIV:OpR X (binaryOp .FloorDiv) (rI kQG λ i j=>.int (i / j)):=opI λ i j _ _ _ _ _ hc q=>by
 have h1:(0:Int)<j:=hc.1;have h2:j<1073741824:=hc.2;exact floordiv_int (by omega) (by rw [AK i (by omega)];exact q) (.inl (PyProof.noPylong_small (by omega)))
theorem pE:OpR X (binaryOp .Mod) (rI (λ _ j=>0<j) λ i j=>.int (i % j)):=opI λ i j _ _ _ _ _ hc q=>by
 have h1:(0:Int)<j:=hc;exact mod_int' (by omega) (by rw [AL i (by omega)];exact q)
theorem kLY:OpR X (binaryOp .Pow) (rI kQF λ i j=>.int (i ^ j.toNat)):=opI λ _ _ _ _ _ _ _ hc q=>pow_int_small hc.1 hc.2.1 hc.2.2 q
theorem unI {f:af->Sem af} {g:Int->Int}
  (rule:∀ (i:Int) (t:Tok) (s:ak) (Q:af->ak->Prop) (E:af->ak->Prop),Q (.int (g i) s.toks) { s with toks:=s.toks+1 }->de (model X.prog X.w) X.A (f (.int i t)) Q E s) :
  UnR X f (rU λ i=>.int (g i)):=by
 intro pins s σ H x v Q I rx h;obtain ⟨i,rfl,q⟩:=h;obtain ⟨t,rfl⟩:=rx;exact rule i t s _ _ ⟨.int (g i),H,I.tok _,⟨_,rfl⟩,q⟩
theorem kKX:UnR X (unaryOp .USub) (rU λ i=>.int (-i)):=unI λ _ _ _ _ _ q=>neg_int q
end
def kNT:V->V->Bool
 | .non,.non=>true | .non,.int _=>true | .int _,.non=>true | .non,.bl _=>true | .bl _,.non=>true | .non,.str _=>true | .str _,.non=>true
 | .int _,.int _=>true | .bl _,.bl _=>true | .str _,.str _=>true | .byt _,.byt _=>true
 | .int _,.str _=>true | .str _,.int _=>true | .bl _,.str _=>true | .str _,.bl _=>true
 | _,_=>false
def rEq:R2:=λ x y H Q=>kNT x y=true/\Q (.bl (decide (x=y))) H
def rNe:R2:=λ x y H Q=>kNT x y=true/\Q (.bl (!decide (x=y))) H
theorem kCR {i j:Int}:decide (V.int i=V.int j)=(i == j):=by
 rw [jl];simp
theorem kHJ {i j:Bool}:decide (V.bl i=V.bl j)=(i == j):=by
 rw [jl];simp
theorem kCQ {i j:Str}:decide (V.str i=V.str j)=(i == j):=by
 rw [jl];simp
theorem kCS {i j:Array UInt8}:decide (V.byt i=V.byt j)=(i.toList == j.toList):=by
 rw [jl];cases i
 cases j
 simp
section
variable {X:Cx} {a b c:iQ} {ta tb tc:TE} {pos:Pos}
theorem qH {pins:List (ah×Obj)} {σ:St} {H:Hp} {s:ak} {Q:VK} {k k':Bool} (I:Inv X pins σ H s) (q:Q (.bl k) H) (e:k=k'):EP X pins σ Q (.bool k') s:=by
 subst e;exact ⟨.bl k,H,I,rfl,q⟩
theorem mX:OpR X (compareOp .Eq) rEq:=by
 intro pins s σ H x y v u Q I rx ry h;obtain ⟨hs,q⟩:=h
 cases x with
 | non =>
  cases rx
  cases y with
  | non=>cases ry;exact EK (qH I q (by simp))
  | bl j=>cases ry;exact EL (qH I q (by simp))
  | int j=>obtain ⟨t',rfl⟩:=ry;exact Eb (qH I q (by simp))
  | str j=>obtain ⟨t',rfl⟩:=ry;exact Ec (qH I q (by simp))
  | _=>exact absurd (show false=true from hs) dj
 | bl i =>
  cases rx
  cases y with
  | non=>cases ry;exact EM (qH I q (by simp))
  | bl j=>cases ry;exact eq_bool (qH I q kHJ)
  | str j=>obtain ⟨t',rfl⟩:=ry;exact EN (qH I q (by simp))
  | _=>exact absurd (show false=true from hs) dj
 | int i =>
  obtain ⟨t,rfl⟩:=rx
  cases y with
  | non=>cases ry;exact Ed (qH I q (by simp))
  | int j=>obtain ⟨t',rfl⟩:=ry;exact eq_int (qH I q kCR)
  | str j=>obtain ⟨t',rfl⟩:=ry;exact Ee (qH I q (by simp))
  | _=>exact absurd (show false=true from hs) dj
 | str i =>
  obtain ⟨t,rfl⟩:=rx
  cases y with
  | non=>cases ry;exact Ef (qH I q (by simp))
  | bl j=>cases ry;exact EO (qH I q (by simp))
  | int j=>obtain ⟨t',rfl⟩:=ry;exact Eg (qH I q (by simp))
  | str j=>obtain ⟨t',rfl⟩:=ry;exact eq_str (qH I q kCQ)
  | _=>exact absurd (show false=true from hs) dj
 | byt i =>
  obtain ⟨t,rfl⟩:=rx
  cases y with
  | byt j=>obtain ⟨t',rfl⟩:=ry;exact PySem.W.eq_bytes (qH I q kCS)
  | _=>exact absurd (show false=true from hs) dj
 | _=>cases y<;>exact absurd (show false=true from hs) dj
theorem gY:OpR X (compareOp .NotEq) rNe:=by
 intro pins s σ H x y v u Q I rx ry h;obtain ⟨hs,q⟩:=h
 cases x with
 | non =>
  cases rx
  cases y with
  | non=>cases ry;exact ER (qH I q (by simp))
  | bl j=>cases ry;exact ES (qH I q (by simp))
  | int j=>obtain ⟨t',rfl⟩:=ry;exact Eh (qH I q (by simp))
  | str j=>obtain ⟨t',rfl⟩:=ry;exact Ei (qH I q (by simp))
  | _=>exact absurd (show false=true from hs) dj
 | bl i =>
  cases rx
  cases y with
  | non=>cases ry;exact ET (qH I q (by simp))
  | bl j=>cases ry;exact ne_bool (qH I q (congrArg not kHJ))
  | str j=>obtain ⟨t',rfl⟩:=ry;exact EU (qH I q (by simp))
  | _=>exact absurd (show false=true from hs) dj
 | int i =>
  obtain ⟨t,rfl⟩:=rx
  cases y with
  | non=>cases ry;exact Ej (qH I q (by simp))
  | int j=>obtain ⟨t',rfl⟩:=ry;exact ne_int (qH I q (congrArg not kCR))
  | str j=>obtain ⟨t',rfl⟩:=ry;exact Ek (qH I q (by simp))
  | _=>exact absurd (show false=true from hs) dj
 | str i =>
  obtain ⟨t,rfl⟩:=rx
  cases y with
  | non=>cases ry;exact El (qH I q (by simp))
  | bl j=>cases ry;exact EV (qH I q (by simp))
  | int j=>obtain ⟨t',rfl⟩:=ry;exact Em (qH I q (by simp))
  | str j=>obtain ⟨t',rfl⟩:=ry;exact ne_str (qH I q (congrArg not kCQ))
  | _=>exact absurd (show false=true from hs) dj
 | byt i =>
  obtain ⟨t,rfl⟩:=rx
  cases y with
  | byt j=>obtain ⟨t',rfl⟩:=ry;exact PySem.W.ne_bytes (qH I q (congrArg not kCS))
  | _=>exact absurd (show false=true from hs) dj
 | _=>cases y<;>exact absurd (show false=true from hs) dj
theorem kGH:OpR X (compareOp .Lt) (rI0 λ i j=>.bl (decide (i<j))):=kLZ λ _ _ _ _ _ _ _ q=>lt_int q
theorem kOK:OpR X (compareOp .LtE) (rI0 λ i j=>.bl (decide (i<=j))):=kLZ λ _ _ _ _ _ _ _ q=>le_int q
theorem kGI:OpR X (compareOp .Gt) (rI0 λ i j=>.bl (decide (j<i))):=kLZ λ _ _ _ _ _ _ _ q=>gt_int q
theorem kIU:OpR X (compareOp .IsNot) (λ x y H Q=>y=.non/\Q (.bl (!decide (x=.non))) H):=by
 intro pins s σ H x y v u Q I rx ry h;obtain ⟨rfl,q⟩:=h;cases ry
 refine isnot_none_gen (qH I q ?_)
 cases x<;>first
  | (cases rx;rfl)
  | (obtain ⟨t,rfl⟩:=rx;rfl)
theorem qZ (b:iQ) {op:FR} (h:op≠.In:=by decide) (h2:op≠.NotIn:=by decide):behindInMarks op b=false:=by
 have e1:(op == CmpOp.In)=false:=by cases op<;>first | rfl | exact absurd rfl h
 have e2:(op == CmpOp.NotIn)=false:=by cases op<;>first | rfl | exact absurd rfl h2
 cases b<;>simp [behindInMarks,e1,e2]
theorem bN {op:FR} {r:R2} (ho:OpR X (compareOp op) r) (ha:PE X a ta) (hb:PE X b tb) (hm:behindInMarks op b=false):PE X (.Compare a [op] [b] pos) (tOp r ta tb):=by
 intro pins s σ H Q I h;exact wpAny_Compare1 (kND ha hb I h λ v u s2 x y H2 I2 rx ry q=>ho pins s2 σ H2 x y v u Q I2 rx ry q) hm
def kNN (t:TE):TT:=λ σ H Q=>t σ H λ x H'=>∃ k,x=.bl k/\Q k H'
theorem qI {op:FR} {r:R2} (ho:OpR X (compareOp op) r) (ha:PE X a ta) (hb:PE X b tb) (hm:behindInMarks op b=false):PT X (.Compare a [op] [b] pos) (kNN (tOp r ta tb)):=by
 intro pins s σ H Q I h
 refine Be (thn (ha pins s σ H _ I h) λ v s1 ⟨x,H1,I1,r1,q1⟩=>thn (hb pins s1 σ H1 _ I1 q1) λ u s2 ⟨y,H2,I2,r2,q2⟩ =>
  thn (ho pins s2 σ H2 x y v u _ I2 r1 r2 q2) λ c s3 ⟨z,H3,I3,r3,k,e,q3⟩=>?_) hm
 subst e;cases r3
 exact qr ⟨H3,I3,q3⟩
def kLD (r r':R2) (ta tb tc:TE):TE:=λ σ H Q=>ta σ H λ x H1=>tb σ H1 λ y H2=>r x y H2 λ z H3=>∃ k,z=.bl k /\
 (if k=true then tc σ H3 λ w' H4=>r' y w' H4 Q else Q (.bl false) H3)
theorem kGG {op op':FR} {r r':R2} (ho:OpR X (compareOp op) r) (ho':OpR X (compareOp op') r') (ha:PE X a ta) (hb:PE X b tb) (hc:PE X c tc)
  (hm:lastMarks [op,op'] [b,c]=false:=by with_unfolding_all rfl):PE X (.Compare a [op,op'] [b,c] pos) (kLD r r' ta tb tc):=by
 intro pins s σ H Q I h
 refine Compare_chain (thn (ha pins s σ H _ I h) λ v s1 ⟨x,H1,I1,r1,q1⟩=>chain_link (thn (hb pins s1 σ H1 _ I1 q1) λ u s2 ⟨y,H2,I2,r2,q2⟩ =>
  thn (ho pins s2 σ H2 x y v u _ I2 r1 r2 q2) λ d s3 ⟨z,H3,I3,r3,k,e,q3⟩=>?_)) hm
 subst e;cases r3
 refine qr ?_
 cases k with
 | false=>exact ite_ff ⟨.bl false,H3,I3,rfl,q3⟩
 | true=>exact ite_tt (chain_last (thn (hc pins s3 σ H3 _ I3 q3) λ w' s4 ⟨z',H4,I4,r4,q4⟩=>ho' pins s4 σ H4 y z' u w' Q I4 r2 r4 q4))
def kPB (K:au) (x:V) (H:Hp) (k:Bool):Prop :=
 match x with
 | .non=>k=false
 | .bl b=>k=b
 | .int i=>k=(i != 0)
 | .str y=>y.length<=sizeLine/\k=((y.length:Int) != 0)
 | .byt y=>y.size<=sizeLine/\k=((y.size:Int) != 0)
 | .ref p=>(∃ xs,SqL K H p xs/\k = !xs.isEmpty)\/(∃ xs,SqT K H p xs/\k = !xs.isEmpty)\/∃ kvs,H p=some (.dK kvs)/\k = !kvs.isEmpty
 | _=>False
theorem kAY {κ:Type} {kvs:List (κ×V)} {vs:List (κ×af)} (r:KV kvs vs):(!vs.isEmpty) = !kvs.isEmpty:=by
 cases r<;>rfl
theorem lL {xs:List V} {its:List af} (r:Vals xs its):(!its.toArray.isEmpty) = !xs.isEmpty:=by
 cases r<;>simp
theorem aQ:(sizeLine:Nat)<2 ^ 63:=by rw [vh];decide
theorem kKZ:kQD X (λ x H Q=>∃ k,kPB X.K x H k/\Q k H):=by
 intro pins s σ H x v Q I rx h;obtain ⟨k,e,q⟩:=h;have hl:=aQ;have hs:sizeLine=16777216:=vh
 cases x with
 | non =>
  cases rx
  have e':k=false:=e;subst e';exact truthy_none ⟨H,I,q⟩
 | bl b =>
  cases rx
  have e':k=b:=e;subst e';exact qr ⟨H,I,q⟩
 | int i =>
  obtain ⟨t,rfl⟩:=rx;have e':k=(i != 0):=e;subst e';exact PySem.P.truthy_int ⟨H,I,q⟩
 | str y =>
  obtain ⟨t,rfl⟩:=rx;obtain ⟨hy,e'⟩ : y.length<=sizeLine/\k=((y.length:Int) != 0):=e;subst e';exact PySem.P.truthy_str (by omega) ⟨H,I.tok _,q⟩
 | byt y =>
  obtain ⟨t,rfl⟩:=rx;obtain ⟨hy,e'⟩ : y.size<=sizeLine/\k=((y.size:Int) != 0):=e;subst e';exact PySem.W.truthy_bytes (by omega) ⟨H,I.tok _,q⟩
 | ref p =>
  cases rx
  have e':(∃ xs,SqL X.K H p xs/\k = !xs.isEmpty)\/(∃ xs,SqT X.K H p xs/\k = !xs.isEmpty)\/∃ kvs,H p=some (.dK kvs)/\k = !kvs.isEmpty:=e;rcases e' with ⟨xs,hx,e'⟩ | ⟨xs,hx,e'⟩ | ⟨kvs,hx,e'⟩
  ·subst e'
   obtain ⟨its,r,pl,hz⟩:=I.list hx;have hlen:=r.length;exact wpAny_truthy_list pl.isList (by simp only [eN];omega) ⟨H,I.tok _,by rw [lL r];exact q⟩
  ·subst e'
   obtain ⟨its,r,pl,hz⟩:=I.tuple hx;have hlen:=r.length;exact truthy_tuple pl (by simp only [eN];omega) ⟨H,I.tok _,by rw [lL r];exact q⟩
  ·subst e'
   obtain ⟨hz,hS,vs,r,m⟩ : kvs.length<=sizeLine/\(p == sysModules)=false/\∃ vs,KV kvs vs/\s.heap.DictOf (qN X.prog X.w) p vs:=I.hok p _ hx;have hlen:kvs.length=vs.length:=rm r;exact wpAny_truthy_dict hS m (by omega) ⟨H,I.tok _,by rw [kAY r];exact q⟩
 | _=>exact (show False from e).elim
theorem kFW (ha:PE X a ta) (he:∀ vZ,isTrue a X.env vZ=(do let v <-vZ;standAt a.pos;holding [v] (truthy v))) :
  PT X a (λ σ H Q=>ta σ H λ x H'=>∃ k,kPB X.K x H' k/\Q k H'):=by
 intro pins s σ H Q I h;exact isTrue_plain (thn (ha pins s σ H _ I h) λ v s1 ⟨x,H1,I1,r1,q1⟩=>kKZ pins s1 σ H1 x v Q I1 r1 q1) (he _)
theorem uA {x:V} {us:List af} (r:Vals [x] us):∃ u,us=[u]/\RelV x u:=by
 cases r with
 | cons r1 r2=>cases r2;exact ⟨_,rfl,r1⟩
theorem mN {x y:V} {us:List af} (r:Vals [x,y] us):∃ u w',us=[u,w']/\RelV x u/\RelV y w':=by
 cases r with
 | cons r1 r2 =>
  cases r2 with
  | cons r3 r4=>cases r4;exact ⟨_,_,rfl,r1,r3⟩
theorem kHN:xW X (.builtin "abs") (λ xs H Q=>∃ i,xs=[.int i]/\Q (.int (if i<0 then -i else i)) H):=by
 intro pins s σ H xs us Q I r h;obtain ⟨i,rfl,q⟩:=h;obtain ⟨u,rfl,t,rfl⟩:=uA r;exact call_abs_int λ u tk=>⟨.int (if i<0 then -i else i),H,I.tok _,⟨_,rfl⟩,q⟩
theorem nW (hc:X.calm=true):xW X (.builtin "max") (λ xs H Q=>∃ i j,xs=[.int i,.int j]/\Q (.int (if j>i then j else i)) H):=by
 intro pins s σ H xs us Q I r h;obtain ⟨i,j,rfl,q⟩:=h;obtain ⟨u,w',rfl,⟨t,rfl⟩,⟨t',rfl⟩⟩:=mN r;refine max_two_ints (I.ok.hd hc) λ h' tk k=>⟨_,H,I.kept k,?_,q⟩;by_cases hj:j>i
 ·rw [if_pos hj,if_pos hj];exact ⟨_,rfl⟩
 ·rw [if_neg hj,if_neg hj];exact ⟨_,rfl⟩
theorem kET (hc:X.calm=true):xW X (.builtin "min") (λ xs H Q=>∃ i j,xs=[.int i,.int j]/\Q (.int (if j<i then j else i)) H):=by
 intro pins s σ H xs us Q I r h;obtain ⟨i,j,rfl,q⟩:=h;obtain ⟨u,w',rfl,⟨t,rfl⟩,⟨t',rfl⟩⟩:=mN r;refine min_two_ints (I.ok.hd hc) λ h' tk k=>⟨_,H,I.kept k,?_,q⟩;by_cases hj:j<i
 ·rw [if_pos hj,if_pos hj];exact ⟨_,rfl⟩
 ·rw [if_neg hj,if_neg hj];exact ⟨_,rfl⟩
theorem kEU:xW X (.type "int") (λ xs H Q=>(∃ i,xs=[.int i]/\Q (.int i) H)\/∃ k,xs=[.bl k]/\Q (.int (if k then 1 else 0)) H):=by
 intro pins s σ H xs us Q I r h;rcases h with ⟨i,rfl,q⟩ | ⟨k,rfl,q⟩
 ·obtain ⟨u,rfl,t,rfl⟩:=uA r
  exact call_int_int ⟨.int i,H,I,⟨_,rfl⟩,q⟩
 ·obtain ⟨u,rfl,r1⟩:=uA r
  cases r1
  exact call_int_bool ⟨.int (if k then 1 else 0),H,I.tok _,⟨_,rfl⟩,q⟩
end
structure ObjM (h:gw) (x dx C:ah) (mA:Str->Option af):Prop where
 obj:h.get? x=some (BV C dx)
 ns:h.Ns1 dx mA
 ne:dx≠x
theorem nA {h:gw} {dx:ah} {mA:Str->Option af} (n:h.Ns1 dx mA):∃ od,h.get? dx=some od/\∀ name,Bj name od=some (mA name):=by
 obtain ⟨o,es,ep,ho,hd,hk,_,hm⟩:=n;refine ⟨o,ho,λ name=>?_⟩;have e:=hm name;unfold nsFind findBy at e;rw [<-Array.find?_toList] at e;unfold Bj;rw [hd];dsimp only
 split
 ·rename_i y q
  rw [q] at e;exact congrArg some e
 ·rename_i q
  rw [q] at e
  have a:es.toList.any (·.refKey)=false:=by
   rw [List.any_eq_false];intro y hy;obtain ⟨z,t,hkey⟩:=hk y (qv.mp hy);simp [DictEntry.refKey,hkey]
  have a':¬ es.toList.any (·.refKey)=true:=by rw [a];exact dj
  rw [if_neg a'];exact congrArg some e
theorem ObjM.look {h:gw} {x dx C:ah} {mA:Str->Option af} (I:ObjM h x dx C mA):∃ od,Dr h x (BV C dx) C (some od)/\∀ name,Bj name od=some (mA name) :=
 let ⟨od,ho,hl⟩:=nA I.ns
 ⟨od,⟨I.obj,rfl,rfl,ho⟩,hl⟩
section
variable {prog:eU} {w:gk} {A:eV} {E:af->ak->Prop} {s:ak} {K:au} {x dx C f:ah} {mA:Str->Option af} {name:Str} {v:af}
end
theorem RelO.some_of {v:V} {o:Option af} (r:RelO (some v) o):∃ u,o=some u/\RelV v u:=by
 cases o with
 | none=>exact (show False from r).elim
 | some u=>exact ⟨u,rfl,r⟩
theorem kEG {v:V} {u:af} (r:RelV v u):PySem.W.handedIn u=true:=by
 cases v with
 | non=>cases (show u=jg from r);rfl
 | bl b=>cases (show u=qa b from r);rfl
 | int i=>obtain ⟨t,e⟩:=(show ∃ t,u=uu i t from r);cases e;rfl
 | str x=>obtain ⟨t,e⟩:=(show ∃ t,u=Bt x t from r);cases e;rfl
 | byt b=>obtain ⟨t,e⟩:=(show ∃ t,u=FQ b t from r);cases e;rfl
 | flt b=>obtain ⟨t,e⟩:=(show ∃ t,u=DV b t from r);cases e;rfl
 | ref a=>cases (show u=fo a from r);rfl
 | ty n=>cases (show u=yn n from r);rfl
section
variable {P:eU} {w:gk} {H H':Hp} {h h':gw} {a C dx:ah} {fs fs':List (Str×V)}
theorem kJK (hok:HOk P w H h) (e:H a=some (.ins C dx fs)):∃ mA,ObjM h a dx C mA/\(∀ f,RelO (fs.lookup f) (mA f))/\FD mA (fs.map (·.1))/\fs.length<=1000/\H dx=some (.own a):=by
 obtain ⟨d,z,ne,ob,mA,n,r,q⟩:=(show ObjOk P w H h a (.ins C dx fs) from hok a _ e);exact ⟨mA,⟨ob,n,ne⟩,r,q,z,d⟩
end
structure Cls (K:au) (C:ah):Prop where
 pg:DH K C Str.empty=true
 hd:Aj K C=true
 po:PySem.W.plainOver K C=true
 sa:gx K (.ref C) "__setattr__" = some (some (.builtin "object.__setattr__"))
theorem Cls.get {K:au} {C:ah} (c:Cls K C) (f:Str):DH K C f=true:=c.pg
section
variable {X:Cx} {pins:List (ah×Obj)} {σ:St} {H:Hp} {s:ak} {a C dx:ah} {fs:List (Str×V)} {f:Str} {v:V} {A:eV} {E:af->ak->Prop}
theorem kJW {prog:eU} {w:gk} {env:Env} {e:iQ} {f:Str} {pos:Pos} {s:ak} {Q:af->ak->Prop} (hb:attributeBase e f env (eval e env)=eval e env)
  (h:de (model prog w) A (eval e env) (λ o s₁=>de (model prog w) A (getAttr o f true) Q E s₁) E s):de (model prog w) A (eval (.Attribute e f pos) env) Q E s :=
 Attribute_any_ h (by rw [arm_eval_Attribute,hb])
end
section
variable {X:Cx} {o e value:iQ} {f:Str} {pos pos' tpos:Pos} {ta tv:TE}
end
section
variable {X:Cx} {pins:List (ah×Obj)} {σ:St} {H:Hp} {s:ak} {A:eV} {E:af->ak->Prop} {Q:af->ak->Prop} {c:af} {b:Bool}
inductive TyOf (K:au) (H:Hp):V->af->Prop where
 | non:TyOf K H .non (.type "NoneType")
 | bl (x:Bool):TyOf K H (.bl x) (.type "bool")
 | int (i:Int):TyOf K H (.int i) (.type "int")
 | str (x:Str):TyOf K H (.str x) (.type "str")
 | flt (x:UInt64):TyOf K H (.flt x) (.type "float")
 | lst {a:ah} {xs:List V} (e:H a=some (.lst xs)):TyOf K H (.ref a) (.type "list")
 | frz {a:ah} {o:Obj} {xs:List V} (e:H a=some (.frz o (.lst xs))):TyOf K H (.ref a) (.type "list")
 | tup {a:ah} {xs:List V} (e:H a=some (.tup xs)):TyOf K H (.ref a) (.type "tuple")
 | dK {a:ah} {kvs:List (Key×V)} (e:H a=some (.dK kvs)):TyOf K H (.ref a) (.type "dict")
 | dT {a:ah} {kvs:List (List Key×V)} (e:H a=some (.dT kvs)):TyOf K H (.ref a) (.type "dict")
 | ins {a C dx:ah} {fs:List (Str×V)} (e:H a=some (.ins C dx fs)) (cl:Cls K C) (ha:gx K (.ref C) "__class__" = some (some (.builtin "object.__class__")))
   (hn:vc K (.builtin "object.__class__") "__get__" = some (some (.builtin "getset_descriptor.__get__"))) (htk:Da K (.builtin "object.__class__")=some true)
   (hm:md K C (.type "object")=some true):TyOf K H (.ref a) (.ref C)
theorem kED {x:V} {u t:af} (I:Inv X pins σ H s) (rx:RelV x u) (ty:TyOf X.K H x t) (e:xu X.K t c=some b) (h:∀ tk,Q (.bool b) { s with toks:=tk }) :
  de (model X.prog X.w) A (call (.builtin "isinstance") [u,c]) Q E s:=by
 cases ty with
 | non=>cases (show u=jg from rx);exact ja PySem.W.kitx_none I.kIn jq e (λ z=>nomatch z) h
 | bl y=>cases (show u=qa y from rx);exact ja PySem.W.kitx_bool I.kIn jq e (λ z=>nomatch z) h
 | int i=>obtain ⟨t,q⟩:=(show ∃ t,u=uu i t from rx);cases q;exact ja PySem.W.kitx_int I.kIn jq e (λ z=>nomatch z) h
 | str y=>obtain ⟨t,q⟩:=(show ∃ t,u=Bt y t from rx);cases q;exact ja PySem.W.kitx_str I.kIn jq e (λ z=>nomatch z) h
 | flt y=>obtain ⟨t,q⟩:=(show ∃ t,u=DV y t from rx);cases q;exact ja PySem.W.kitx_float I.kIn jq e (λ z=>nomatch z) h
 | @lst a xs ea =>
  cases (show u=fo a from rx)
  obtain ⟨_,_,n,_,h1⟩:=(show ObjOk X.prog X.w H s.heap a (.lst xs) from I.hok a _ ea);exact ja Cb I.kIn ⟨_,h1,rfl⟩ e (λ z=>nomatch z) h
 | @frz a ob xs ea =>
  cases (show u=fo a from rx)
  obtain ⟨_,_,_,n,_,h1⟩:=(show ObjOk X.prog X.w H s.heap a (.frz ob (.lst xs)) from I.hok a _ ea);exact ja Cb I.kIn ⟨_,h1,rfl⟩ e (λ z=>nomatch z) h
 | @tup a xs ea =>
  cases (show u=fo a from rx)
  obtain ⟨_,_,_,p⟩:=(show ObjOk X.prog X.w H s.heap a (.tup xs) from I.hok a _ ea);obtain ⟨o,h1,h2,_⟩:=p;exact ja PySem.W.kitx_tuple I.kIn ⟨o,h1,h2⟩ e (λ z=>nomatch z) h
 | @dK a kvs ea =>
  cases (show u=fo a from rx)
  obtain ⟨_,_,vs,_,p⟩:=(show ObjOk X.prog X.w H s.heap a (.dK kvs) from I.hok a _ ea);obtain ⟨o,es,ep,h1,h2,_⟩:=p;exact ja Cc I.kIn ⟨o,h1,h2.1⟩ e (λ z=>nomatch z) h
 | @dT a kvs ea =>
  cases (show u=fo a from rx)
  obtain ⟨_,_,xs,_,o,es,ep,h1,h2,_⟩:=(show ObjOk X.prog X.w H s.heap a (.dT kvs) from I.hok a _ ea);exact ja Cc I.kIn ⟨o,h1,h2.1⟩ e (λ z=>nomatch z) h
 | @ins a C dx fs ea cl ha hn htk hm =>
  cases (show u=fo a from rx)
  obtain ⟨mA,O,_⟩:=kJK I.hok ea;obtain ⟨od,J,_⟩:=O.look;exact ja (PySem.W.kitx_own (cl.get _) cl.hd ha hn htk hm) I.kIn J e (λ z=>nomatch z) h
end
structure Room (k:Nat) (A:eV):Prop where
 hd:A.handled=none
 dp:A.depth+3*k+5<recursionLimit
 un:A.units+16*k+200<cLine
 gd:A.guards=some []
theorem Room.mono {j k:Nat} {A:eV} (r:Room k A) (h:j<=k):Room j A:=⟨r.hd,by have:=r.dp;omega,by have:=r.un;omega,r.gd⟩
theorem Room.deeper {k:Nat} {A:eV} (r:Room (k+1) A) (env:Env):Room k (A.deeper env) :=
 ⟨r.hd,by have:=r.dp;show A.depth+1+3*k+5<_;omega,by have:=r.un;show A.units+3+16*k+200<_;omega,r.gd⟩
theorem kAT {A:eV} {C:ah} {us:List af} {kw:List (Str×af)}:(A.under (.builtin "type.__call__" ⟨.ref C::us,kw⟩)).depth=A.depth+1:=by
 first | rfl | simp [BI,Code.weight,Code.isCreation,FF,Code.isCaller,FS,Cd,guardIds]
theorem kAS {A:eV} {C:ah} {us:List af} {kw:List (Str×af)}:(A.under (.builtin "type.__call__" ⟨.ref C::us,kw⟩)).units=A.units+1:=by
 first | rfl | simp [BI,Code.cUnits,FS,Cd]
theorem sH {A:eV} {C:ah} {us:List af} {kw:List (Str×af)}:(A.under (.builtin "type.__call__" ⟨.ref C::us,kw⟩)).guards=A.guards:=by
 first | rfl | simp [BI,Code.guards,FF,guardIds,pushGuards]
theorem Room.make {k:Nat} {A:eV} (r:Room (k+1) A) (C:ah) (us:List af) (kw:List (Str×af)):Room k (A.under (.builtin "type.__call__" ⟨.ref C::us,kw⟩)) :=
 ⟨r.hd,by have:=r.dp;rw [kAT];omega,by have:=r.un;rw [kAS];omega,(by rw [sH];exact r.gd)⟩
theorem Room.depth {k:Nat} {A:eV} (r:Room k A):A.depth<recursionLimit:=by have:=r.dp;omega
theorem Room.units {k:Nat} {A:eV} (r:Room k A):A.units+64<cLine:=by have:=r.un;omega
def tP:TA:=λ _ H Q=>Q [] H
def gE (ta:TE) (tr:TA):TA:=λ σ H Q=>ta σ H λ x H1=>tr σ H1 λ xs H2=>Q (x::xs) H2
section
variable {X:Cx} {e:iQ} {es:List iQ} {te:TE} {t:TA} {pos:Pos}
theorem kB:PA X [] tP:=λ _ _ _ _ H Q I h=>Calls.spliced_nil ⟨[],H,I,.nil,h⟩
theorem kA (ha:PE X e te) (hr:PA X es t) (hs:starEach (e::es) X.env=(false,eval e X.env)::starEach es X.env:=by rfl):PA X (e::es) (gE te t):=by
 intro pos pins s σ H Q I h;rw [hs];show de _ _ (spliced ((false,eval e X.env)::backTo pos (starEach es X.env))) _ _ s;refine Calls.spliced_cons (thn (ha pins s σ H _ I h) λ u s1 ⟨x,H1,I1,r1,q1⟩=>?_);exact thn (hr pos pins s1 σ H1 _ I1 q1) λ us s2 ⟨xs,H2,I2,r2,q2⟩=>⟨x::xs,H2,I2,.cons r1 r2,q2⟩
def kPE (t:TA):TE:=λ σ H Q=>t σ H λ xs H1=>xs.length<=sizeLine/\∀ p,H1 p=none->Q (.ref p) (upd H1 p (.tup xs))
def kPI (t:TA):TE:=λ σ H Q=>t σ H λ xs H1=>xs.length<=sizeLine/\∀ p,H1 p=none->Q (.ref p) (upd H1 p (.lst xs))
theorem jK {x1} (h:PA X es t):PE X (.Tuple es x1 pos) (kPE t):=by
 intro pins s σ H Q I hq;refine wpAny_Tuple_spliced (thn (h pos pins s σ H _ I hq) λ us s1 ⟨xs,H1,I1,r,z,q⟩=>⟨by rw [<-r.length];exact z,?_⟩);have hf:H1 s1.heap.objs.size=none:=I1.hok.fresh (be _);refine ⟨.ref s1.heap.objs.size,upd H1 s1.heap.objs.size (.tup xs),I1.laid (t':=s1.toks) (λ b u e=>ao _ e) (be _) ?_,rfl,q _ hf⟩;exact ⟨z,us,r,⟨_,eK _ rfl,rfl,_,rfl,rfl⟩⟩
theorem jZ (h:PA X es t):PE X (.List es pos) (kPI t):=by
 intro pins s σ H Q I hq;refine wpAny_List_spliced (thn (h pos pins s σ H _ I hq) λ us s1 ⟨xs,H1,I1,r,z,q⟩=>⟨by rw [<-r.length];exact z,?_⟩);have hf:H1 s1.heap.objs.size=none:=I1.hok.fresh (be _);refine ⟨.ref s1.heap.objs.size,upd H1 s1.heap.objs.size (.lst xs),I1.laid (t':=s1.toks) (λ b u e=>ao _ e) (be _) ?_,rfl,q _ hf⟩;exact ⟨z,us,0,r,eK _ rfl⟩
end
abbrev Sp:=List V->Hp->VK->XK->Prop
abbrev CXT:=List Env->Hp->ak->XK->af->ak->Prop
structure Env0 (P:eU) (w:gk) (K:au) (mg:Str->Option af) (base:gw) (A:eV) (outer:List Env) (s:ak) (H:Hp):Prop where
 frames:A.frames=some outer
 mod:Mod K mg base
 bs:∀ b o,base.get? b=some o->s.heap.get? b=some o/\H b=none
 bsz:base.objs.size<=s.heap.objs.size
 funs:s.heap.FunFrames base outer
 frf:∀ b∈frs outer,H b=none
 hok:HOk P w H s.heap
 bare:AD s.gens
def CE (outer:List Env) (P:eU) (w:gk) (H:Hp) (s:ak) (Q:VK) (u:af) (s':ak):Prop :=
 ∃ v H',s'.os=s.os/\AD s'.gens/\Un (frs outer) [] H H' s.heap s'.heap/\HOk P w H' s'.heap/\RelV v u/\Q v H'
def CR (CX:CXT) (outer:List Env) (P:eU) (w:gk) (H:Hp) (s:ak) (Q:VK) (E:XK) (r:Ds) (s':ak):Prop :=
 match r with
 | .ok (.ret u)=>CE outer P w H s Q u s'
 | .ok _=>False
 | .error e=>CX outer H s E e s'
structure FnOk (P:eU) (w:gk) (K:au) (mg:Str->Option af) (base:gw) (CX:CXT) (k:Nat) (f:ah) (fd:eO) (ps:List Str) (sp:Sp):Prop where
 len:∀ vs H Q E,sp vs H Q E->vs.length=ps.length
 run:∀ (A:eV) (outer:List Env) (s:ak) (H:Hp) (args:Args) (us:List af) (vs:List V) (Q:VK) (E:XK),Room k A->Env0 P w K mg base A outer s H->Bu s fd args (ps.zip us)->Vals vs us->sp vs H Q E ->
  codeAny (model P w) A (.call (.ref f) args) (CR CX outer P w H s Q E) s
theorem Env0.make {P:eU} {w:gk} {K:au} {mg:Str->Option af} {base:gw} {A:eV} {outer:List Env} {s:ak} {H:Hp} (e:Env0 P w K mg base A outer s H) (C:ah) (us:List af) (kw:List (Str×af)) :
  Env0 P w K mg base (A.under (.builtin "type.__call__" ⟨.ref C::us,kw⟩)) outer s H:=⟨by first | exact e.frames | (simpa [BI,Code.envs,Cd,pushEnvs] using e.frames),e.mod,e.bs,e.bsz,e.funs,e.frf,e.hok,e.bare⟩
section
variable {X:Cx} {pins:List (ah×Obj)} {σ:St} {H:Hp} {s s':ak}
theorem Inv.env0 (I:Inv X pins σ H s):Env0 X.prog X.w X.K X.mg X.base X.A X.stack s H :=
 ⟨I.ok.frames,I.ok.mod,I.bs,je I.ok.bsz I.sz,I.stack,I.stkFree,I.hok,I.bare⟩
theorem Inv.after {Q:VK} {u:af} (I:Inv X pins σ H s) (h:CE X.stack X.prog X.w H s Q u s'):EP X pins σ Q u s':=by
 obtain ⟨v,H',os,bare,un,hok,r,q⟩:=h;obtain ⟨hh,g,d,t,os'⟩:=s';obtain rfl:os'=s.os:=os;exact ⟨v,H',I.call (h':=hh) (g':=g) (d':=d) (t':=t) (ch:=[]) un hok bare (λ b z=>absurd z (by simp)),r,q⟩
end
def mR (sp:Sp) (dvs:List V) (E:XK) (t:TA):TE:=λ σ H Q=>t σ H λ vs H1=>sp (vs++dvs) H1 Q E
def Binds (K:au) (fd:eO) (ps:List Str) (ds:List af):Prop :=
 ∀ (s:ak) (us:List af),K.In s.heap->(us++ds).length=ps.length->Bu s fd ⟨us,[]⟩ (ps.zip (us++ds))
theorem Binds.all {K:au} {fd:eO} {ps:List Str} (h:∀ us:List af,us.length=ps.length->bindArgs fd ⟨us,[]⟩=pure (ps.zip us)):Binds K fd ps []:=λ s us _ hl=>by
 rw [ir] at hl ⊢;exact .of_eq (h us hl)
def dS (CX:CXT) (X:Cx) (E:XK):Prop:=∀ (pins:List (ah×Obj)) (σ:St) (H:Hp) (s:ak) (e:af) (s':ak),Inv X pins σ H s->CX X.stack H s E e s'->X.xe e s'
section
variable {X:Cx} {CX:CXT} {k:Nat} {f C:ah} {fd:eO} {ps:List Str} {sp:Sp} {dvs:List V} {ds:List af} {E:XK} {x m:Str} {p pos apos:Pos} {e o:iQ} {es:List iQ} {ta:TE} {t:TA}
theorem kFS {pins:List (ah×Obj)} {σ:St} {H:Hp} {s:ak} {Q:VK} {us:List af} {vs:List V} (F:FnOk X.prog X.w X.K X.mg X.base CX k f fd ps sp) (hr:Room k X.A) (hb:Binds X.K fd ps ds) (hd:Vals dvs ds) (hx:dS CX X E)
  (I:Inv X pins σ H s) (r:Vals vs us) (h:sp (vs++dvs) H Q E):de (model X.prog X.w) X.A (call (.ref f) us) (EP X pins σ Q) X.xe s:=by
 have r2:Vals (vs++dvs) (us++ds):=r.append hd;have hl:(us++ds).length=ps.length:=by rw [<-r2.length];exact F.len _ _ _ _ h
 refine yp (xv (F.run X.A X.stack s H ⟨us,[]⟩ (us++ds) (vs++dvs) Q E hr I.env0 (hb s us I.kIn hl) r2 h) λ r s' hq=>?_)
 cases r with
 | error e=>exact hx pins σ H s e s' I hq
 | ok fl =>
  cases fl with
  | ret u=>exact I.after hq
  | next=>exact jh hq
  | brk=>exact jh hq
  | cont=>exact jh hq
theorem oZ (F:FnOk X.prog X.w X.K X.mg X.base CX k f fd ps sp) (hr:Room k X.A) (hg:Gl X x) (hm:X.mg x=some (.ref f)) (hk:bj X.K (.ref f)=true) (hb:Binds X.K fd ps ds) (hd:Vals dvs ds) (hx:dS CX X E)
  (ha:PA X (e::es) t) (hdb:(x == ("__debug__" : Str))=false:=by decide) (he:starEach (e::es) X.env=(false,eval e X.env)::starEach es X.env:=by rfl) (hpl:(backTo pos (starEach es X.env)).any (·.1)=false:=by rfl) :
  PE X (.Call (.Name x p) (e::es) [] pos) (mR sp dvs E t):=by
 intro pins s σ H Q I h;refine ug (aJ I hg hm ?_ hdb);refine xg (h₀:=X.base) I.ok.mod.kin hk (thn (ha pos pins s σ H _ I h) λ us s1 ⟨vs,H1,I1,r,q⟩=>⟨I1.kIn,?_⟩) he hpl;exact kFS F hr hb hd hx I1 r q
end
section
variable {X:Cx} {CX:CXT} {k:Nat} {f C:ah} {fd:eO} {ps ks:List Str} {sp:Sp} {E:XK} {x m:Str} {p pos apos kpos:Pos} {e o:iQ} {es:List iQ} {kws:List Keyword} {te ta:TE} {t tk:TA} {nm:Option Str}
variable {g:List af->List af->List af} {gV:List V->List V->List V}
end
structure FnScope (N P:List Str) (sc:ua):Prop where
 kind:sc.kind=.function
 co:sc.isCoroutine=false
 gen:sc.isGenerator=false
 nd:N.Nodup
 pre:N.take P.length=P
 par:∀ x∈P,sc.names.lookup x=some .local\/sc.names.lookup x=some .cell
 nofree:∀ y∈sc.names,y.2≠.free
theorem nX {kindOf:Str->Option qb} {x:Str}:∀ {binds:List (Str×af)} {m:Str->Option af},(∀ v,(x,v)∉binds)->bindL kindOf binds m x=m x
 | [],_,_=>rfl
 | (n,v)::r,m,h=>by
  unfold bindL;rw [nX λ w hw=>h w (eZ _ hw)]
  split
  ·have:x≠n:=by rintro rfl;exact h v fv
   simp [this]
  ·rfl
theorem nZ {kindOf:Str->Option qb} {x:Str}:∀ {binds:List (Str×af)} {m:Str->Option af},(∀ v,(x,v)∉binds)->bindC kindOf binds m x=m x
 | [],_,_=>rfl
 | (n,v)::r,m,h=>by
  unfold bindC;rw [nZ λ w hw=>h w (eZ _ hw)]
  split
  ·rfl
  ·have:x≠n:=by rintro rfl;exact h v fv
   simp [this]
theorem nY {kindOf:Str->Option qb} {x:Str} {v:af}:∀ {P:List Str} {vs:List af} {i:Nat} {m:Str->Option af},P.Nodup->P[i]?=some x->vs[i]?=some v->kindOf x=some .local ->
  bindL kindOf (P.zip vs) m x=some v
 | [],_,_,_,_,h,_,_=>by simp at h
 | _::_,[],_,_,_,_,h,_=>by simp at h
 | p::P,w::vs,0,m,nd,h1,h2,hk=>by
  simp at h1 h2;subst h1;subst h2;show bindL kindOf ((p,w)::P.zip vs) m p=_;unfold bindL;rw [nX λ v hv=>(iX.mp nd).1 (zp hv).1,if_pos hk];simp
 | p::P,w::vs,i+1,m,nd,h1,h2,hk=>by
  show bindL kindOf ((p,w)::P.zip vs) m x=_;unfold bindL;exact nY (i:=i) (iX.mp nd).2 (by simpa using h1) (by simpa using h2) hk
theorem oA {kindOf:Str->Option qb} {x:Str} {v:af}:∀ {P:List Str} {vs:List af} {i:Nat} {m:Str->Option af},P.Nodup->P[i]?=some x->vs[i]?=some v->kindOf x≠some .local ->
  bindC kindOf (P.zip vs) m x=some v
 | [],_,_,_,_,h,_,_=>by simp at h
 | _::_,[],_,_,_,_,h,_=>by simp at h
 | p::P,w::vs,0,m,nd,h1,h2,hk=>by
  simp at h1 h2;subst h1;subst h2;show bindC kindOf ((p,w)::P.zip vs) m p=_;unfold bindC;rw [nZ λ v hv=>(iX.mp nd).1 (zp hv).1,if_neg hk];simp
 | p::P,w::vs,i+1,m,nd,h1,h2,hk=>by
  show bindC kindOf ((p,w)::P.zip vs) m x=_;unfold bindC;exact oA (i:=i) (iX.mp nd).2 (by simpa using h1) (by simpa using h2) hk
def start (N:List Str) (vs:List V):St:=vs.map some++fh (N.length-vs.length) none
def sX (CX:CXT) (P:eU) (w:gk) (K:au) (mg:Str->Option af) (base:gw) (N:List Str) (qual:Str) (scope:ua) (f:ah) (cd:af) (A:eV) (outer:List Env) (s:ak) (H:Hp) (E:XK):Cx where
 prog:=P
 w:=w
 K:=K
 mg:=mg
 base:=base
 A:=A.deeper (envOfC qual scope s.heap.objs.size f cd)
 N:=N
 s₀:=s
 H₀:=H
 env:=envOfC qual scope s.heap.objs.size f cd
 outer:=outer
 stack:=envOfC qual scope s.heap.objs.size f cd::outer
 ex:=[]
 calm:=true
 fn:=λ _=>true
 pn:=[]
 xe:=λ e s'=>de (model P w) (A.deeper (envOfC qual scope s.heap.objs.size f cd)) (leaving (envOfC qual scope s.heap.objs.size f cd) e) (λ _ s''=>CX outer H s E e s'') (λ e' s''=>CX outer H s E e' s'') s'
theorem sZ {sc:ua} {n:Nat} {x:Str} (h:sc.names.lookup x=some .cell):∃ c,(cellsFrom n sc.names []).lookup x=some c:=by
 have q:=xw sc.names n [] (.inl h);exact Ar.mp q
theorem nI {CX:CXT} {P:eU} {w:gk} {K:au} {mg:Str->Option af} {base:gw} {N ps:List Str} {qual:Str} {scope:ua} {f:ah} {cd:af} {A:eV} {outer:List Env} {s s1:ak} {H:Hp} {E:XK} {us:List af} {vs:List V}
  (S:FnScope N ps scope) (hd:A.handled=none) (e0:Env0 P w K mg base A outer s H) (hl:vs.length=ps.length) (r:Vals vs us)
  (x:InCallC s s.heap.objs.size (bindL (envOfC qual scope s.heap.objs.size f cd).kindOf (ps.zip us) λ _=>none) (cellsFrom (s.heap.objs.size+1) scope.names []) (bindC (envOfC qual scope s.heap.objs.size f cd).kindOf (ps.zip us) λ _=>none) s1) :
  Inv (sX CX P w K mg base N qual scope f cd A outer s H E) [] (start N vs) H s1:=by
 have hpl:ps.length<=N.length:=by have:=congrArg iP S.pre;rw [fb] at this;omega
 obtain ⟨h1,tk,rfl,hk⟩:=x.done;have noA:∀ b:ah,b∉(sX CX P w K mg base N qual scope f cd A outer s H E).ex:=λ b z=>absurd (show b∈([]:List ah) from z) (by simp)
 refine ⟨⟨e0.mod,S.kind,rfl,rfl,be _,λ y z c h1 h2=>?_,λ y hy=>?_,λ y c _ h=>?_,λ _=>hd,Bk e0.frames,.inr ⟨rfl,rfl⟩,λ b z=>absurd z (noA b),e0.bs,e0.bsz,λ b _ _=>noA b,λ b z=>absurd z (noA b),e0.funs,e0.frf⟩,
  rfl,e0.bare,Un.kept hk,⟨_,x.toInCall.ns,λ i y v h1 h2 h3=>?_⟩,λ y c h=>⟨_,x.cell y c h⟩,e0.hok.fresh (be _),λ y c h=>?_,λ p hp=>absurd (show p∈([]:List (ah×Obj)) from hp) (by simp),e0.hok.kept hk,?_⟩
 ·exact name_of_addr x.apart (jr h1) (jr h2)
 ·have hy:scope.names.lookup y=some .cell\/scope.names.lookup y=some .free:=hy
  rcases hy with hy | hy
  ·exact sZ hy
  ·exact absurd rfl (S.nofree _ (jr hy))
 ·exact qq (x.above y c (jr h))
 ·have hi:i<vs.length:=by
   unfold start at h2;by_cases hi:i<vs.length
   ·exact hi
   ·rw [bz (by simpa using hi)] at h2
    rw [List.getElem?_replicate] at h2
    split at h2<;>cases h2
  have ha:vs[i]?=some v:=by
   unfold start at h2;rw [cu (by simpa using hi),bg] at h2
   cases e:vs[i]? with
   | none=>rw [e] at h2;cases h2
   | some a=>rw [e] at h2;cases h2;rfl
  obtain ⟨u,hu,rv⟩:=r.get ha
  have hp:ps[i]?=some y:=by
   rw [<-S.pre,me (by omega)];exact h1
  have ndP:ps.Nodup:=by rw [<-S.pre];exact S.nd.sublist (List.take_sublist _ _)
  refine ⟨u,rv,?_⟩;rcases S.par y (dw hp) with k | k
  ·exact .inl ⟨k,nY ndP hp hu k⟩
  ·obtain ⟨c,e⟩:=sZ (n:=s.heap.objs.size+1) k
   refine .inr ⟨.inl k,c,e,?_⟩;have q:=x.cell y c e;rw [oA ndP hp hu (by show scope.names.lookup y≠_;rw [k];decide)] at q;exact q
 ·exact e0.hok.fresh (qq (x.above y c (jr h)))
 ·unfold start
  show _=N.length;rw [eI,aj,ux];omega
theorem kKL {CX:CXT} {P:eU} {w:gk} {K:au} {mg:Str->Option af} {base:gw} {k:Nat} {f:ah} {name qual:Str} {params:FB} {body:List jw} {scope:ua} {dV kV doc pm cdv ct oc:af} {an od:Option ah}
  {osl:Array (Option af)} {N ps:List Str} {sp:Sp} (lk:K.lookup f=some ⟨oc,od,.func (cx name qual params body scope dV kV doc pm an cdv ct),osl⟩) (hcd:cq K cdv qual=true) (S:FnScope N ps scope)
  (len:∀ vs H Q E,sp vs H Q E->vs.length=ps.length)
  (hbody:∀ (A:eV) (outer:List Env) (s:ak) (H:Hp) (vs:List V) (Q:VK) (E:XK),Room k (A.deeper (envOfC qual scope s.heap.objs.size f cdv))->sp vs H Q E ->
   ∃ t,PSs (sX CX P w K mg base N qual scope f cdv A outer s H E) body t/\t { nx:=λ _ H'=>Q .non H',rt:=Q } (start N vs) H) :
  FnOk P w K mg base CX (k+1) f (cx name qual params body scope dV kV doc pm an cdv ct) ps sp:=by
 refine ⟨len,λ A outer s H args us vs Q E hr e0 hb r hsp=>?_⟩;have hl:=len _ _ _ _ hsp;have KX:K.In s.heap:=e0.mod.kin.keeps λ b o e=>(e0.bs b o e).1;have lim:s.heap.NoLimit:=e0.mod.nolimit.keeps λ b o e=>(e0.bs b o e).1
 have hkind:∀ y∈ps.zip us,scope.names.lookup y.1=some .local\/(scope.names.lookup y.1=some .cell/\((cellsFrom (s.heap.objs.size+1) scope.names []).lookup y.1).isSome=true):=λ ⟨n,v⟩ hy=>by
  rcases S.par n (zp hy).1 with q | q
  ·exact .inl q
  ·exact .inr ⟨q,xw _ _ _ (.inl q)⟩
 refine Bf hr.depth (KX _ _ lk) rfl S.co S.gen rfl (CO KX hcd) (hb _ _ _ _ ?_);refine AM S.kind hkind λ env he s1 x=>?_;subst he;refine ⟨lim.keeps x.toInCall.keep,codeAny_func ?_⟩;obtain ⟨t,ht,hq⟩:=hbody A outer s H vs Q E (hr.deeper _) hsp;have I:Inv (sX CX P w K mg base N qual scope f cdv A outer s H E) [] (start N vs) H s1:=nI S hr.hd e0 hl r x;refine lj (ht [] s1 (start N vs) H _ I hq) (λ fl s' hs=>?_) λ e s' hs=>hs
 have fin:∀ {σ':St} {H':Hp} {v:V} {u:af},Inv (sX CX P w K mg base N qual scope f cdv A outer s H E) [] σ' H' s'->RelV v u->Q v H'->CE outer P w H s Q u s' :=
  λ {σ' H' v u} J rv q=>⟨v,H',J.os,J.bare,J.base,J.hok,rv,q⟩
 cases fl with
 | ret u =>
  obtain ⟨v,σ',H',J,rv,q⟩:=hs;exact fin J rv q
 | next =>
  obtain ⟨σ',H',J,q⟩:=hs;exact fin (v:=V.non) (u:=jg) J rfl q
 | brk =>
  obtain ⟨_,_,_,q⟩:=hs;exact jh q
 | cont =>
  obtain ⟨_,_,_,q⟩:=hs;exact jh q
section
variable {X:Cx} {x:Str} {p pos:Pos} {e:iQ} {es:List iQ} {t:TA} {id T:String} {r:List V->Hp->VK->Prop}
def tCB (r:List V->Hp->VK->Prop) (t:TA):TE:=λ σ H Q=>t σ H λ vs H1=>r vs H1 Q
theorem kL (hc:xW X (.builtin id) r) (hg:Gl X x) (hm:X.mg x=none) (hv:bootBuiltins x=some (.builtin id)) (ha:PA X (e::es) t) (hn:x≠"__name__":=by decide) (hdb:(x == ("__debug__" : Str))=false:=by decide)
  (he:starEach (e::es) X.env=(false,eval e X.env)::starEach es X.env:=by rfl) (hpl:(backTo pos (starEach es X.env)).any (·.1)=false:=by rfl):PE X (.Call (.Name x p) (e::es) [] pos) (tCB r t):=by
 intro pins s σ H Q I h;refine ug (aR I hg hm hv ?_ hn hdb);exact yq (thn (ha pos pins s σ H _ I h) λ us s1 ⟨vs,H1,I1,r1,q1⟩=>hc pins s1 σ H1 vs us Q I1 r1 q1) he hpl
theorem jV (hc:xW X (.type T) r) (hg:Gl X x) (hm:X.mg x=none) (hv:bootBuiltins x=some (.type T)) (ha:PA X (e::es) t) (hn:x≠"__name__":=by decide) (hdb:(x == ("__debug__" : Str))=false:=by decide)
  (he:starEach (e::es) X.env=(false,eval e X.env)::starEach es X.env:=by rfl) (hpl:(backTo pos (starEach es X.env)).any (·.1)=false:=by rfl):PE X (.Call (.Name x p) (e::es) [] pos) (tCB r t):=by
 intro pins s σ H Q I h;refine ug (aR I hg hm hv ?_ hn hdb);exact pe (thn (ha pos pins s σ H _ I h) λ us s1 ⟨vs,H1,I1,r1,q1⟩=>hc pins s1 σ H1 vs us Q I1 r1 q1) he hpl
end
end L2
namespace HT
open PySem PyProof.Rows
section
open PySem.SeqAt
open PySem.AutoSeq1 (wpAny_loadPart')
open PySem.MeetsSeq PySem.MeetsSeq2 PySem.MeetsSeq3
end
section
variable {prog:eU} {w:gk} {A:eV} {E:af->ak->Prop} {s:ak}
theorem cat_tup {t b:ah} {vs ws:List af} {Q:af->ak->Prop} (ht:Dl s.heap t vs.toArray) (hb:Dl s.heap b ws.toArray) (hv:vs≠[])
  (h1:ws=[]->Q (.ref t) s) (h2:ws≠[]->Q (.ref s.heap.objs.size) { s with heap:=s.heap.push { cls:=.type "tuple",data:=.seq (vs++ws).toArray } })
  (hsz:vs.length+ws.length<=sizeLine):de (model prog w) A (binaryOp .Add (.ref t) (.ref b)) Q E s:=by
 obtain ⟨⟨cls,dd,data,sl⟩,ho,hc,n,hd⟩:=id ht;obtain ⟨⟨cls2,dd2,data2,sl2⟩,ho2,hc2,n2,hd2⟩:=id hb;simp only at hc hd hc2 hd2;subst hc hd hc2 hd2;have e:vs.toArray++ws.toArray=(vs++ws).toArray:=by simp
 by_cases hw:ws=[]
 ·exact Ce ⟨_,ho,rfl⟩ ⟨_,ho2,rfl⟩ Az CG xy xk (wq _ _)
   (tuple_addW1 t b vs.toArray ws.toArray n n2 dd dd2 sl sl2 (by simpa using hv) (by simp [hw])) ⟨ho,ho2,h1 hw⟩
 ·refine Ce ⟨_,ho,rfl⟩ ⟨_,ho2,rfl⟩ Az CG xy xk (wq _ _)
   (tuple_addW2 t b vs.toArray ws.toArray n n2 dd dd2 sl sl2 (by simpa using hv) (by simpa using hw) (by rw [eN,eN];exact hsz)) ⟨ho,ho2,?_⟩
  rw [e];exact h2 hw
def sIx (n d:Nat):Option Int->Nat
 | none=>d
 | some v=>if v<0 then (v+(n:Int)).toNat else min v.toNat n
theorem sIx_none (n d:Nat):sIx n d none=d:=rfl
theorem sIx_nat (n d k:Nat):sIx n d (some (k:Int))=min k n:=by
 show (if (k:Int)<0 then ((k:Int)+(n:Int)).toNat else min (k:Int).toNat n)=min k n;rw [if_neg (by omega),qw]
theorem kLJ (n d:Nat) (hd:d<=n) (o:Option Int):sIx n d o<=n:=by
 cases o with
 | none=>exact hd
 | some v =>
  show (if v<0 then (v+(n:Int)).toNat else min v.toNat n)<=n;by_cases hv:v<0
  ·rw [if_pos hv];omega
  ·rw [if_neg hv];exact Nat.min_le_right _ _
theorem kCT (v:Int) (n d:Nat):(if v<0 then max (v+(n:Int)) 0 else min v (n:Int))=((sIx n d (some v):Nat):Int):=by
 show (if v<0 then max (v+(n:Int)) 0 else min v (n:Int))=(((if v<0 then (v+(n:Int)).toNat else min v.toNat n):Nat):Int);by_cases hv:v<0
 ·simp only [if_pos hv];omega
 ·simp only [if_neg hv];omega
theorem kBL (lo hi:Option Int) (n:Nat):wk lo hi 1 (n:Int)=(((sIx n 0 lo:Nat):Int),((sIx n n hi:Nat):Int)):=by
 have h1:¬ ((1:Int)<0):=by omega
 unfold wk;simp only [h1,if_false];refine vi ?_ ?_
 ·cases lo with
  | none=>rfl
  | some v=>exact kCT v n 0
 ·cases hi with
  | none=>rfl
  | some v=>exact kCT v n n
theorem kAD (i j:Nat):qi (i:Int) (j:Int) 1=j-i:=by
 unfold qi;have h1:(1:Int)>0:=by omega
 simp only [h1,if_true,Int.ediv_one]
 split<;>omega
theorem gP {v:af} {o:Option Int} {Q:Option Int->ak->Prop} (p:BJ v o) (h:Q o s):de (model prog w) A (Dc v) Q E s:=by
 cases p with
 | none=>exact Du h
 | int i t=>exact slicePart_int h
theorem sliceApplied_gen {sl:ah} {vl vu:af} {lo hi:Option Int} {n:Nat} {Q:Int×Int×Nat->ak->Prop} (hs:s.heap.IsSliceOf sl vl vu .none) (pl:BJ vl lo) (pu:BJ vu hi)
  (h:Q (((sIx n 0 lo:Nat):Int),1,sIx n n hi-sIx n 0 lo) s):de (model prog w) A (AN (.ref sl) (pure (n:Int))) Q E s:=by
 obtain ⟨os,hos,hcs,hds⟩:=id hs;unfold AN EW;refine ae (ae (kq hos hds (x:=vl) rfl (ae (kq hos hds (x:=vu) rfl (ae (kq hos hds (x:=.none) rfl (av ?_)))))));refine ae (Du ?_);show de _ _ (if ((1:Int) == 0)=true then _ else _) _ _ s;rw [if_neg (by decide)];refine ae (gP pl (ae (gP pu (ae (av ?_)))));show de _ _ (match wk lo hi 1 (n:Int) with | (lo,hi)=>pure (lo,(1:Int),qi lo hi 1)) _ _ s
 rw [kBL lo hi n];show de _ _ (pure (((sIx n 0 lo:Nat):Int),(1:Int),qi ((sIx n 0 lo:Nat):Int) ((sIx n n hi:Nat):Int) 1)) _ _ s;rw [kAD];exact av h
theorem kGA (xs:Array af) (i k:Nat):((fc k).filterMap λ (m:Nat)=>xs[((i:Int)+(m:Int)*1).toNat]?).toArray=((xs.toList.drop i).take k).toArray:=by
 have e:(λ (m:Nat)=>xs[((i:Int)+(m:Int)*1).toNat]?)=λ m=>xs[i+m]?:=by
  funext m
  have:((i:Int)+(m:Int)*1).toNat=i+m:=by omega
  rw [this]
 rw [e];have:=pick_run xs i k;rw [List.filterMap_map] at this;have e2:((λ x=>xs[x]?)∘λ x=>i+x)=λ m=>xs[i+m]?:=rfl;rw [e2] at this;rw [this]
theorem getItem_tuple_cut {t sl:ah} {items:Array af} {vl vu:af} {lo hi:Option Int} {Q:af->ak->Prop} (ht:Dl s.heap t items) (hs:s.heap.IsSliceOf sl vl vu .none) (pl:BJ vl lo) (pu:BJ vu hi)
  (hw:¬ (sIx items.size 0 lo=0/\sIx items.size items.size hi=items.size))
  (h:Q (.ref s.heap.objs.size) { s with heap:=s.heap.push { cls:=.type "tuple",data:=.seq ((items.toList.drop (sIx items.size 0 lo)).take (sIx items.size items.size hi-sIx items.size 0 lo)).toArray } })
  (hsz:items.size<=sizeLine):de (model prog w) A (getItem (.ref t) (.ref sl)) Q E s:=by
 have htake:sizeOk (.seq ((items.toList.drop (sIx items.size 0 lo)).take (sIx items.size items.size hi-sIx items.size 0 lo)).toArray):=by
  show ((items.toList.drop (sIx items.size 0 lo)).take (sIx items.size items.size hi-sIx items.size 0 lo)).toArray.size<=sizeLine;rw [eN,fb,iV,fk];omega
 have hj:sIx items.size items.size hi<=items.size:=kLJ _ _ (be _) hi;obtain ⟨os,hos,hcs,hds⟩:=id hs;have hTs:s.TypeIs (.ref sl) "slice":=⟨os,hos,hcs⟩;unfold getItem
 try with_reducible refine iO ?_
 first | refine ae (av ?_) | skip
 refine ae (Cf ht.typeIs (by decide) ?_)
 refine ae (ub (name:=BK "__getitem__") ht.typeIs ik
  (wd ik ht.typeIs Bw ?_ (CP _ _)))
 show de _ _ (AO (.ref t) >>= _) _ _ s;refine ae (tupleItemsOf_ ht ?_);refine ae (ya hTs ?_);rw [if_pos (by decide)];refine ae (sliceApplied_gen hs pl pu ?_)
 have hno:¬ ((((sIx items.size 0 lo:Nat):Int) == 0 && (1:Int) == 1 && (sIx items.size items.size hi-sIx items.size 0 lo) == items.size)=true):=by
  intro q;rw [jo,jo] at q;have q1:((sIx items.size 0 lo:Nat):Int)=0:=eq_of_beq q.1.1;have q2:sIx items.size items.size hi-sIx items.size 0 lo=items.size:=eq_of_beq q.2;exact hw ⟨by omega,by omega⟩
 show de _ _ (if (((sIx items.size 0 lo:Nat):Int) == 0 && (1:Int) == 1 && (sIx items.size items.size hi-sIx items.size 0 lo) == items.size)=true then _ else _) _ _ s;rw [if_neg hno,kGA]
 first
  | exact ae (m:=se _) (iR (av ⟨_,rfl,av h⟩) htake)
  | exact ae (m:=se _) (iR (ae (av (av ⟨_,rfl,av h⟩))) htake)
  | exact ae (ae (m:=se _) (iR (av (av ⟨_,rfl,av h⟩)) htake))
  | exact ae (ae (m:=se _) (iR (av ⟨_,rfl,av h⟩) htake))
end
end HT
namespace L2
open PySem PySem.Spec PyProof.Rows
abbrev TO:=St->Hp->(Option Int->Hp->Prop)->Prop
def PO (X:Cx) (e:Option iQ) (t:TO):Prop :=
 ∀ (pins:List (ah×Obj)) (s:ak) (σ:St) (H:Hp) (Q:Option Int->Hp->Prop),Inv X pins σ H s->t σ H Q ->
  de (model X.prog X.w) X.A (evalPart e X.env) (λ u s'=>∃ o H',Inv X pins σ H' s'/\BJ u o/\Q o H') X.xe s
def kIA:TO:=λ _ H Q=>Q none H
def kNP (t:TE):TO:=λ σ H Q=>t σ H λ x H1=>∃ i,x=.int i/\Q (some i) H1
section
variable {X:Cx} {e:iQ} {te:TE} {lo hi:Option iQ} {tl th:TO} {pos p2:Pos}
theorem zS:PO X none kIA:=by
 intro pins s σ H Q I h;rw [evalPart_none];exact av ⟨none,H,I,.none,h⟩
theorem xK (h:PE X e te):PO X (some e) (kNP te):=by
 intro pins s σ H Q I hw;rw [evalPart_some];refine thn (h pins s σ H _ I hw) λ u s1 ⟨x,H1,I1,r1,q1⟩=>?_;obtain ⟨i,rfl,q⟩:=q1;obtain ⟨t,rfl⟩:=r1;exact ⟨some i,H1,I1,.int i t,q⟩
def SlR (X:Cx) (r:V->Option Int->Option Int->Hp->VK->Prop):Prop :=
 ∀ (pins:List (ah×Obj)) (s:ak) (σ:St) (H:Hp) (x:V) (v vl vu:af) (lo hi:Option Int) (sl:ah) (Q:VK),Inv X pins σ H s->RelV x v->s.heap.IsSliceOf sl vl vu .none->BJ vl lo->BJ vu hi->r x lo hi H Q ->
  ∃ T id,typeLookup (.type T) "__getitem__" = pure (some (.builtin id))/\s.TypeIs v T/\de (model X.prog X.w) X.A (getItem v (.ref sl)) (EP X pins σ Q) X.xe s
theorem SlR.or {r r':V->Option Int->Option Int->Hp->VK->Prop} (h:SlR X r) (h':SlR X r'):SlR X (λ x lo hi H Q=>r x lo hi H Q\/r' x lo hi H Q):=by
 intro pins s σ H x v vl vu lo hi sl Q I rx hs pl pu q;rcases q with q | q
 ·exact h pins s σ H x v vl vu lo hi sl Q I rx hs pl pu q
 ·exact h' pins s σ H x v vl vu lo hi sl Q I rx hs pl pu q
def tSl (r:V->Option Int->Option Int->Hp->VK->Prop) (te:TE) (tl th:TO):TE:=λ σ H Q=>te σ H λ x H1=>tl σ H1 λ l H2=>th σ H2 λ u H3=>r x l u H3 Q
theorem xE {r:V->Option Int->Option Int->Hp->VK->Prop} (hr:SlR X r) (he:PE X e te) (hl:PO X lo tl) (hu:PO X hi th):PE X (.Subscript e (.Slice lo hi none p2) pos) (tSl r te tl th):=by
 intro pins s σ H Q I h;refine Subscript_ (thn (he pins s σ H _ I h) λ v s1 ⟨x,H1,I1,r1,q1⟩=>?_);refine wpAny_Slice (thn (hl pins s1 σ H1 _ I1 q1) λ vl s2 ⟨l,H2,I2,pl,q2⟩=>thn (hu pins s2 σ H2 _ I2 q2) λ vu s3 ⟨u,H3,I3,pu,q3⟩=>?_);rw [evalPart_none];refine av ?_;have I4:Inv X pins σ H3 { s3 with heap:=s3.heap.push { cls:=.type "slice",data:=.fields #[vl,vu,.none] } }:=I3.kept (t':=s3.toks) λ b ob q=>ao _ q
 obtain ⟨T,id,hT,ht,hg⟩:=hr pins { s3 with heap:=s3.heap.push { cls:=.type "slice",data:=.fields #[vl,vu,.none] } } σ H3 x v vl vu l u s3.heap.objs.size Q I4 r1 (Fb ..) pl pu q3
 show de (model X.prog X.w) X.A (subscriptTail e (.Slice lo hi none p2) v (.ref s3.heap.objs.size)) (EP X pins σ Q) X.xe { s3 with heap:=s3.heap.push { cls:=.type "slice",data:=.fields #[vl,vu,.none] } }
 exact tail_any (ops:=[.ref s3.heap.objs.size,v]) ht hT hg (by with_unfolding_all rfl)
def uC (xs:List V) (lo hi:Option Int):List V:=(xs.drop (HT.sIx xs.length 0 lo)).take (HT.sIx xs.length xs.length hi-HT.sIx xs.length 0 lo)
theorem dZ (xs:List V) (lo hi:Option Int):(uC xs lo hi).length<=xs.length:=by
 unfold uC;rw [fb,iV];omega
def kOB (K:au):V->Option Int->Option Int->Hp->VK->Prop:=λ x lo hi H Q=>∃ a xs,x=.ref a/\SqT K H a xs /\
 ¬ (HT.sIx xs.length 0 lo=0/\HT.sIx xs.length xs.length hi=xs.length)/\∀ p,H p=none->Q (.ref p) (upd H p (.tup (uC xs lo hi)))
theorem sl_tup:SlR X (kOB X.K):=by
 intro pins s σ H x v vl vu lo hi sl Q I rx hs pl pu h;obtain ⟨a,xs,rfl,hx,hw,q⟩:=h;cases rx
 obtain ⟨its,r,ht,hz⟩:=I.tuple hx;have hlen:its.toArray.size=xs.length:=by rw [eN];exact r.length.symm
 refine ⟨"tuple",_,ik.lookup,ht.typeIs,?_⟩;refine HT.getItem_tuple_cut ht hs pl pu (by rw [hlen];exact hw) ?_ (by rw [hlen];exact hz);rw [hlen];refine ⟨.ref s.heap.objs.size,_,I.laid (t':=s.toks) (o:=.tup (uC xs lo hi)) (λ b ob q=>ao _ q) (be _) ?_,rfl,q _ (I.hok.fresh (be _))⟩;exact ⟨je (dZ xs lo hi) hz,_,(r.drop (HT.sIx xs.length 0 lo)).take (HT.sIx xs.length xs.length hi-HT.sIx xs.length 0 lo),IsTupN.new _ _⟩
def kOH (K:au):R2:=λ x y H Q=>∃ a b xs ys,x=.ref a/\y=.ref b/\SqT K H a xs/\SqT K H b ys/\xs≠[]/\xs.length+ys.length<=sizeLine /\
 (ys=[]->Q (.ref a) H)/\(ys≠[]->∀ p,H p=none->Q (.ref p) (upd H p (.tup (xs++ys))))
theorem Vals.nil_iff {xs:List V} {us:List af} (r:Vals xs us):us=[]↔xs=[]:=by
 cases r with
 | nil=>simp
 | cons _ _=>simp
theorem fT:OpR X (binaryOp .Add) (kOH X.K):=by
 intro pins s σ H x y v u Q I rx ry h;obtain ⟨a,b,xs,ys,rfl,rfl,ha,hb,hx,hz,q1,q2⟩:=h;cases rx
 cases ry
 obtain ⟨its,r1,p1,_⟩:=I.tuple ha;obtain ⟨its2,r2,p2,_⟩:=I.tuple hb;refine HT.cat_tup p1 p2 (λ z=>hx (r1.nil_iff.mp z)) (λ z=>⟨.ref a,H,I,rfl,q1 (r2.nil_iff.mp z)⟩) (λ z=>?_) (by rw [<-r1.length,<-r2.length];exact hz);refine ⟨.ref s.heap.objs.size,_,I.laid (t':=s.toks) (o:=.tup (xs++ys)) (λ b ob q=>ao _ q) (be _) ?_,rfl,q2 (λ w=>z (r2.nil_iff.mpr w)) _ (I.hok.fresh (be _))⟩;exact ⟨by rw [eI];exact hz,_,r1.append r2,IsTupN.new _ _⟩
end
def ixN (n:Nat) (i:Int):Option Nat:=if 0<=i then (if i<n then some i.toNat else none) else if -(n:Int)<=i then some (i+n).toNat else none
def atI {α:Type} (xs:List α) (i:Int):Option α:=(ixN xs.length i).bind λ j=>xs[j]?
theorem kCH {n:Nat} {i:Int} {j:Nat} (h:ixN n i=some j):seqIndex? i n=some j/\j<n/\-(n:Int)<=i/\i<n:=by
 unfold ixN at h;by_cases h0:0<=i
 ·rw [if_pos h0] at h
  by_cases h1:i<n
  ·rw [if_pos h1] at h
   have e:i.toNat=j:=du h;exact ⟨by rw [DW h0 h1,e],by omega,by omega,h1⟩
  ·rw [if_neg h1] at h;cases h
 ·rw [if_neg h0] at h
  by_cases h1 : -(n:Int)<=i
  ·rw [if_pos h1] at h
   have e:(i+n).toNat=j:=du h;exact ⟨by rw [Cg (by omega) h1,e],by omega,h1,by omega⟩
  ·rw [if_neg h1] at h;cases h
theorem kCW {α:Type} {xs:List α} {i:Int} {v:α} (h:atI xs i=some v):∃ j,seqIndex? i xs.length=some j/\xs[j]?=some v/\j<xs.length/\-(xs.length:Int)<=i/\i<xs.length:=by
 unfold atI at h
 cases e:ixN xs.length i with
 | none=>rw [e] at h;cases h
 | some j =>
  rw [e] at h;obtain ⟨h1,h2,h3,h4⟩:=kCH e;exact ⟨j,h1,h,h2,h3,h4⟩
theorem xY {α:Type} {xs:List α} {j:Nat} {v:α} (h:xs[j]?=some v):atI xs (j:Int)=some v:=by
 have hj:j<xs.length:=(ag.mp h).1
 have e:ixN xs.length (j:Int)=some j:=by
  unfold ixN;rw [if_pos (by omega),if_pos (by omega)];simp
 unfold atI;rw [e];exact h
theorem kHP {α:Type} (xs:List α) (v:α):atI (xs++[v]) (-1)=some v:=by
 have hl:(xs++[v]).length=xs.length+1:=by simp
 have e:ixN (xs++[v]).length (-1)=some xs.length:=by
  unfold ixN;rw [hl,if_neg (by decide),if_pos (by omega)]
  congr 1
  omega
 unfold atI;rw [e];show (xs++[v])[xs.length]?=some v;simp
def kJY (b:iQ):Prop:=∀ o i,subscripted b false o i=operate [o,i] (getItem o i)
def IxR (X:Cx) (r:R2):Prop :=
 ∀ (value slice:iQ) (pins:List (ah×Obj)) (s:ak) (σ:St) (H:Hp) (x y:V) (v u:af) (Q:VK),Inv X pins σ H s->RelV x v->RelV y u->r x y H Q ->
  subscripted slice false v u=operate [v,u] (getItem v u)->de (model X.prog X.w) X.A (subscriptTail value slice v u) (EP X pins σ Q) X.xe s
def MtR (X:Cx) (id:String) (r:V->List V->Hp->VK->Prop):Prop :=
 ∀ (pins:List (ah×Obj)) (s:ak) (σ:St) (H:Hp) (x:V) (xs:List V) (v:af) (us:List af) (Q:VK),Inv X pins σ H s->RelV x v->Vals xs us->r x xs H Q ->
  de (model X.prog X.w) X.A (call (.builtin id) (v::us)) (EP X pins σ Q) X.xe s
section
variable {X:Cx} {a b:iQ} {ta tb:TE} {pos:Pos}
theorem qA {r:R2} (hr:IxR X r) (ha:PE X a ta) (hb:PE X b tb) (hs:kJY b):PE X (.Subscript a b pos) (tOp r ta tb):=by
 intro pins s σ H Q I h;exact Subscript_ (kND ha hb I h λ v u s2 x y H2 I2 rx ry q=>hr a b pins s2 σ H2 x y v u Q I2 rx ry q (hs _ _))
def kOF (K:au):R2:=λ x y H Q=>∃ p xs i v,x=.ref p/\y=.int i/\SqL K H p xs/\atI xs i=some v/\Q v H
def kOE (K:au):R2:=λ x y H Q=>∃ p xs i v,x=.ref p/\y=.int i/\SqT K H p xs/\atI xs i=some v/\Q v H
theorem kY:IxR X (kOF X.K):=by
 intro value slice pins s σ H x y v u Q I rx ry h hs;obtain ⟨p,xs,i,z,rfl,rfl,hq,he,q⟩:=h;cases rx
 obtain ⟨t,rfl⟩:=ry;obtain ⟨its,r,pl,hz⟩:=I.list hq;obtain ⟨j,h1,h2,h3,h4,h5⟩:=kCW he;obtain ⟨w,ew,rw'⟩:=r.get h2;have hl:=r.length;have hn:=aQ;have fin:EP X pins σ Q w s:=⟨z,H,I,rw',q⟩;by_cases h0:0<=i
 ·have hj:i.toNat=j:=by
   rw [DW h0 h5] at h1;exact du h1
  exact item_listR pl.isList h0 (by omega) (by rw [hj];simpa using ew) fin hs
 ·have hj:(i+(its.toArray.size:Int)).toNat=j:=by
   rw [Cg (by omega) h4] at h1;rw [eN,<-hl];exact du h1
  exact BL (x:=w) pl.isList.typeIs Ci.lookup
   (wpAny_getItem_list_neg (Q:=λ r s'=>r=w/\EP X pins σ Q r s') pl.isList (by omega) (by rw [eN]<;>omega) (by omega) (by rw [hj];simpa using ew) ⟨rfl,fin⟩) hs
theorem jF:IxR X (kOE X.K):=by
 intro value slice pins s σ H x y v u Q I rx ry h hs;obtain ⟨p,xs,i,z,rfl,rfl,hq,he,q⟩:=h;cases rx
 obtain ⟨t,rfl⟩:=ry;obtain ⟨its,r,pl,hz⟩:=I.tuple hq;obtain ⟨j,h1,h2,h3,h4,h5⟩:=kCW he;obtain ⟨w,ew,rw'⟩:=r.get h2;have hl:=r.length;have hn:=aQ;have fin:EP X pins σ Q w s:=⟨z,H,I,rw',q⟩
 exact BL (x:=w) pl.typeIs slot_tuple_getitem.lookup
  (getItem_tuple (j:=j) (Q:=λ r s'=>r=w/\EP X pins σ Q r s') pl (by omega) (by omega) (by rw [eN,<-hl];exact h1) (by simpa using ew) ⟨rfl,fin⟩) hs
theorem kAR (its:List af) (n j:Nat) (u:af):sf (·.setIfInBounds j u) { cls:=.type "list",data:=.seq its.toArray n }={ cls:=.type "list",data:=.seq (its.set j u).toArray n }:=by
 simp [sf]
theorem Inv.lst {pins:List (ah×Obj)} {σ:St} {H:Hp} {s:ak} {p:ah} {xs:List V} (I:Inv X pins σ H s) (h:H p=some (.lst xs)) :
  ∃ (its:List af) (n:Nat),Vals xs its/\s.heap.get? p=some { cls:=.type "list",data:=.seq its.toArray n }/\xs.length<=sizeLine:=by
 obtain ⟨z,its,n,r,e⟩:=I.hok p _ h;exact ⟨its,n,r,e,z⟩
theorem Inv.lstUpd {pins:List (ah×Obj)} {σ:St} {H:Hp} {s:ak} {p:ah} {xs ys:List V} {its its':List af} {n n':Nat} {f:Obj->Obj} (I:Inv X pins σ H s) (h:H p=some (.lst xs))
  (ho:s.heap.get? p=some { cls:=.type "list",data:=.seq its.toArray n }) (hf:f { cls:=.type "list",data:=.seq its.toArray n }={ cls:=.type "list",data:=.seq its'.toArray n' }) (r:Vals ys its') (hz:ys.length<=sizeLine) (t:Nat) :
  Inv X pins σ (upd H p (.lst ys)) { s with heap:=s.heap.update p f,toks:=t }:=by
 have e:(s.heap.update p f).get? p=some { cls:=.type "list",data:=.seq its'.toArray n' }:=by
  rw [iI f ho (by rw [hf]<;>rfl),hf]
 refine I.write (x:=p) (e:=p) (by rw [h];trivial) (.inl rfl) (λ b u hb q=>(ie _ _ (og hb)).trans q) ⟨_,e⟩ ?_;exact ⟨hz,its',n',r,e⟩
def kOD:V->V->V->Hp->(Hp->Prop)->Prop:=λ o i v H Q=>∃ p xs k j,o=.ref p/\i=.int k/\H p=some (.lst xs)/\ixN xs.length k=some j/\Q (upd H p (.lst (xs.set j v)))
theorem uF:kPC X kOD:=by
 intro pins s σ H o i v ov iv u Q I ro ri rv h;obtain ⟨p,xs,k,j,rfl,rfl,hp,hj,q⟩:=h;cases ro
 obtain ⟨t,rfl⟩:=ri;obtain ⟨its,n,r,ho,hz⟩:=I.lst hp;obtain ⟨h1,h2,h3,h4⟩:=kCH hj;have hl:=r.length;have hn:=aQ
 have I':Inv X pins σ (upd H p (.lst (xs.set j v))) { s with heap:=s.heap.update p (sf (·.setIfInBounds j u)) } :=
  I.lstUpd hp ho (kAR its n j u) (r.set rv j) (by rw [sg];exact hz) s.toks
 by_cases h0:0<=k
 ·have hk:k.toNat=j:=by
   rw [DW h0 h4] at h1;exact du h1
  exact PySem.W.ki_setAt ho h0 (by omega) (by rw [eN,<-hl];exact h4) (by rw [hk];exact ⟨_,I',q⟩)
 ·have hk:(k+(its.toArray.size:Int)).toNat=j:=by
   rw [Cg (by omega) h3] at h1;rw [eN,<-hl];exact du h1
  exact PySem.W.ki_setBack ho (by omega) (by rw [eN,<-hl];exact h3) (by omega) (by rw [hk];exact ⟨_,I',q⟩)
theorem oN (lo hi:Option Int) (n:Nat):(sliceBounds lo hi none n).1=((HT.sIx n 0 lo:Nat):Int)/\(sliceBounds lo hi none n).2.1=((HT.sIx n n hi:Nat):Int)/\(sliceBounds lo hi none n).2.2=1:=by
 refine ⟨?_,?_,rfl⟩
 ·cases lo with
  | none=>simp [sliceBounds,HT.sIx]
  | some i =>
   simp only [sliceBounds,HT.sIx,DI,show (1:Int)>0 by decide,if_true];by_cases h:i<0
   ·simp only [h,if_true]<;>omega
   ·simp only [h,if_false]<;>omega
 ·cases hi with
  | none=>simp [sliceBounds,HT.sIx]
  | some i =>
   simp only [sliceBounds,HT.sIx,DI,show (1:Int)>0 by decide,if_true];by_cases h:i<0
   ·simp only [h,if_true]<;>omega
   ·simp only [h,if_false]<;>omega
theorem mD (its:List af) (lo hi:Option Int):slicePick its.toArray lo hi none=((its.drop (HT.sIx its.length 0 lo)).take (HT.sIx its.length its.length hi-HT.sIx its.length 0 lo)).toArray:=by
 obtain ⟨h1,h2,h3⟩:=oN lo hi its.toArray.size;unfold slicePick;rw [h1,h2,h3];simp only [sliceRange_one,pick_run,eN]<;>rfl
def kPO (K:au):V->Option Int->Option Int->Hp->VK->Prop:=λ x lo hi H Q=>∃ a xs,x=.ref a/\SqL K H a xs/\∀ p,H p=none->Q (.ref p) (upd H p (.lst (uC xs lo hi)))
theorem bE:SlR X (kPO X.K):=by
 intro pins s σ H x v vl vu lo hi sl Q I rx hs pl pu h;obtain ⟨a,xs,rfl,hx,q⟩:=h;cases rx
 obtain ⟨its,r,ht,hz⟩:=I.list hx;have hlen:=r.length;refine ⟨"list",_,Ci.lookup,ht.isList.typeIs,?_⟩;refine wpAny_getItem_list_slice ht.isList hs pl pu .none (by simp) ?_ (by rw [eN]<;>omega);rw [mD,<-hlen];refine ⟨.ref s.heap.objs.size,_,I.laid (t':=s.toks) (o:=.lst (uC xs lo hi)) (λ b ob q=>ao _ q) (be _) ?_,rfl,q _ (I.hok.fresh (be _))⟩;exact ⟨je (dZ xs lo hi) hz,_,0,(r.drop (HT.sIx xs.length 0 lo)).take (HT.sIx xs.length xs.length hi-HT.sIx xs.length 0 lo),eK _ rfl⟩
def aL:V->Bool
 | .non=>true
 | .bl _=>true
 | .int _=>true
 | .str _=>true
 | _=>false
def eqV:V->V->Bool
 | .non,.non=>true
 | .bl a,.bl b=>a == b
 | .bl a,.int b=>(if a then 1 else 0) == b
 | .int a,.bl b=>a == (if b then 1 else 0)
 | .int a,.int b=>a == b
 | .str a,.str b=>a == b
 | _,_=>false
theorem kMX {A:eV} {s:ak} {y x:V} {u v:af} (ry:RelV y u) (rx:RelV x v) (fy:aL y=true) (fx:aL x=true):CQ A s u v (eqV y x):=by
 cases y with
 | non =>
  cases ry
  cases x with
  | non=>cases rx;exact SeqAt.EqAt.same _
  | bl b=>cases rx;exact SeqAt.EqAt.none_bool b
  | int b=>obtain ⟨t,rfl⟩:=rx;exact SeqAt.EqAt.none_int b t
  | str b=>obtain ⟨t,rfl⟩:=rx;exact SeqAt.EqAt.none_str b t
  | _=>exact absurd (show false=true from fx) dj
 | bl a =>
  cases ry
  cases x with
  | non=>cases rx;exact SeqAt.EqAt.bool_none a
  | bl b=>cases rx;exact Bl a b
  | int b=>obtain ⟨t,rfl⟩:=rx;exact SeqAt.EqAt.bool_int a b t
  | str b=>obtain ⟨t,rfl⟩:=rx;exact SeqAt.EqAt.bool_str a b t
  | _=>exact absurd (show false=true from fx) dj
 | int a =>
  obtain ⟨t',rfl⟩:=ry
  cases x with
  | non=>cases rx;exact SeqAt.EqAt.int_none a t'
  | bl b=>cases rx;exact SeqAt.EqAt.int_bool a t' b
  | int b=>obtain ⟨t,rfl⟩:=rx;exact SeqAt.EqAt.int_int a t' b t
  | str b=>obtain ⟨t,rfl⟩:=rx;exact CK a t' b t
  | _=>exact absurd (show false=true from fx) dj
 | str a =>
  obtain ⟨t',rfl⟩:=ry
  cases x with
  | non=>cases rx;exact SeqAt.EqAt.str_none a t'
  | bl b=>cases rx;exact SeqAt.EqAt.str_bool a t' b
  | int b=>obtain ⟨t,rfl⟩:=rx;exact CL a t' b t
  | str b=>obtain ⟨t,rfl⟩:=rx;exact SeqAt.EqAt.str_str a t' b t
  | _=>exact absurd (show false=true from fx) dj
 | _=>exact absurd (show false=true from fy) dj
def eqU (x:V) (u:af):Bool:=match u with
 | .none=>eqV .non x
 | .bool b=>eqV (.bl b) x
 | .int i _=>eqV (.int i) x
 | .str z _=>eqV (.str z) x
 | _=>false
theorem kHE {x y:V} {u:af} (r:RelV y u) (f:aL y=true):eqU x u=eqV y x:=by
 cases y with
 | non=>cases r;rfl
 | bl b=>cases r;rfl
 | int i=>obtain ⟨t,rfl⟩:=r;rfl
 | str z=>obtain ⟨t,rfl⟩:=r;rfl
 | _=>exact absurd (show false=true from f) dj
theorem cK {x:V}:∀ {xs:List V} {us:List af},Vals xs us->xs.all aL=true->us.any (eqU x)=xs.any λ y=>eqV y x
 | _,_,.nil,_=>rfl
 | y::xs,u::us,.cons r t,f=>by
  rw [Eo,jo] at f;rw [BA,BA,kHE r f.1,cK t f.2]
theorem uM {A:eV} {s:ak} {x:V} {v:af} (rx:RelV x v) (fx:aL x=true):∀ {xs:List V} {us:List af},Vals xs us->xs.all aL=true->∀ u∈us,CQ A s u v (eqU x u)
 | _,_,.nil,_=>λ u hu=>by cases hu
 | y::xs,u::us,.cons r t,f=>λ u' hu=>by
  rw [Eo,jo] at f;rcases gv.mp hu with rfl | hu
  ·rw [kHE r f.1];exact kMX r rx f.1 fx
  ·exact uM rx fx t f.2 u' hu
def inV (x:V) (xs:List V):Bool:=xs.any λ y=>eqV y x
def rIn (K:au) (neg:Bool):R2:=λ x y H Q=>∃ p xs,y=.ref p/\(SqL K H p xs\/SqT K H p xs)/\aL x=true/\xs.all aL=true/\Q (.bl (if neg then !inV x xs else inV x xs)) H
theorem mW:OpR X (compareOp .In) (rIn X.K false):=by
 intro pins s σ H x y v u Q I rx ry h;obtain ⟨p,xs,rfl,hq,fx,fs,q⟩:=h;cases ry
 rcases hq with hq | hq
 ·obtain ⟨its,r,pl,hz⟩:=I.list hq
  refine SeqAt.in_listAt (eqU x) pl.isList (λ w hw=>uM rx fx r fs w (by simpa using hw)) ⟨.bl _,H,I,rfl,?_⟩;rw [show its.toArray.any (eqU x)=its.any (eqU x) by simp,cK r fs];exact q
 ·obtain ⟨its,r,pl,hz⟩:=I.tuple hq
  refine SeqAt.in_tupleAt (eqU x) pl (λ w hw=>uM rx fx r fs w (by simpa using hw)) ⟨.bl _,H,I,rfl,?_⟩;rw [show its.toArray.any (eqU x)=its.any (eqU x) by simp,cK r fs];exact q
theorem zT:OpR X (compareOp .NotIn) (rIn X.K true):=by
 intro pins s σ H x y v u Q I rx ry h;obtain ⟨p,xs,rfl,hq,fx,fs,q⟩:=h;cases ry
 rcases hq with hq | hq
 ·obtain ⟨its,r,pl,hz⟩:=I.list hq
  refine CT (eqU x) pl.isList (λ w hw=>uM rx fx r fs w (by simpa using hw)) ⟨.bl _,H,I,rfl,?_⟩;rw [show its.toArray.any (eqU x)=its.any (eqU x) by simp,cK r fs];exact q
 ·obtain ⟨its,r,pl,hz⟩:=I.tuple hq
  refine Bx (eqU x) pl (λ w hw=>uM rx fx r fs w (by simpa using hw)) ⟨.bl _,H,I,rfl,?_⟩;rw [show its.toArray.any (eqU x)=its.any (eqU x) by simp,cK r fs];exact q
theorem kQ:xW X (.builtin "len") (λ xs H Q=>∃ p ys,xs=[.ref p]/\(SqL X.K H p ys\/SqT X.K H p ys)/\Q (.int ys.length) H):=by
 intro pins s σ H xs us Q I r h;obtain ⟨p,ys,rfl,hq,q⟩:=h;obtain ⟨u,rfl,rx⟩:=uA r;cases rx
 have hn:=aQ;rcases hq with hq | hq
 ·obtain ⟨its,r',pl,hz⟩:=I.list hq
  have hlen:=r'.length;exact Calls.call_len_list pl.isList (by simp only [eN]<;>omega) ⟨.int ys.length,H,I.tok _,⟨s.toks+1,by rw [eN,hlen]⟩,q⟩
 ·obtain ⟨its,r',pl,hz⟩:=I.tuple hq
  have hlen:=r'.length;exact len_tuple pl (by simp only [eN]<;>omega) ⟨.int ys.length,H,I.tok _,⟨s.toks+1,by rw [eN,hlen]⟩,q⟩
theorem vX:xW X (.type "list") (λ xs H Q=>∃ p ys,xs=[.ref p]/\(SqL X.K H p ys\/SqT X.K H p ys)/\∀ l,H l=none->Q (.ref l) (upd H l (.lst ys))):=by
 intro pins s σ H xs us Q I r h;obtain ⟨p,ys,rfl,hq,q⟩:=h;obtain ⟨u,rfl,rx⟩:=uA r;cases rx
 have fin:∀ (its:List af),Vals ys its->ys.length<=sizeLine->∀ (h':gw) (c':Nat),(∀ b o',s.heap.get? b=some o'->h'.get? b=some o') ->
   h'.get? s.heap.objs.size=some { cls:=.type "list",dict:=none,data:=.seq its.toArray c',slots:=#[] }->EP X pins σ Q (.ref s.heap.objs.size) { s with heap:=h' }:=λ its r' hz h' c' kp e =>
  ⟨.ref s.heap.objs.size,_,I.laid (t':=s.toks) kp (be _) (show ObjOk X.prog X.w _ h' _ (.lst ys) from ⟨hz,its,c',r',e⟩),rfl,q _ (I.hok.fresh (be _))⟩
 rcases hq with hq | hq
 ·obtain ⟨its,r',pl,hz⟩:=I.list hq
  have hlen:=r'.length;obtain ⟨o,ho,hc,n,hd⟩:=pl.isList;exact call_list_seq p (.inl rfl) ho hc hd (λ h' c' kp e=>fin its r' hz h' c' kp e) (by simp only [eN]<;>omega)
 ·obtain ⟨its,r',pl,hz⟩:=I.tuple hq
  have hlen:=r'.length;obtain ⟨o,ho,hc,n,hd⟩:=pl;exact call_list_seq p (.inr rfl) ho hc hd (λ h' c' kp e=>fin its r' hz h' c' kp e) (by simp only [eN]<;>omega)
theorem jY:xW X (.type "tuple") (λ xs H Q=>∃ p ys,xs=[.ref p]/\((SqL X.K H p ys/\∀ l,H l=none->Q (.ref l) (upd H l (.tup ys)))\/(SqT X.K H p ys/\Q (.ref p) H))):=by
 intro pins s σ H xs us Q I r h;obtain ⟨p,ys,rfl,h⟩:=h;obtain ⟨u,rfl,rx⟩:=uA r;cases rx
 rcases h with ⟨hq,q⟩ | ⟨hq,q⟩
 ·obtain ⟨its,r',pl,hz⟩:=I.list hq
  have hlen:=r'.length;refine call_tuple_list pl.isList (λ h' kp=>?_) (by simp only [eN]<;>omega);have I1:Inv X pins σ H { s with heap:=h' }:=I.kept (t':=s.toks) kp
  have I2:Inv X pins σ (upd H h'.objs.size (.tup ys)) { s with heap:=h'.push { cls:=.type "tuple",data:=.seq its.toArray } } :=
   I1.laid (t':=s.toks) (λ b o e=>ao _ e) (be _) (show ObjOk X.prog X.w _ _ _ (.tup ys) from ⟨hz,its,r',IsTupN.new _ _⟩)
  exact ⟨.ref h'.objs.size,_,I2,rfl,q _ (I1.hok.fresh (be _))⟩
 ·obtain ⟨its,r',pl,hz⟩:=I.tuple hq
  exact call_tuple_same pl ⟨.ref p,H,I,rfl,q⟩
def tyV (K:au) (T:String) (x:V) (H:Hp):Prop:=match x with
 | .str _=>T = "str"
 | .int _=>T = "int"
 | .ref p=>(T = "list"/\∃ xs,SqL K H p xs)\/(T = "tuple"/\((∃ o,K.lookup p=some o/\o.cls=.type "tuple"/\o.dict=none)\/∃ xs,H p=some (.tup xs))) \/
   (T = "dict"/\((∃ kvs,H p=some (.dK kvs))\/∃ kvs,H p=some (.dT kvs)))\/(T = "set"/\∃ S n,H p=some (.set S n))
 | _=>False
theorem kKY {pins:List (ah×Obj)} {σ:St} {H:Hp} {s:ak} {T:String} {x:V} {v:af} (I:Inv X pins σ H s) (r:RelV x v) (ty:tyV X.K T x H) :
  s.TypeIs v T/\∀ a,v=.ref a->∃ ob,s.heap.get? a=some ob/\ob.dict=none:=by
 cases x with
 | str z =>
  obtain ⟨t,rfl⟩:=r
  cases (show T = "str" from ty)
  exact ⟨typeIs_str s z t,λ _ e=>nomatch e⟩
 | int i =>
  obtain ⟨t,rfl⟩:=r
  cases (show T = "int" from ty)
  exact ⟨Dv s i t,λ _ e=>nomatch e⟩
 | ref p =>
  cases r
  rcases ty with ⟨rfl,xs,hq⟩ | ⟨rfl,⟨o,hk,hc,hd⟩ | ⟨xs,hq⟩⟩ | ⟨rfl,hk⟩ | ⟨rfl,S,n,hk⟩
  ·obtain ⟨its,_,pl,_⟩:=I.list hq
   refine ⟨pl.isList.typeIs,λ a e=>?_⟩;cases e
   obtain ⟨o,n,e,c,hd,_⟩:=pl;exact ⟨o,e,hd⟩
  ·refine ⟨⟨o,I.kIn p o hk,hc⟩,λ a e=>?_⟩
   cases e
   exact ⟨o,I.kIn _ o hk,hd⟩
  ·obtain ⟨_,its,_,o,e,c,n,_,hd⟩:=(show ObjOk X.prog X.w H s.heap p (.tup xs) from I.hok p _ hq)
   refine ⟨⟨o,e,c⟩,λ a e2=>?_⟩;cases e2
   exact ⟨o,e,hd⟩
  ·have z:∃ o,s.heap.get? p=some o/\o.ExactDict:=by
    rcases hk with ⟨kvs,hk⟩ | ⟨kvs,hk⟩
    ·obtain ⟨_,_,_,_,o,_,_,e,ex,_⟩:=I.hok p _ hk
     exact ⟨o,e,ex⟩
    ·obtain ⟨_,_,_,_,o,_,_,e,ex,_⟩:=I.hok p _ hk
     exact ⟨o,e,ex⟩
   obtain ⟨o,e,ex⟩:=z;refine ⟨⟨o,e,ex.1⟩,λ a e2=>?_⟩;cases e2
   exact ⟨o,e,ex.2.1⟩
  ·obtain ⟨o,_,_,_,e,ex,_⟩:=I.hok p _ hk
   refine ⟨⟨o,e,ex.1⟩,λ a e2=>?_⟩;cases e2
   exact ⟨o,e,ex.2.1⟩
 | _=>exact jh ty
def tBM (K:au) (T:String) (r:V->List V->Hp->VK->Prop) (to:TE) (t:TA):TE:=λ σ H Q=>to σ H λ x H1=>tyV K T x H1/\t σ H1 λ xs H2=>r x xs H2 Q
variable {o e:iQ} {es:List iQ} {to:TE} {t:TA} {name:Str} {apos cpos:Pos} {T id:String} {r:V->List V->Hp->VK->Prop}
theorem jA (pa:PlainAttrs T) (slot:Slot T name id) (hty:typeOf (.builtin id)=pure (.type "method_descriptor")) (hm:MtR X id r) (ho:PE X o to) (ha:PA X (e::es) t)
  (hbase:attributeBase o name X.env (eval o X.env)=eval o X.env:=by rfl)
  (hfew:((backTo cpos (starEach (e::es) X.env)).all (λ x=>!x.1) && (backToKw cpos (keywordEach [] X.env)).all (λ x=>x.1.isSome)
   && decide ((e::es).length+([]:List Keyword).length+(if ([]:List Keyword).isEmpty then 0 else 1)<30))=true:=by rfl)
  (hline:(apos.endLine == cpos.line)=true:=by rfl) (hs:starEach (e::es) X.env=(false,eval e X.env)::starEach es X.env:=by rfl) (hplain:(backTo cpos (starEach es X.env)).any (·.1)=false:=by rfl) :
  PE X (.Call (.Attribute o name apos) (e::es) [] cpos) (tBM X.K T r to t):=by
 intro pins s σ H Q I h;refine wpAny_Call_method_late hbase hfew hline rfl (thn (ho pins s σ H _ I h) λ v s1 ⟨x,H1,I1,r1,ty,q1⟩=>?_);obtain ⟨h1,h2⟩:=kKY I1 r1 ty;refine ⟨T,id,pa,slot,hty,h1,h2,?_⟩;have hA:=ha cpos pins s1 σ H1 _ I1 q1;rw [hs] at hA ⊢;refine Calls.callWith_builtin (by show (false || (backTo cpos (starEach es X.env)).any (·.1))=false;rw [hplain]<;>rfl) (Calls.evalArgs_plain ?_);exact thn hA λ us s2 ⟨vs,H2,I2,r2,q2⟩=>hm pins s2 σ H2 x vs v us Q I2 r1 r2 q2
end
def MtM (X:Cx) (id:String) (r:V->List V->Hp->VK->Prop):Prop :=
 ∀ (pins:List (ah×Obj)) (s:ak) (σ:St) (H:Hp) (x:V) (xs:List V) (v:af) (us:List af) (Q:VK),Inv X pins σ H s->RelV x v->Vals xs us->r x xs H Q ->
  de (model X.prog X.w) X.A (call (.builtin id) (v::us)) (EP X pins σ Q) X.xe s
theorem Vals.one:∀ {x:V} {us:List af},Vals [x] us->∃ u,us=[u]/\RelV x u
 | _,_,.cons r .nil=>⟨_,rfl,r⟩
theorem Vals.two:∀ {x y:V} {us:List af},Vals [x,y] us->∃ u v,us=[u,v]/\RelV x u/\RelV y v
 | _,_,_,.cons r (.cons q .nil)=>⟨_,_,rfl,r,q⟩
theorem Vals.eraseIdx:∀ {xs:List V} {us:List af} (i:Nat),Vals xs us->Vals (xs.eraseIdx i) (us.eraseIdx i)
 | _,_,_,.nil=>.nil
 | _,_,0,.cons _ t=>t
 | _,_,i+1,.cons r t=>.cons r (Vals.eraseIdx i t)
theorem Vals.rep {xs:List V} {us:List af} (h:Vals xs us):∀ k:Nat,Vals (fh k xs).flatten (fh k us).flatten
 | 0=>.nil
 | k+1=>by
  rw [uc,uc,vd,vd];exact Vals.append h (Vals.rep h k)
theorem dG {α:Type}:∀ (l:List α) (i:Nat),(l.eraseIdx i).length<=l.length
 | [],_=>be _
 | _::_,0=>zg _
 | _::r,i+1=>Nat.succ_le_succ (dG r i)
theorem nL (its:List af):∀ (k:Nat) (acc:List af),
  Dw (λ x1 x2=>x1++x2) acc.toArray (fh k its.toArray)=(acc++(fh k its).flatten).toArray
 | 0,acc=>by simp
 | k+1,acc=>by
  have e:acc.toArray++its.toArray=(acc++its).toArray:=by simp
  have e2:(acc++its)++(fh k its).flatten=acc++(fh (k+1) its).flatten:=by
   rw [uc,vd,eh]
  rw [<-e2,<-nL its k (acc++its),<-e,uc,si]
section
variable {X:Cx} {pins:List (ah×Obj)} {σ:St} {H:Hp} {s:ak} {l b:ah} {xs ys zs:List V}
theorem Inv.lset {its its':List af} {n:Nat} {f:Array af->Array af} {t':Nat} (I:Inv X pins σ H s) (hH:H l=some (.lst xs))
  (e:s.heap.get? l=some { cls:=.type "list",data:=.seq its.toArray n }) (hf:f its.toArray=its'.toArray) (hv:Vals ys its') (hz:ys.length<=sizeLine) :
  Inv X pins σ (upd H l (.lst ys)) { s with heap:=s.heap.update l (sf f),toks:=t' }:=by
 have q:=PySem.IsL.update e f;rw [hf] at q;refine I.write (x:=l) (e:=l) (by rw [hH];exact trivial) (.inl rfl) (λ b' u hb hu=>(ie s.heap (sf f) (og hb)).trans hu) ⟨_,q⟩ ?_;exact ⟨hz,its',_,hv,q⟩
theorem Inv.lnew {its:List af} {t':Nat} (I:Inv X pins σ H s) (hv:Vals ys its) (hz:ys.length<=sizeLine) :
  Inv X pins σ (upd H s.heap.objs.size (.lst ys)) { s with heap:=s.heap.push { cls:=.type "list",data:=.seq its.toArray },toks:=t' } :=
 I.laid (λ _ _ q=>ao _ q) (be _) ⟨hz,its,0,hv,eK _ rfl⟩
theorem Inv.fresh (I:Inv X pins σ H s):H s.heap.objs.size=none:=I.hok.fresh (be _)
theorem Inv.lstM (I:Inv X pins σ H s) (hH:H l=some (.lst xs)):xs.length<=sizeLine/\∃ (its:List af) (n:Nat),Vals xs its/\xs.length=its.length/\s.heap.get? l=some { cls:=.type "list",data:=.seq its.toArray n }:=by
 obtain ⟨z,its,n,r,e⟩:=I.hok l _ hH;exact ⟨z,its,n,r,r.length,e⟩
theorem kGM {n:Nat} (h:n<=sizeLine):wt n=false:=by
 unfold wt;exact decide_eq_false (by omega)
end
section
variable {X:Cx}
def kIO:V->List V->Hp->VK->Prop:=λ x vs H Q=>∃ l xs y,x=.ref l/\vs=[y]/\H l=some (.lst xs)/\xs.length<sizeLine/\Q .non (upd H l (.lst (xs++[y])))
theorem wG:MtM X "list.append" kIO:=by
 intro pins s σ H x vs v us Q I rx rv h;obtain ⟨l,xs,y,rfl,rfl,hH,hz,q⟩:=h;cases rx
 obtain ⟨u,rfl,ru⟩:=rv.one;obtain ⟨z,its,n,r,hl,e⟩:=I.lstM hH;refine uh F.slot_list_append ⟨_,e,rfl⟩ F.entry_list_append (F.args_list_append_2 _ _) (PySem.list_append l its.toArray n u (by rw [eN];omega)) ⟨e,?_⟩;refine ⟨.non,_,I.lset (its':=its++[u]) hH e (by simp) (r.append (.cons ru .nil)) ?_,rfl,q⟩;rw [eI,iu];omega
def kLO:V->List V->Hp->VK->Prop:=λ x vs H Q=>∃ l xs i k y,x=.ref l/\vs=[.int i]/\H l=some (.lst xs)/\-(2 ^ 63)<=i/\i<2 ^ 63/\seqIndex? i xs.length=some k/\xs[k]?=some y/\Q y (upd H l (.lst (xs.eraseIdx k)))
theorem kGN:MtM X "list.pop" kLO:=by
 intro pins s σ H x vs v us Q I rx rv h;obtain ⟨l,xs,i,k,y,rfl,rfl,hH,h1,h2,hk,hy,q⟩:=h;cases rx
 obtain ⟨u,rfl,ru⟩:=rv.one;obtain ⟨t,rfl⟩:=ru;obtain ⟨z,its,n,r,hl,e⟩:=I.lstM hH;obtain ⟨w,hw,rw'⟩:=r.get hy
 refine uh F.slot_list_pop ⟨_,e,rfl⟩ F.entry_list_pop (F.args_list_pop_2 _ _)
  (MeetsSeq.list_pop_at l its.toArray n i t k w (Bm h1 h2) (by rw [eN,<-hl];exact hk) (by rw [<-jd];exact hw) (by rw [eN];omega)) ⟨e,?_⟩
 refine ⟨y,_,I.lset (its':=its.eraseIdx k) hH e ?_ (r.eraseIdx k) ?_,rw',q⟩
 ·show its.toArray.eraseIdxIfInBounds k=(its.eraseIdx k).toArray
  rw [yi]
 ·have:=dG xs k
  omega
def kPT:R2:=λ x y H Q=>∃ l b xs zs,x=.ref l/\y=.ref b/\H l=some (.lst xs)/\H b=some (.lst zs)/\xs.length+zs.length<=sizeLine/\∀ p,H p=none->Q (.ref p) (upd H p (.lst (xs++zs)))
theorem dD:OpR X (binaryOp .Add) kPT:=by
 intro pins s σ H x y v u Q I rx ry h;obtain ⟨l,b,xs,zs,rfl,rfl,hH,hB,hz,q⟩:=h;cases rx
 cases ry
 obtain ⟨z,its,n,r,hl,e⟩:=I.lstM hH;obtain ⟨z2,its2,n2,r2,hl2,e2⟩:=I.lstM hB;refine PySem.P.add_list e e2 ?_ (by rw [eN,eN];omega);have ea:its.toArray++its2.toArray=(its++its2).toArray:=by simp
 rw [ea];exact ⟨.ref _,_,I.lnew (t':=s.toks) (r.append r2) (by rw [eI];omega),rfl,q _ I.fresh⟩
def kPQ:R2:=λ x y H Q=>∃ l k xs,x=.ref l/\y=.int k/\H l=some (.lst xs)/\-(2 ^ 63)<=k/\k<2 ^ 63/\xs.length*k.toNat<=sizeLine /\
 ∀ p,H p=none->Q (.ref p) (upd H p (.lst (fh k.toNat xs).flatten))
theorem kJD {α:Type} (xs:List α) (k:Nat):(fh k xs).flatten.length=k*xs.length:=by
 induction k with
 | zero=>simp
 | succ k ih=>rw [uc,vd,eI,ih,Nat.succ_mul,BM]
theorem kLX:OpR X (binaryOp .Mult) kPQ:=by
 intro pins s σ H x y v u Q I rx ry h;obtain ⟨l,k,xs,rfl,rfl,hH,h1,h2,hz,q⟩:=h;cases rx
 obtain ⟨t,rfl⟩:=ry;obtain ⟨z,its,n,r,hl,e⟩:=I.lstM hH;have hlen:its.toArray.size*k.toNat<=sizeLine:=by rw [eN,<-hl];exact hz
 have hcap:¬ its.toArray.size*k.toNat>(2 ^ 63-1) / 8:=by
  have:(sizeLine:Nat)<=(2 ^ 63-1) / 8:=by decide
  omega
 have hfit:¬ (!Builtin.List.listFitsIndex k)=true:=by
  rw [Bm h1 h2];exact dj
 have hlong:¬ wt (its.toArray.size*k.toNat)=true:=by
  rw [kGM hlen];exact dj
 have hnew:Dw (λ x1 x2=>x1++x2) #[] (fh (if its.toArray.isEmpty=true then 0 else k.toNat) its.toArray)=(fh k.toNat its).flatten.toArray:=by
  have f0:∀ m:Nat,Dw (λ x1 x2=>x1++x2) #[] (fh m its.toArray)=(fh m its).flatten.toArray:=λ m=>by
   have:=nL its m [];rw [sj] at this;exact this
  rw [f0]
  cases its with
  | nil=>simp
  | cons a r'=>rw [if_neg (by simp)]
 refine wpAny_binaryOp_repeat_ref (T:="list") (U:="int") (by decide) ⟨_,e,rfl⟩ (λ s'=>Dv s' k t) noFill_list_mul F.fills_int_mul Dd repeat_list F.slot_int_index.lookup
  (uh Dd (Dv s k t) F.entry_int_rmul (F.args_int_rmul_2 _ _) (int___rmul___int_list k t l its.toArray n)
   ⟨e,rfl,⟨_,e,rfl⟩,uh F.slot_list_mul ⟨_,e,rfl⟩ F.entry_list_mul (F.args_list_mul_2 _ _) (AutoListH.list___mul___list_int_3 l its.toArray n k t hfit hcap hlong) ⟨e,?_⟩⟩)
 rw [hnew];exact ⟨.ref _,_,I.lnew (t':=s.toks) (r.rep k.toNat) (by rw [kJD,Nat.mul_comm];exact hz),rfl,q _ I.fresh⟩
end
section
variable {prog:eU} {w:gk} {A:eV} {E:af->ak->Prop} {s:ak}
end
section
variable {X:Cx}
end
end L2
namespace Att
open PySem PySem.W PySem.Calls PyProof.Rows
theorem fH {P:Fe} {h:gw}:∀ (ns:List Int) (vs:List af),WellAll P h vs (ns.map Fv)->Cj vs ns:=by
 intro ns
 induction ns with
 | nil =>
  intro vs w;rw [BN] at w;cases w
  exact .nil
 | cons n ns ih =>
  intro vs w;rw [iW] at w
  cases w with
  | cons a b =>
   cases a
   exact .cons _ _ (ih _ b)
theorem kDI {l:OpenLaw} {n:Nat} (hn:l.most=some n) {P:Fe} {h:gw} {args:List WData} {vals:List af}
  (hpre:l.row.toRowW.claim.pre args=true) (hwl:WellAll P h vals args) :
  ∃ a vs ns,vals=[fo a]/\args=[WData.list (ns.map Fv)]/\h.get? a=some { cls:=.type "list",data:=.seq vs.toArray }/\Cj vs ns/\ns.length<=n:=by
 have hsh:WShape.hasAll [] args [.list .int]=true:=(pre_splitW hpre).1;have hc:l.pre.holds [] { args:=args }=true:=(pre_splitW hpre).2;obtain ⟨d,r,rfl,h1,h2⟩:=hasAllW_cons hsh;obtain rfl:=hasAllW_nil h2;obtain ⟨xs,rfl,h3⟩:=hasW_list h1;obtain ⟨ns,rfl⟩:=items_int h3
 have hlen:ns.length<=n:=by
  unfold OpenLaw.pre at hc
  have h4:(WTm.not (.lt (.lit (.int (n:Int))) (.len (.arg 0)))).holds [] { args:=[.list (ns.map .int)] }=true:=by
   have h4:=(holds_andW hc).1;rw [hn] at h4;exact h4
  have h5:=condW_of h4 (w_not (w_lt w_lit (w_len_list (w_arg rfl))));rw [aj] at h5;refine Nat.le_of_not_lt λ q=>?_;have q':(n:Int)<((ns.length:Nat):Int):=by omega
  first
   | (rw [decide_eq_true q'] at h5;exact absurd h5 (by decide))
   | (simp at h5;omega)
 cases hwl with
 | cons w1 w2 =>
  cases w2
  cases w1 with
  | list ho hall=>exact ⟨_,_,ns,rfl,rfl,ho,fH ns _ hall,hlen⟩
theorem kDM (l:OpenLaw) (args:List WData):l.row.toRowW.claim.post args (.bool true) args=true :=
 postW_of (r:=l.row.toRowW) (X:=(true == true))
  (show Ff [] (.bool true) .bool=true by first | rfl | decide | simp [Ff,WShape.arms,WShape.armsAll])
  (show (WTm.eq .res (.lit (.bool true))).value [] { args:=args,res:=some (.bool true),after:=args }=some (.bool (true == true)) from w_eq_bool (w_res rfl) w_lit) rfl
theorem attach_call {l:OpenLaw} {n:Nat} {q:eU} {loose:List Str} {XP:(Str->Option af)->gw->Prop} {YP:gk->gw->Prop} {d:DefRec}
  (hn:l.most=some n) (hdf:d.params.defaults=[])
  (call:∀ (w:gk) (s₀ s₁:ak) (mg mb:Str->Option af) (fa:ah) (o:Obj) (pm cd doc:af) (a:ah) (vs:List af) (ns:List Int),
   Ground q loose [] XP w s₀ mg mb s₁.heap->YP w s₁.heap ->
   s₁.heap.get? fa=some o->o.data=.func (docDef d.name d.params d.body d.scope pm cd doc)->s₁.heap.CodeRec cd d.name->mg d.name=some (.ref fa) ->
   s₁.heap.get? a=some { cls:=.type "list",data:=.seq vs.toArray }->Cj vs ns->ns.length<=n->s₁.gens = #[] ->
   codeAny (model l.prog w) callerA (.call (.ref fa) ⟨[.ref a],[]⟩) (λ r s'=>r=.ok (.ret (.bool true))/\OldK s₁.heap s'.heap/\s'.os=s₁.os/\AD s'.gens) s₁) :
  WalkO q loose XP YP l.row.toRowW d [] (λ f vs=>Dx f vs):=by
 intro w s₀ s₁ mg mb G Y fa o pm cd doc dV kV ho hd hcd hD hmg hg args vals as hpre hlay hrd hwl hlo;obtain rfl:dV=.none:=Dflts.none hD hdf;obtain rfl:kV=.none:=Dflts.noKw hD;obtain ⟨a,vs,ns,rfl,rfl,hobj,hints,hlen⟩:=kDI hn hpre hwl;refine enter_call (xv (call w s₀ s₁ mg mb fa o pm cd doc a vs ns G Y ho (fd_plain hd) hcd hmg hobj hints hlen hg) λ r s' hq=>?_);obtain ⟨rfl,h2,h3,h4⟩:=hq;exact ⟨.inl ⟨.bool true,.bool true,[],rfl,λ _=>rfl,.bool true,kDM l _,λ _=>⟨Ak,λ _ hm=>(nomatch hm)⟩⟩,h2,h3,h4⟩
section
variable {prog:eU} {w:gk} {A:eV} {E:af->ak->Prop} {s:ak} {K:Fw}
end
end Att
namespace L2
open PySem PySem.Spec PyProof.Rows
theorem mM:∀ {vs:List af} {ns:List Int},Cj vs ns->Vals (ns.map V.int) vs
 | _,_,.nil=>.nil
 | _,_,.cons n t h=>.cons ⟨t,rfl⟩ (mM h)
def kNJ (H:Hp):Prop:=∀ b,H b=none\/∃ o xs,H b=some (.frz o (.lst xs))
theorem kGQ {P:eU} {w:gk} {K:au} {mg mb:Str->Option af} {CX:CXT} {k:Nat} {fa a:ah} {fd:eO} {x:Str} {sp:Sp} {s₁:ak} {vs:List af} {ns:List Int}
  (KX:K.In s₁.heap) (hns:s₁.heap.Ns az mg) (hb:s₁.heap.Ns builtinsNs mb) (hbb:∀ x:Str,x≠"__name__"->mb x=bootBuiltins x) (hlim:s₁.heap.NoLimit) (hg:s₁.gens = #[])
  (ha:s₁.heap.get? a=some { cls:=.type "list",data:=.seq vs.toArray }) (hi:Cj vs ns) (hl:ns.length<=sizeLine) (hr:Room k callerA)
  (F:∀ base:gw,K.In base->base.Ns az mg->FnOk P w K mg base CX k fa fd [x] sp) (hbind:∀ (s:ak) (u:af),Bu s fd ⟨[u],[]⟩ [(x,u)])
  (hsp:∀ H:Hp,kNJ H->SqL K H a (ns.map V.int)->sp [.ref a] H (λ v _=>v=.bl true) λ _ _ _=>False)
  (hCX:∀ H e s',CX [] H s₁ (λ _ _ _=>False) e s'->False) :
  codeAny (model P w) callerA (.call (.ref fa) ⟨[.ref a],[]⟩) (λ r s'=>r=.ok (.ret (.bool true))/\OldK s₁.heap s'.heap/\s'.os=s₁.os/\AD s'.gens) s₁:=by
 have rv:=mM hi
 have lenV:=hi.length
 have core:∀ H:Hp,kNJ H->SqL K H a (ns.map V.int)->HOk P w H s₁.heap->(∀ b,H b≠none->b=a)->(H a≠none->K.lookup a=none) ->
   codeAny (model P w) callerA (.call (.ref fa) ⟨[.ref a],[]⟩) (λ r s'=>r=.ok (.ret (.bool true))/\OldK s₁.heap s'.heap/\s'.os=s₁.os/\AD s'.gens) s₁:=by
  intro H hO hS hok hA hK;have base_of:∀ {b:ah} {o:Obj},s₁.heap.get? b=some o->H b=none->(pW s₁.heap H).get? b=some o:=λ e n=>kGV e n
  have noA:∀ {b:ah} {o:Obj} {es:Array DJ} {ep:Nat},s₁.heap.get? b=some o->o.data=.dict es ep->H b=none:=λ {b o es ep} e d=>by
   cases q:H b with
   | none=>rfl
   | some u =>
    have e':b=a:=hA b (by rw [q];simp);subst e';rw [ha] at e;cases e;have d':Data.seq vs.toArray _=Data.dict es ep:=d
    cases d'
  have nsK:∀ {b:ah} {m:Str->Option af},s₁.heap.Ns b m->(pW s₁.heap H).Ns b m:=λ {b m} ⟨o,es,ep,e,d,r⟩=>⟨o,es,ep,base_of e (noA e d),d,r⟩
  have hKb:K.In (pW s₁.heap H):=λ b o e=>base_of (KX b o e) (by
   cases q:H b with
   | none=>rfl
   | some u =>
    have e':b=a:=hA b (by rw [q];simp);subst e';rw [hK (by rw [q];simp)] at e;cases e)
  have hM:Mod K mg (pW s₁.heap H):=⟨hKb,nsK hns,⟨mb,nsK hb,hbb⟩,let ⟨mc,h1,h2⟩:=hlim;⟨mc,nsK h1,h2⟩⟩;have e0:Env0 P w K mg (pW s₁.heap H) callerA [] s₁ H:=⟨rfl,hM,λ b o e=>kIZ e,Ck (kEF _ _),trivial,λ b hb=>absurd (show b∈([]:List ah) from hb) (by simp),hok,.of_eq hg⟩;refine xv ((F _ hKb (nsK hns)).run callerA [] s₁ H ⟨[.ref a],[]⟩ [.ref a] [.ref a] _ _ hr e0 (hbind s₁ (.ref a)) (.cons rfl .nil) (hsp H hO hS)) λ r s' h=>?_
  cases r with
  | error e=>exact (hCX H e s' h).elim
  | ok fl =>
   cases fl with
   | next=>exact jh h
   | brk=>exact jh h
   | cont=>exact jh h
   | ret u =>
    obtain ⟨v,H',os,bare,un,hok',r',q⟩:=h;have q':v=.bl true:=q;subst q';obtain rfl:u=qa true:=r';refine ⟨rfl,OldK.of_keep λ b o e=>?_,os,bare⟩
    cases q:H b with
    | none=>exact un.keep b o e q (by intro z;exact absurd (show b∈([]:List ah) from z) (by simp)) (by simp)
    | some u =>
     rcases hO b with z | ⟨ob,xs,z⟩
     ·rw [q] at z;cases z
     ·have z2:=un.frzs b ob _ z
      obtain ⟨e1,_⟩:=hok b _ z;obtain ⟨e2,_⟩:=hok' b _ z2;rw [e] at e1;cases e1;exact e2
 cases hk:K.lookup a with
 | some o =>
  have e:=KX a o hk;rw [ha] at e;cases e
  refine core (λ _=>none) (λ _=>.inl rfl) (.inr ⟨_,vs.toArray,_,hk,rfl,rfl,rfl,by rw [eN,lenV];exact hl,by simpa using rv⟩) (λ b u z=>by have z':(none:Option HO)=some u:=z;cases z') (λ b z=>absurd rfl z) λ z=>absurd rfl z
 | none =>
  refine core (λ b=>if b=a then some (.frz { cls:=.type "list",data:=.seq vs.toArray } (.lst (ns.map V.int))) else none) (λ b=>?_) (.inl (.inr ⟨{ cls:=.type "list",data:=.seq vs.toArray },if_pos rfl⟩)) (λ b u z=>?_) (λ b z=>?_) λ _=>hk
  ·by_cases hb:b=a
   ·exact .inr ⟨_,_,if_pos hb⟩
   ·exact .inl (if_neg hb)
  ·by_cases hb:b=a
   ·have z':=(if_pos hb).symm.trans z
    cases z'
    subst hb;exact ⟨ha,by rw [aj];exact hl,vs,_,rv,ha⟩
   ·have z':=(if_neg hb).symm.trans z
    cases z'
  ·by_cases hb:b=a
   ·exact hb
   ·exact absurd (if_neg hb) z
theorem walk_of {l:BW} {n k:Nat} {q:eU} {loose:List Str} {XP:(Str->Option af)->gw->Prop} {YP:gk->gw->Prop} {d:DefRec} {K:Fe->au} {CX:gk->CXT} {sp:gk->Sp} {x:Str}
  (hn:l.most=some n) (hn2:n<=sizeLine) (hdf:d.params.defaults=[]) (hr:Room k callerA)
  (hY:∀ (w:gk) (h:gw),YP w h->(K w.params).In h)
  (F:∀ (w:gk) (mg:Str->Option af) (fa:ah) (h:gw),(K w.params).In h->h.Ns az mg->mg d.name=some (.ref fa) ->
   ∃ fd:eO,(∀ (s:ak) (u:af),Bu s fd ⟨[u],[]⟩ [(x,u)]) /\
    ∀ base:gw,(K w.params).In base->base.Ns az mg->FnOk l.prog w (K w.params) mg base (CX w) k fa fd [x] (sp w))
  (hsp:∀ (w:gk) (H:Hp) (a:ah) (ns:List Int),ns.length<=n->kNJ H->SqL (K w.params) H a (ns.map V.int)->sp w [.ref a] H (λ v _=>v=.bl true) λ _ _ _=>False)
  (hCX:∀ (w:gk) (H:Hp) (s:ak) (e:af) (s':ak),CX w [] H s (λ _ _ _=>False) e s'->False) :
  Ep q loose XP YP l.row.toRowW d [] (λ f vs=>Dx f vs):=by
 refine Att.attach_call hn hdf λ w s₀ s₁ mg mb fa o pm cd doc a vs ns G Y ho hd hcd hmg hobj hints hlen hg=>?_;have KX:=hY w _ Y;obtain ⟨fd,hb,hF⟩:=F w mg fa _ KX G.T.g hmg;exact kGQ KX G.T.g G.T.b G.T.builtins G.T.nolimit hg hobj hints (je hlen hn2) hr hF hb (λ H hO hS=>hsp w H a ns hlen hO hS) λ H e s'=>hCX w H s₁ e s'
def kS (s:jw):FB:=match s with
 | .FunctionDef _ a _ _ _ _ _ _ _ _=>a
 | _=>{ posonlyargs:=[],args:=[],vararg:=none,kwonlyargs:=[],kw_defaults:=[],kwarg:=none,defaults:=[] }
def kR (s:jw):List jw:=match s with
 | .FunctionDef _ _ b _ _ _ _ _ _ _=>b
 | _=>[]
def kE (s:jw):ua:=match s with
 | .FunctionDef _ _ _ _ _ _ sc _ _ _=>sc
 | _=>{ kind:=.function,names:=[],isGenerator:=false,isCoroutine:=false }
abbrev CX0:CXT:=λ _ _ _ _ _ _=>False
abbrev E0:XK:=λ _ _ _=>False
theorem kKF {X:Cx}:dS CX0 X E0:=λ _ _ _ _ _ _ _ h=>h.elim
structure Fun (K:au) (x qual:Str) (st:jw) (f:ah) (fd:eO):Prop where
 ex:∃ (oc:af) (od:Option ah) (kV doc pm:af) (an:Option ah) (cdv ct:af) (osl:Array (Option af)),
  fd=cx x qual (kS st) (kR st) (kE st) .none kV doc pm an cdv ct/\K.lookup f=some ⟨oc,od,.func fd,osl⟩/\cq K cdv qual=true
 kp:bj K (.ref f)=true
section
variable {P:eU} {w:gk} {K:au} {mg:Str->Option af} {base:gw}
theorem Fun.ok {x qual:Str} {st:jw} {f:ah} {fd:eO} {N ps:List Str} {k:Nat} {sp:Sp} (F:Fun K x qual st f fd) (S:FnScope N ps (kE st)) (len:∀ vs H Q E,sp vs H Q E->vs.length=ps.length)
  (hbody:∀ (cdv:af) (A:eV) (outer:List Env) (s:ak) (H:Hp) (vs:List V) (Q:VK) (E:XK),Room k (A.deeper (envOfC qual (kE st) s.heap.objs.size f cdv))->sp vs H Q E ->
   ∃ t,PSs (sX CX0 P w K mg base N qual (kE st) f cdv A outer s H E).nox (kR st) t/\t { nx:=λ _ H'=>Q .non H',rt:=Q } (start N vs) H):FnOk P w K mg base CX0 (k+1) f fd ps sp:=by
 obtain ⟨oc,od,kV,doc,pm,an,cdv,ct,osl,rfl,lk,hcd⟩:=F.ex;refine kKL lk hcd S len λ A outer s H vs Q E hr hsp=>?_;obtain ⟨t,h,q⟩:=hbody cdv A outer s H vs Q E hr hsp;exact ⟨t,h.nox,q⟩
theorem Fun.binds {x qual:Str} {st:jw} {f:ah} {fd:eO} {ps:List Str} (F:Fun K x qual st f fd)
  (h:∀ (kV doc pm:af) (an:Option ah) (cdv ct:af) (us:List af),us.length=ps.length->bindArgs (cx x qual (kS st) (kR st) (kE st) .none kV doc pm an cdv ct) ⟨us,[]⟩=pure (ps.zip us)):Binds K fd ps []:=by
 obtain ⟨oc,od,kV,doc,pm,an,cdv,ct,osl,rfl,lk,hcd⟩:=F.ex;exact .all (h kV doc pm an cdv ct)
theorem kZ {x qual:Str} {st:jw} {f:ah} {oc:af} {od an:Option ah} {osl:Array (Option af)} {kV doc pm cdv ct:af} (l:K.lookup f=some ⟨oc,od,.func (cx x qual (kS st) (kR st) (kE st) .none kV doc pm an cdv ct),osl⟩)
  (c:cq K cdv qual=true) (k:bj K (.ref f)=true):Fun K x qual st f (cx x qual (kS st) (kR st) (kE st) .none kV doc pm an cdv ct):=⟨⟨oc,od,kV,doc,pm,an,cdv,ct,osl,rfl,l,c⟩,k⟩
end
theorem lN {A:eV} {k:Nat} (hr:Room k A):A.units+1<cLine:=eP (Nat.add_le_add_left (by decide:1<=64) _) hr.units
theorem qJ {n:Nat} (h:n<=1000):n<sizeLine:=eP h (by decide)
section
variable {X:Cx}
theorem pv (i:Nat) {x:Str} {pos:Pos} (hN:X.N[i]?=some x:=by rfl) (hv:Vis X.env.scope x:=by first | exact cz rfl | exact FG (cz rfl) | exact FG (FG rfl)) (hd:(x == ("__debug__" : Str))=false:=by decide)
  (hcd:(x == ("__classdict__" : Str))=false:=by decide):PE X (.Name x pos) (tO i):=kLS hN hv hd hcd
end
theorem xB {A B:Prop} (h:B):if false=true then A else B:=by
 rw [if_neg dj];exact h
theorem uN {A B:Prop} (h:A):if true=true then A else B:=by
 rw [if_pos rfl];exact h
theorem pV {c A B:Prop} [Decidable c] (h1:c->A) (h2:¬ c->B):if c then A else B:=by
 by_cases h:c
 ·rw [if_pos h]
  exact h1 h
 ·rw [if_neg h]
  exact h2 h
def Same (H H':Hp):Prop:=∀ b o,H b=some o->H' b=some o
theorem Same.refl (H:Hp):Same H H:=λ _ _ h=>h
theorem Same.trans {H H1 H2:Hp} (a:Same H H1) (b:Same H1 H2):Same H H2:=λ c o h=>b c o (a c o h)
theorem Same.free {H H':Hp} (e:Same H H') {l:ah} (h:H' l=FT):H l=FT:=by
 cases q:H l with
 | none=>rfl
 | some o =>
  rw [e l o q] at h;cases h
section
variable {κ:Type} [DecidableEq κ]
def yP (kvs:List (κ×V)) (k:κ):Option V:=(kvs.find? λ kv=>decide (kv.1=k)).map (·.2)
def wN (kvs:List (κ×V)) (k:κ) (v:V):List (κ×V) :=
 if (kvs.any λ kv=>decide (kv.1=k))=true then kvs.map (λ kv=>if kv.1=k then (kv.1,v) else kv) else kvs++[(k,v)]
theorem jO {p:κ×V} {r:List (κ×V)} {k:κ} (e:p.1=k):yP (p::r) k=some p.2:=by simp [yP,uo,e]
theorem jP {p:κ×V} {r:List (κ×V)} {k:κ} (e:¬ p.1=k):yP (p::r) k=yP r k:=by simp [yP,uo,e]
theorem aY (k:κ):∀ kvs:List (κ×V),(kvs.any λ kv=>decide (kv.1=k))=(yP kvs k).isSome
 | []=>rfl
 | p::r=>by
  rw [BA];by_cases e:p.1=k
  ·simp only [jO e,decide_eq_true e,Bool.true_or,Option.isSome_some]
  ·rw [jP e,decide_eq_false e,Bool.false_or];exact aY k r
theorem rO (k j:κ) (y:V):∀ kvs:List (κ×V),yP (kvs.map λ kv=>if kv.1=k then (kv.1,y) else kv) j=(yP kvs j).map λ x=>if j=k then y else x
 | []=>rfl
 | p::r=>by
  have ih:=rO k j y r;rw [iW];by_cases h:p.1=k
  ·rw [if_pos h]
   by_cases e:p.1=j
   ·rw [jO (p:=(p.1,y)) e,jO e,uq,if_pos (e.symm.trans h)]
   ·rw [jP (p:=(p.1,y)) e,jP e,ih]
  ·rw [if_neg h]
   by_cases e:p.1=j
   ·rw [jO (p:=p) e,jO e,uq,if_neg (λ z=>h (e.trans z))]
   ·rw [jP (p:=p) e,jP e,ih]
theorem mO (k j:κ) (y:V):∀ kvs:List (κ×V),yP kvs k=none->yP (kvs++[(k,y)]) j=if j=k then some y else yP kvs j
 | [],_=>by
  by_cases e:k=j
  ·rw [if_pos e.symm];exact jO (p:=(k,y)) e
  ·rw [if_neg (λ z=>e z.symm)];exact jP (p:=(k,y)) e
 | p::r,hn=>by
  rw [vj];have hk:¬ p.1=k:=λ z=>by rw [jO z] at hn;cases hn
  rw [jP hk] at hn;have ih:=mO k j y r hn;by_cases e:p.1=j
  ·rw [jO e,jO e,if_neg (λ z=>hk (e.trans z))]
  ·rw [jP e,jP e,ih]
theorem rM (kvs:List (κ×V)) (k j:κ) (y:V):yP (wN kvs k y) j=if j=k then some y else yP kvs j:=by
 unfold wN;by_cases a:(kvs.any λ kv=>decide (kv.1=k))=true
 ·rw [if_pos a,rO]
  rw [aY] at a;by_cases e:j=k
  ·obtain ⟨x,hx⟩:=Ar.mp a
   rw [if_pos e,e,hx,uq,if_pos rfl]
  ·rw [if_neg e]
   cases yP kvs j with
   | none=>rfl
   | some x=>rw [uq,if_neg e]
 ·rw [if_neg a]
  refine mO k j y kvs ?_;rw [aY] at a
  cases q:yP kvs k with
  | none=>rfl
  | some x=>rw [q] at a;exact (a rfl).elim
theorem yN (kvs:List (κ×V)) (k:κ) (v:V):(wN kvs k v).length<=kvs.length+1:=by
 unfold wN
 split
 ·rw [aj];omega
 ·rw [eI,iE,qc];omega
theorem RelO.isSome_eq {o:Option V} {u:Option af} (r:RelO o u):o.isSome=u.isSome:=by
 cases o with
 | none=>cases u with
  | none=>rfl
  | some _=>exact (show False from r).elim
 | some _=>cases u with
  | none=>exact (show False from r).elim
  | some _=>rfl
theorem KV.val {kvs:List (κ×V)} {vs:List (κ×af)} (r:KV kvs vs) (k:κ):RelO (yP kvs k) (valueAt vs k):=by
 unfold KV at r
 induction r with
 | nil=>exact jq
 | @cons p q ps qs h t ih =>
  obtain ⟨h1,h2⟩:=h;by_cases e:p.1=k
  ·have e':q.1=k:=h1.symm.trans e
   have b:valueAt (q::qs) k=some q.2:=by simp [valueAt,uo,e']
   rw [jO e,b];exact h2
  ·have e':¬ q.1=k:=λ z=>e (h1.trans z)
   have b:valueAt (q::qs) k=valueAt qs k:=by simp [valueAt,uo,e']
   rw [jP e,b];exact ih
theorem KV.any {kvs:List (κ×V)} {vs:List (κ×af)} (r:KV kvs vs) (k:κ):(kvs.any λ kv=>decide (kv.1=k))=vs.any λ kv=>decide (kv.1=k):=by
 unfold KV at r
 induction r with
 | nil=>rfl
 | cons h t ih=>rw [BA,BA,ih,h.1]
theorem KV.repl {kvs:List (κ×V)} {vs:List (κ×af)} (r:KV kvs vs) (k:κ) {y:V} {u:af} (ry:RelV y u) :
  KV (kvs.map λ kv=>if kv.1=k then (kv.1,y) else kv) (vs.map λ kv=>if kv.1=k then (kv.1,u) else kv):=by
 unfold KV at r ⊢
 induction r with
 | nil=>exact .nil
 | @cons p q ps qs h t ih =>
  rw [iW,iW];refine .cons ?_ ih;obtain ⟨h1,h2⟩:=h;by_cases e:p.1=k
  ·rw [if_pos e,if_pos (h1.symm.trans e)];exact ⟨h1,ry⟩
  ·rw [if_neg e,if_neg (λ z=>e (h1.trans z))];exact ⟨h1,h2⟩
theorem KV.put {kvs:List (κ×V)} {vs:List (κ×af)} (r:KV kvs vs) (k:κ) {y:V} {u:af} (ry:RelV y u):KV (wN kvs k y) (stored vs k u):=by
 unfold wN stored;rw [r.any k];by_cases e:(vs.any λ kv=>decide (kv.1=k))=true
 ·rw [if_pos e,if_pos e];exact r.repl k ry
 ·rw [if_neg e,if_neg e];exact FU r ⟨rfl,ry⟩
theorem KV.length {kvs:List (κ×V)} {vs:List (κ×af)} (r:KV kvs vs):kvs.length=vs.length:=rm r
end
theorem kCG {P:eU} {w:gk} {k:Key} {u:af} (r:RelV (kV k) u):(qN P w).is k u=true:=by
 cases k with
 | inl i=>obtain ⟨t,e⟩:=(show ∃ t,u=uu i t from r);subst e;exact sE P w i t
 | inr x=>obtain ⟨t,e⟩:=(show ∃ t,u=Bt x t from r);subst e;exact sC P w x t
theorem nH {P:eU} {w:gk}:∀ {ks:List Key} {us:List af},Vals (ks.map kV) us->ItemsAre (qN P w) ks us
 | [],_,r=>by rw [BN] at r;cases r;exact .nil
 | k::ks,_,r=>by
  rw [iW] at r
  cases r with
  | cons h t=>exact .cons (kCG h) (nH t)
abbrev KT (H:Hp):List (List Key×V)->List (List Key×ah×af)->Prop:=Dk λ p q=>p.1=q.1/\H q.2.1=some (.tup (p.1.map kV))/\RelV p.2 q.2.2
theorem KT.val {H:Hp} {kvs:List (List Key×V)} {xs:List (List Key×ah×af)} (r:KT H kvs xs) (k:List Key):RelO (yP kvs k) ((atKey xs k).map (·.2)):=by
 induction r with
 | nil=>exact jq
 | @cons p q ps qs h t ih =>
  obtain ⟨h1,_,h2⟩:=h;by_cases e:p.1=k
  ·have e':q.1=k:=h1.symm.trans e
   have b:atKey (q::qs) k=some q.2:=by simp [atKey,uo,e']
   rw [jO e,b];exact h2
  ·have e':¬ q.1=k:=λ z=>e (h1.trans z)
   have b:atKey (q::qs) k=atKey qs k:=by simp [atKey,uo,e']
   rw [jP e,b];exact ih
theorem KT.repl {H:Hp} {kvs:List (List Key×V)} {xs:List (List Key×ah×af)} (r:KT H kvs xs) (k:List Key) {y:V} {u:af} (ry:RelV y u) :
  KT H (kvs.map λ kv=>if kv.1=k then (kv.1,y) else kv) (xs.map (putAt k u)):=by
 induction r with
 | nil=>exact .nil
 | @cons p q ps qs h t ih =>
  rw [iW,iW];refine .cons ?_ ih;obtain ⟨h1,h2,h3⟩:=h;unfold putAt;by_cases e:p.1=k
  ·rw [if_pos e,if_pos (h1.symm.trans e)];exact ⟨h1,h2,ry⟩
  ·rw [if_neg e,if_neg (λ z=>e (h1.trans z))];exact ⟨h1,h2,h3⟩
theorem KT.put {H:Hp} {kvs:List (List Key×V)} {xs:List (List Key×ah×af)} (r:KT H kvs xs) (k:List Key) {b:ah} {y:V} {u:af} (hb:H b=some (.tup (k.map kV))) (ry:RelV y u) :
  KT H (wN kvs k y) (storedH xs k b u):=by
 have e:(kvs.any λ kv=>decide (kv.1=k))=(atKey xs k).isSome:=by
  rw [aY,(r.val k).isSome_eq,Cm]
 unfold wN storedH;rw [e];by_cases q:(atKey xs k).isSome=true
 ·rw [if_pos q,if_pos q];exact r.repl k ry
 ·rw [if_neg q,if_neg q];exact FU r ⟨rfl,hb,ry⟩
theorem KT.keeps {H H':Hp} {kvs:List (List Key×V)} {xs:List (List Key×ah×af)} (r:KT H kvs xs) (ht:∀ b ys,H b=some (.tup ys)->H' b=some (.tup ys)):KT H' kvs xs :=
 Paired.mapP r λ _ _ z=>⟨z.1,ht _ _ z.2.1,z.2.2⟩
section
variable {P:eU} {w:gk} {H:Hp} {h:gw} {a:ah}
theorem kKD {u:HO} (ok:HOk P w H h) (e:Rd H a u):ObjOk P w H h a u:=e.ok ok
theorem kKN {kvs:List (Key×V)} (ok:HOk P w H h) (e:Rd H a (.dK kvs)):kvs.length<=sizeLine/\(a == sysModules)=false/\∃ vs,KV kvs vs/\h.DictOf (qN P w) a vs :=
 show ObjOk P w H h a (.dK kvs) from kKD ok e
theorem kKO {kvs:List (Key×V)} (ok:HOk P w H h) (e:H a=some (.dK kvs)):kvs.length<=sizeLine/\(a == sysModules)=false/\∃ vs,KV kvs vs/\h.DictOf (qN P w) a vs:=kKN ok (.inl e)
theorem pS {ks:List Key} (ok:HOk P w H h) (e:H a=some (.tup (ks.map kV))):(tupleKind (qN P w)).is h ks a:=by
 obtain ⟨_,its,r,o,h1,h2,n,h3,_⟩:=(show ObjOk P w H h a (.tup (ks.map kV)) from ok a _ e);exact ⟨o,its.toArray,n,h1,h2,h3,by simpa using nH r⟩
theorem kKM {kvs:List (List Key×V)} (ok:HOk P w H h) (e:Rd H a (.dT kvs)):kvs.length<=sizeLine/\(a == sysModules)=false /\
  ∃ xs,KT H kvs xs/\h.DictOfH (tupleKind (qN P w)) a xs:=by
 obtain ⟨z,y,xs,r,o,es,ep,h1,h2,h3,h4,h5⟩:=(show ObjOk P w H h a (.dT kvs) from kKD ok e);refine ⟨z,y,xs,r,o,es,ep,h1,h2,h3,h4,λ x hx=>?_,h5⟩
 have all:∀ {l:List (List Key×V)} {m:List (List Key×ah×af)},KT H l m->∀ x∈m,(tupleKind (qN P w)).is h x.1 x.2.1:=by
  intro l m q
  induction q with
  | nil=>intro x hx;exact nomatch hx
  | @cons p q ps qs hq t ih =>
   intro x hx;rcases gv.mp hx with e | hx
   ·subst e
    exact pS ok (by rw [<-hq.1];exact hq.2.1)
   ·exact ih x hx
 exact all r x hx
theorem kCP {kvs:List (List Key×V)} (ok:HOk P w H h) (e:H a=some (.dT kvs)):kvs.length<=sizeLine/\(a == sysModules)=false /\
  ∃ xs,KT H kvs xs/\h.DictOfH (tupleKind (qN P w)) a xs:=kKM ok (.inl e)
end
def DGet (H:Hp) (a:ah) (y:V) (r:Option V):Prop :=
 (∃ kvs k,Rd H a (.dK kvs)/\y=kV k/\r=yP kvs k)\/∃ kvs k b,Rd H a (.dT kvs)/\y=.ref b/\H b=some (.tup (k.map kV))/\r=yP kvs k
def DPut (H:Hp) (a:ah) (y v:V) (H':Hp):Prop :=
 (∃ kvs k,H a=some (.dK kvs)/\y=kV k/\kvs.length<sizeLine/\H'=upd H a (.dK (wN kvs k v))) \/
 ∃ kvs k b,H a=some (.dT kvs)/\y=.ref b/\H b=some (.tup (k.map kV))/\kvs.length<sizeLine/\H'=upd H a (.dT (wN kvs k v))
theorem DGet.t {H:Hp} {a b:ah} {kvs:List (List Key×V)} {k:List Key} (e:H a=some (.dT kvs)) (eb:H b=some (.tup (k.map kV))):DGet H a (.ref b) (yP kvs k):=.inr ⟨kvs,k,b,.inl e,rfl,eb,rfl⟩
theorem DPut.t {H:Hp} {a b:ah} {kvs:List (List Key×V)} {k:List Key} {v:V} (e:H a=some (.dT kvs)) (eb:H b=some (.tup (k.map kV))) (hl:kvs.length<sizeLine) :
  DPut H a (.ref b) v (upd H a (.dT (wN kvs k v))):=.inr ⟨kvs,k,b,e,rfl,eb,hl,rfl⟩
section
variable {X:Cx} {pins:List (ah×Obj)} {σ:St} {H:Hp} {s:ak} {a:ah} {y v:V} {u r:af} {o:Option V} {A:eV} {E:af->ak->Prop}
theorem Inv.big (I:Inv X pins σ H s):sysModules<s.heap.objs.size:=by
 have h:az<s.heap.objs.size:=(I.mod.glob.keeps I.bk).lt;exact Nat.lt_trans (by decide) h
theorem kJQ {Q:af->ak->Prop} (hu:A.units+1<cLine) (I:Inv X pins σ H s) (g:DGet H a y o) (ry:RelV y u) (h:∀ s',Inv X pins σ H s'->Q (.bool (!o.isSome)) s') :
  de (model X.prog X.w) A (compareOp .NotIn u (.ref a)) Q E s:=by
 rcases g with ⟨kvs,k,e,ey,l⟩ | ⟨kvs,k,b,e,ey,eb,l⟩
 ·subst ey
  obtain ⟨z,hd,vs,rel,dd⟩:=kKN I.hok e;refine wpAny_notIn_of (kCG ry) hd dd.mapOf ?_;rw [<-(rel.val k).isSome_eq,<-l];exact h _ (I.tok _)
 ·subst ey
  cases (show u=fo b from ry)
  obtain ⟨z,hd,xs,rel,dd⟩:=kKM I.hok e;refine wpAny_notIn_heap (AQ hu) (pS I.hok eb) hd dd ?_;have q:=(rel.val k).isSome_eq;rw [Cm] at q;rw [<-q,<-l];exact h _ (I.tok _)
theorem cI {h':gw} {t':Nat} {ob:HO} (I:Inv X pins σ H s) (mu:Mut (H a)) (hs:ma a s.heap h') (he:∃ q,h'.get? a=some q) (new:ObjOk X.prog X.w (upd H a ob) h' a ob) :
  Inv X pins σ (upd H a ob) { s with heap:=h',toks:=t' } :=
 I.write (x:=a) (e:=a) mu (.inl rfl) (λ b q hb z=>(hs.2 b hb).trans z) he new
theorem kHI {P:eU} {w:gk} {H':Hp} {h':gw} {kvs:List (Key×V)} {vs:List (Key×af)} (z:kvs.length<=sizeLine) (hd:(a == sysModules)=false) (rel:KV kvs vs) (dd:h'.DictOf (qN P w) a vs) :
  ObjOk P w H' h' a (.dK kvs):=⟨z,hd,vs,rel,dd⟩
theorem kEL {H':Hp} {Q:Unit->ak->Prop} (hu:A.units+1<cLine) (I:Inv X pins σ H s) (g:DPut H a y v H') (ry:RelV y u) (rv:RelV v r) (h:∀ s',Inv X pins σ H' s'->Q () s') :
  de (model X.prog X.w) A (setItem (.ref a) u r) Q E s:=by
 rcases g with ⟨kvs,k,e,ey,l,eH⟩ | ⟨kvs,k,b,e,ey,eb,l,eH⟩
 ·subst ey eH
  obtain ⟨z,hd,vs,rel,dd⟩:=kKO I.hok e;have hz:vs.length<=sizeLine:=by rw [<-rel.length];exact z
  have hl:(wN kvs k v).length<=sizeLine:=by have:=yN kvs k v;omega
  refine wpAny_setItem_pairs (hsz:=hz) (kCG ry) dd λ h' dd' hs=>h _ ?_;have he:∃ q,h'.get? a=some q:=let ⟨q,_,_,hq,_⟩:=dd';⟨q,hq⟩;exact cI I (by rw [e];exact jq) hs he (kHI hl hd (rel.put k rv) dd')
 ·subst ey eH
  cases (show u=fo b from ry)
  obtain ⟨z,hd,xs,rel,dd⟩:=kCP I.hok e;have hz:xs.length<=sizeLine:=by rw [<-rm rel];exact z
  have hl:(wN kvs k v).length<=sizeLine:=by have:=yN kvs k v;omega
  refine wpAny_setItem_heap (hsz:=hz) (AQ hu) (pS I.hok eb) dd λ h' dd' hs=>h _ ?_;obtain ⟨q,es,ep,hq,h2,h3,h4,_,h5⟩:=dd';refine cI I (by rw [e];exact jq) hs ⟨q,hq⟩ ⟨hl,hd,_,(rel.put k eb rv).keeps λ c ys ec=>?_,q,es,ep,hq,h2,h3,h4,h5⟩;rw [kH (zK ec e (λ z=>nomatch z))];exact ec
end
section
variable {X:Cx} {pins:List (ah×Obj)} {σ:St} {H:Hp} {s:ak} {a:ah} {kvs:List (Key×V)} {k:Key} {u:af} {A:eV} {E:af->ak->Prop}
end
def kIB (ty td:TE):TE:=λ σ H Q=>ty σ H λ y H1=>td σ H1 λ x H2=>∃ a o,x=.ref a/\DGet H2 a y o/\Q (.bl (!o.isSome)) H2
def kNV (td ty tv:TE):TS:=λ D σ H=>tv σ H λ v H1=>td σ H1 λ x H2=>ty σ H2 λ y H3=>∃ a H4,x=.ref a/\DPut H3 a y v H4/\D.nx σ H4
section
variable {X:Cx} {o i e value:iQ} {pos pos' tpos:Pos} {td ty tv:TE}
theorem dA (hu:X.A.units+1<cLine) (hi:PE X i ty) (ho:PE X o td):PC X .NotIn i o (kIB ty td):=by
 intro pins s σ H Q I h;refine thn (hi pins s σ H _ I h) λ iv s1 ⟨y,H1,I1,ry,q1⟩=>thn (ho pins s1 σ H1 _ I1 q1) λ u s2 ⟨x,H2,I2,rx,a,ov,ex,g,q2⟩=>?_;subst ex;obtain rfl:u=fo a:=rx;exact kJQ hu I2 g ry λ s3 I3=>⟨.bl (!ov.isSome),H2,I3,rfl,q2⟩
theorem kIQ (hu:X.A.units+1<cLine) (ho:PE X o td) (hi:PE X i ty) (hv:PE X value tv) (hs:swapsWith value (some (.Subscript o i pos')) pos.line X.env=pure false) :
  PS X (.Assign [.Subscript o i pos'] value pos) (kNV td ty tv):=by
 intro pins s σ H D I h;refine wpAny_Assign_Subscript (thn (hv pins s σ H _ I h) λ r s1 ⟨v,H1,I1,rv,q1⟩=>thn (ho pins s1 σ H1 _ I1 q1) λ u s2 ⟨x,H2,I2,rx,q2⟩=>thn (hi pins s2 σ H2 _ I2 q2) λ iv s3 ⟨y,H3,I3,ry,a,H4,ex,g,q3⟩=>?_) hs;subst ex;obtain rfl:u=fo a:=rx;exact kEL hu I3 g ry rv λ s4 I4=>⟨σ,H4,I4,q3⟩
end
theorem kHH {P:eU} {w:gk} {H:Hp} (h:gw) (hb:sysModules<h.objs.size):ObjOk P w H (h.push { cls:=.type "dict",data:=.dict #[] }) h.objs.size (.dT []) :=
 ⟨iK _,beq_eq_false_iff_ne.mpr (og (eM hb)),[],.nil,_,#[],0,eK _ rfl,⟨rfl,rfl,rfl⟩,rfl,rfl,xm⟩
def kLC:TE:=λ _ H Q=>∀ p,H p=none->Q (.ref p) (upd H p (.dT []))
section
variable {X:Cx} {pos:Pos}
theorem rW:PE X (.Dict [] [] pos) kLC:=λ pins s σ H Q I h =>
 wpAny_Dict_empty ⟨.ref s.heap.objs.size,_,I.laid (a:=s.heap.objs.size) (o:=.dT []) (t':=s.toks) (λ _ _ q=>ao _ q) (be _) (kHH s.heap I.big),rfl,h _ (I.hok.fresh (be _))⟩
end
section
variable {X:Cx} {pins:List (ah×Obj)} {σ:St} {H:Hp} {s:ak} {a:ah} {y d:V} {u r:af} {o:Option V} {A:eV} {E:af->ak->Prop}
end
section
variable {X:Cx} {o e f:iQ} {apos cpos:Pos} {td ty tx:TE}
end
section
variable {X:Cx} {pins:List (ah×Obj)} {σ:St} {H:Hp} {s:ak} {a:ah} {kvs:List (Key×V)} {A:eV} {E:af->ak->Prop}
end
section
variable {X:Cx} {pins:List (ah×Obj)} {σ:St} {H:Hp} {s:ak} {a:ah} {y:V} {u:af} {A:eV} {E:af->ak->Prop}
end
section
variable {κ:Type} [DecidableEq κ]
end
end L2
namespace Own
open PySem PySem.Spec PyProof.Rows L2
def Has (P:eU) (w:gk) (K:au) (mg:Str->Option af) (base:gw) (x:Str) (ps:List Str) (k:Nat) (sp:Sp):Prop :=
 ∃ (f:ah) (fd:eO),FnOk P w K mg base CX0 k f fd ps sp/\Binds K fd ps []/\bj K (.ref f)=true/\mg x=some (.ref f)
section
variable {X:Cx} {k:Nat} {ps:List Str} {sp:Sp} {x:Str} {p pos:Pos} {e:iQ} {es:List iQ} {t:TA}
theorem pe_has (h:Has X.prog X.w X.K X.mg X.base x ps k sp) (hr:Room k X.A) (hg:Gl X x)
  (ha:PA X (e::es) t) (hdb:(x == ("__debug__" : Str))=false:=by decide) (he:starEach (e::es) X.env=(false,eval e X.env)::starEach es X.env:=by rfl) (hpl:(backTo pos (starEach es X.env)).any (·.1)=false:=by rfl) :
  PE X (.Call (.Name x p) (e::es) [] pos) (mR sp [] E0 t):=by
 obtain ⟨f,fd,F,b,kp,m⟩:=h;exact oZ F hr hg m kp b .nil kKF ha hdb he hpl
end
def kPD (i j:Int):Prop:=i.natAbs<2 ^ 9000/\j.natAbs<2 ^ 9000
theorem kCV {i:Int} (h:i.natAbs<2 ^ 9000):FY i<=2 ^ 20 :=
 je (intBits_le h) (by decide)
section
variable {X:Cx}
theorem op_mulW:OpR X (binaryOp .Mult) (rI kPD λ i j=>.int (i*j)):=opI λ _ _ _ _ _ _ _ hc q=>mul_int q (IntMulOk.of_bits (kCV hc.1) (kCV hc.2))
theorem log2_lt {n:Nat} (h:n<2 ^ 9000):n.log2<9000:=by
 by_cases h0:n=0
 ·subst h0;decide
 ·exact (Nat.log2_lt h0).mpr h
theorem call_isi:xW X (.builtin "isinstance") (λ xs H Q=>∃ x t T b,xs=[x,.ty T]/\TyOf X.K H x t/\xu X.K t (.type T)=some b/\Q (.bl b) H):=by
 intro pins s σ H xs us Q I r h;obtain ⟨x,t,T,b,rfl,ty,e,q⟩:=h;obtain ⟨u,w',rfl,r1,r2⟩:=mN r;cases r2
 exact kED I r1 ty e λ tk=>⟨.bl b,H,I.tok _,rfl,q⟩
end
end Own
set_option maxHeartbeats 4000000
namespace L2
open PySem PySem.Spec PyProof.Rows
abbrev TB:=(St->Hp->Prop)->St->Hp->Prop
def PBd (X:Cx) (code:Sem Unit) (b:TB):Prop :=
 ∀ (pins:List (ah×Obj)) (s:ak) (σ:St) (H:Hp) (N:St->Hp->Prop),Inv X pins σ H s->b N σ H ->
  de (model X.prog X.w) X.A code (λ _ s'=>∃ σ' H',Inv X pins σ' H' s'/\N σ' H') X.xe s
def PTl (X:Cx) (tail:Sem uv) (L:Fx) (b:TB):Prop :=
 ∀ (pins:List (ah×Obj)) (s:ak) (σ:St) (H:Hp) (N:St->Hp->Prop),Inv X pins σ H s->b N σ H ->
  de (model X.prog X.w) X.A tail (λ fin s'=>fin=.again L/\∃ σ' H',Inv X pins σ' H' s'/\N σ' H') X.xe s
def zN (ifs:List iQ) (env:Env) (body:Sem Unit) (L:Fx):Sem uv :=
 (forIn ifs true λ c r=>if r=true then do let ok <-isTrue c env (eval c env);pure (iY ok) else pure (iY r)) >>= λ ok=>if ok=true then body >>= λ _=>again L else again L
def uD (J:It) (g:TG) (b:TB) (N0:St->Hp->Prop) (σ:St) (H:Hp):Prop :=
 ∃ W:Nat->Nat->St->Hp->Prop,(∃ m,W 0 m σ H)/\∀ i m σ H,W i m σ H ->
  (J.stop i H/\N0 σ H)\/(J.go i H/\∃ N:St->Hp->Prop,(∀ σ' H',N σ' H'->∃ m',m'<m/\W (i+1) m' σ' H')/\∀ x H',J.yld i H x H'->g x σ H' λ σ2 H2=>b N σ2 H2)
section
variable {X:Cx} {e tg:iQ} {gens:List CH} {sc:ua} {cpos:Pos} {d:Nat} {it:ah} {acc:af} {tail:Sem uv} {p:Pos} {g:TG} {b:TB} {J:It} {fp:List ah} {tn:Nat->gw->Prop} {N0:St->Hp->Prop} {R:Ds->ak->Prop}
theorem vM (he:(∃ el,e=.ListComp el gens sc cpos)\/∃ k v,e=.DictComp k v gens sc cpos) (hx:X.xe=λ _ _=>False) (hc:X.calm=true)
  (ht:compTurn e d (.ref it) acc X.env=(standAt p >>= λ _=>pyNext (.ref it) >>= λ r=>match r with
   | none=>pure (.done .next)
   | some v=>letOwnedTupleGo tg (.ref it) v >>= λ _=>assign tg X.env v >>= λ _=>tail))
  (T:Turn X.prog X.w X.K tg J fp it tn) (hg:PG X tg g) (hb:PTl X tail (.compLoop e d (.ref it) acc X.env) b) {pins:List (ah×Obj)} {σ:St} {H:Hp} {s:ak}
  (I:Inv X pins σ H s) (st:tn 0 s.heap) (f2:∀ b∈fp,vY X pins H b) (hw:uD J g b N0 σ H)
  (hR:∀ σ' H' s',Inv X pins σ' H' s'->N0 σ' H'->R (.ok .next) s') :
  codeAny (model X.prog X.w) X.A (.compLoop e d (.ref it) acc X.env) R s:=by
 obtain ⟨W,⟨m0,w0⟩,turn⟩:=hw;have stat:∀ {H':Hp},(∀ b∈fp,H' b=none)->∀ b∈fp,vY X pins H' b:=λ hn b hb=>⟨hn b hb,(f2 b hb).2⟩;refine codeAny_loop rfl (λ n s'=>∃ i σ' H',Inv X pins σ' H' s'/\tn i s'.heap/\(∀ b∈fp,H' b=none)/\W i n σ' H') ?_ m0 ⟨0,σ,H,I,st,λ b hb=>(f2 b hb).1,w0⟩;rintro n s3 ⟨i,σ3,H3,I3,st3,fr3,w3⟩
 have hden:(model X.prog X.w).den (.compLoop e d (.ref it) acc X.env)=((compTurn e d (.ref it) acc X.env).onRaise (λ x=>do noteFrame x X.env;theTreesLotGoes x))/\X.A.under (.compLoop e d (.ref it) acc X.env)=X.A:=by
  rcases he with ⟨el,rfl⟩ | ⟨k,v,rfl⟩<;>exact ⟨rfl,rfl⟩
 rw [hden.1,hden.2];show de _ _ ((compTurn e d (.ref it) acc X.env).onRaise (λ x=>do noteFrame x X.env;theTreesLotGoes x)) _ _ s3;refine wpAny_noted ?_;rw [ht]
 have no:∀ {α:Type} {t:Sem α} {Q:α->ak->Prop} {E:af->ak->Prop} {s:ak},de (model X.prog X.w) X.A t Q X.xe s->de (model X.prog X.w) X.A t Q E s :=
  λ h=>lj h (λ _ _ q=>q) λ _ _ q=>by rw [hx] at q;exact q.elim
 refine ae (pf (ae ?_));rcases turn i n σ3 H3 w3 with ⟨stop,qn⟩ | ⟨go,N,hN,step⟩
 ·refine no (thn (T.done X rfl rfl rfl hc i pins s3 σ3 H3 X.xe I3 (stat fr3) st3 stop) λ r s4 ⟨hr,I4⟩=>?_)
  subst hr;exact av (hR _ _ _ I4 qn)
 ·refine no (thn (T.item X rfl rfl rfl hc i pins s3 σ3 H3 X.xe I3 (stat fr3) st3 go) λ r s4 ⟨u,hr,h4⟩=>?_)
  subst hr;refine ae (no (thn h4 λ _ s5 ⟨x,H5,I5,r5,y5,st5,fr5⟩=>?_));have I5':=I5.pinned (stat fr5) (T.obj _ _ st5);refine ae (no (thn (hg _ s5 σ3 H5 x u _ I5' r5 (step x H5 y5)) λ _ s6 ⟨σ6,H6,I6,q6⟩=>?_));refine no (thn (hb _ s6 σ6 H6 _ I6 q6) λ fin s7 ⟨hf,σ7,H7,I7,n7⟩=>?_);subst hf;obtain ⟨m',hm,w7⟩:=hN σ7 H7 n7;refine ⟨rfl,m',hm,i+1,σ7,H7,I7.unpinned,T.keep _ _ _ st5 λ b hb o e=>(I7.pin (b,o) (fu _ (fu _ (vS hb e)))).1,λ b hb=>?_,w7⟩;obtain ⟨o,e,d⟩:=T.obj _ _ st5 b hb;exact (I7.pin (b,o) (fu _ (fu _ (vS hb e)))).2.1
end
def bIf (t:TT) (b:TB):TB:=λ N σ H=>t σ H λ c H1=>if c=true then b N σ H1 else N σ H1
theorem xT {X:Cx} {body:Sem Unit} {L:Fx} {b:TB} (hb:PBd X body b):PTl X (zN [] X.env body L) L b:=by
 intro pins s σ H N I h;unfold zN;refine ae (De ?_);show de _ _ (body >>= λ _=>again L) _ _ s;exact ae (thn (hb pins s σ H N I h) λ _ s' q=>av ⟨rfl,q⟩)
theorem bK {X:Cx} {c:iQ} {t:TT} {body:Sem Unit} {L:Fx} {b:TB} (hc:PT X c t) (hb:PBd X body b):PTl X (zN [c] X.env body L) L (bIf t b):=by
 intro pins s σ H N I h;unfold zN;refine ae (wpAny_tests_one (thn (hc pins s σ H _ I h) λ ok s1 ⟨H1,I1,q⟩=>?_))
 cases ok with
 | true=>exact ae (thn (hb pins s1 σ H1 N I1 (by simpa using q)) λ _ s' q=>av ⟨rfl,q⟩)
 | false=>exact av ⟨rfl,σ,H1,I1,by simpa using q⟩
def kNE (D:ah) (te:TE):TB:=λ N σ H=>te σ H λ x H1=>∃ xs,H1 D=some (.lst xs)/\xs.length<sizeLine/\N σ (upd H1 D (.lst (xs++[x])))
theorem zO {X:Cx} {el:iQ} {te:TE} {D:ah} (he:PE X el te):PBd X (do let _ <-call (.builtin "list.append") [.ref D,<-eval el X.env]) (kNE D te):=by
 intro pins s σ H N I h;refine ae (thn (he pins s σ H _ I h) λ u s1 ⟨x,H1,I1,r,xs,hD,hz,q⟩=>?_);refine ae (thn (wG pins s1 σ H1 (.ref D) [x] (.ref D) [u] (λ _ H2=>N σ H2) I1 rfl (.cons r .nil) ⟨D,xs,x,rfl,rfl,hD,hz,q⟩) λ _ s2 ⟨_,H2,I2,_,q2⟩=>?_);exact av ⟨σ,H2,I2,q2⟩
theorem kBN (el tg iter:iQ) (ifs:List iQ) (sc:ua) (pos:Pos) (it acc:af) (env:Env) :
  compTurn (.ListComp el [⟨tg,iter,ifs,0⟩] sc pos) 0 it acc env=(standAt iter.pos >>= λ _=>pyNext it >>= λ r=>match r with
   | none=>pure (.done .next)
   | some v=>letOwnedTupleGo tg it v >>= λ _=>assign tg env v >>= λ _=>zN ifs env (do let _ <-call (.builtin "list.append") [acc,<-eval el env]) (.compLoop (.ListComp el [⟨tg,iter,ifs,0⟩] sc pos) 0 it acc env)):=by rfl
def kFF (ifs:List iQ) (env:Env) (iter2:iQ) (next:af->Fx) (L:Fx):Sem uv :=
 (forIn ifs true λ c r=>if r=true then do let ok <-isTrue c env (eval c env);pure (iY ok) else pure (iY r)) >>= λ ok=>if ok=true then
  (eval iter2 env >>= λ x=>standAt iter2.pos >>= λ _=>foldedSetIterable iter2 env x >>= λ x=>holding [x] (pyIter x) >>= λ i=>runOwn (next i) env >>= λ _=>again L) else again L
theorem kFC (el tg iter tg2 iter2:iQ) (ifs ifs2:List iQ) (sc:ua) (pos:Pos) (it acc:af) (env:Env) :
  compTurn (.ListComp el [⟨tg,iter,ifs,0⟩,⟨tg2,iter2,ifs2,0⟩] sc pos) 0 it acc env=(standAt iter.pos >>= λ _=>pyNext it >>= λ r=>match r with
   | none=>pure (.done .next)
   | some v=>letOwnedTupleGo tg it v >>= λ _=>assign tg env v >>= λ _=>kFF ifs env iter2 (λ i=>.compStart (.ListComp el [⟨tg,iter,ifs,0⟩,⟨tg2,iter2,ifs2,0⟩] sc pos) 1 i acc env) (.compLoop (.ListComp el [⟨tg,iter,ifs,0⟩,⟨tg2,iter2,ifs2,0⟩] sc pos) 0 it acc env)):=by rfl
theorem kFB (el tg iter tg2 iter2:iQ) (ifs ifs2:List iQ) (sc:ua) (pos:Pos) (it acc:af) (env:Env) :
  compTurn (.ListComp el [⟨tg,iter,ifs,0⟩,⟨tg2,iter2,ifs2,0⟩] sc pos) 1 it acc env=(standAt iter2.pos >>= λ _=>pyNext it >>= λ r=>match r with
   | none=>pure (.done .next)
   | some v=>letOwnedTupleGo tg2 it v >>= λ _=>assign tg2 env v >>= λ _=>zN ifs2 env (do let _ <-call (.builtin "list.append") [acc,<-eval el env]) (.compLoop (.ListComp el [⟨tg,iter,ifs,0⟩,⟨tg2,iter2,ifs2,0⟩] sc pos) 1 it acc env)):=by rfl
def vW (env:Env) (cs:List (Str×ah)) (y:Str×qb):List (Str×ah) :=
 if (y.2 == .free)=true then (match env.cells.lookup y.1 with | some c=>(y.1,c)::cs | none=>cs) else cs
def fJ (sc:ua) (env:Env):List (Str×ah):=sc.names.foldl (vW env) []
def rA (env:Env) (x:Str×qb) (r:List (Str×ah)):Sem (ForInStep (List (Str×ah))) :=
 match x with | (name,kind)=>if (kind == .free)=true then (do let a <-cellOf env name;pure (iY ((name,a)::r))) else pure (iY r)
theorem kEP {env:Env} {y:Str×qb} {cs:List (Str×ah)} (h:y.2=.free->∃ c,env.cells.lookup y.1=some c):rA env y cs=pure (iY (vW env cs y)):=by
 obtain ⟨n,k⟩:=y;unfold rA vW
 cases hk:k == As with
 | false=>simp [hk]
 | true =>
  obtain ⟨c,hc⟩:=h (by simpa using hk);have hc':Bn n env.cells=some c:=hc;simp only [hk,if_true,cellOf,hc',pure_bind]
theorem lY {env:Env}:∀ (l:List (Str×qb)) (cs:List (Str×ah)),(∀ y∈l,y.2=.free->∃ c,env.cells.lookup y.1=some c) ->
  (forIn l cs (rA env):Sem (List (Str×ah)))=pure (l.foldl (vW env) cs)
 | [],cs,_=>rfl
 | y::r,cs,h=>by
  rw [List.forIn_cons,kEP (h y fv),pure_bind,si];exact lY r _ λ y hy=>h y (eZ _ hy)
theorem vV {sc:ua} {env:Env} (h:∀ y∈sc.names,y.2=.free->∃ c,env.cells.lookup y.1=some c):closureFor sc env=pure (fJ sc env):=by
 have q:=lY (env:=env) sc.names [] h;have z:closureFor sc env=(forIn sc.names [] (rA env) >>= λ r=>pure r):=rfl;rw [z,q]
 rfl
theorem lZ {env:Env} {x:Str} {c:ah}:∀ (l:List (Str×qb)) (cs:List (Str×ah)),(cs.lookup x=some c->env.cells.lookup x=some c)->(l.foldl (vW env) cs).lookup x=some c->env.cells.lookup x=some c
 | [],cs,h,e=>h e
 | (n,k)::r,cs,h,e=>by
  rw [si] at e;refine lZ r _ (λ z=>?_) e;unfold vW at z
  split at z
  ·split at z
   ·rename_i c' hc
    rw [yr] at z
    split at z
    ·rename_i hx
     have:x=n:=by simpa using hx
     subst this;cases z
     exact hc
    ·exact h z
   ·exact h z
  ·exact h z
theorem kBG {env:Env} {x:Str}:∀ (l:List (Str×qb)) (cs:List (Str×ah)),(∃ c,env.cells.lookup x=some c)->((∃ c,cs.lookup x=some c)\/(x,As)∈l)->∃ c,(l.foldl (vW env) cs).lookup x=some c
 | [],cs,_,h=>h.elim id (λ z=>nomatch z)
 | (n,k)::r,cs,he,h=>by
  rw [si];refine kBG r _ he ?_;rcases h with ⟨c,h⟩ | h
  ·left
   unfold vW
   split
   ·split
    ·rename_i c' hc
     rw [yr]
     split
     ·exact ⟨_,rfl⟩
     ·exact ⟨c,h⟩
    ·exact ⟨c,h⟩
   ·exact ⟨c,h⟩
  ·rcases gv.mp h with z | z
   ·cases z
    obtain ⟨c,hc⟩:=he
    left
    refine ⟨c,?_⟩;unfold vW;simp [hc]
   ·exact .inr z
structure CS (sc S0:ua):Prop where
 kind:sc.kind=.function
 names:∀ y∈sc.names,y.2=.local->sc.names.lookup y.1=some .local
 nocell:∀ y∈sc.names,y.2≠.cell
 free:∀ y∈sc.names,y.2=.free->S0.names.lookup y.1=some .cell
def wI (env:Env) (y:Str×qb):Str×qb:=if (y.2 == .free && env.scope.kind == .function && env.kindOf y.1 == some .cell)=true then (y.1,.cell) else (y.1,y.2)
theorem kAA (env:Env) (y:Str×qb):(wI env y).1=y.1:=by
 unfold wI
 split<;>rfl
theorem gR {env:Env} {x:Str}:∀ (l:List (Str×qb)),(l.map (wI env)).lookup x=(l.lookup x).map λ k=>(wI env (x,k)).2
 | []=>rfl
 | (n,k)::r=>by
  rw [iW];have e:wI env (n,k)=(n,(wI env (n,k)).2):=vi (kAA env (n,k)) rfl;rw [e,yr,yr]
  cases hx:x == n with
  | true =>
   have:x=n:=by simpa using hx
   subst this
   rfl
  | false=>exact gR r
def cxC (X:Cx) (Nc:List Str) (sc:ua) (C:ah) (s₂:ak) (H₂:Hp) (fp:List ah) (pins:List (ah×Obj)):Cx :=
 { X with N:=Nc,s₀:=s₂,H₀:=H₂,env:=compEnvC sc (fJ sc X.env) C X.env,outer:=X.stack,ex:=fp,fn:=λ _=>false,pn:=X.pn++pins }
def lV (js:List (Option Nat)) (σ:St):St:=js.map λ o=>o.bind λ j=>(σ[j]?).join
def mB (js:List (Option Nat)) (Nc N:List Str) (names:List (Str×qb)):Bool :=
 decide (js.length=Nc.length) && (js.zip Nc).all λ (o,x)=>match o with | none=>true | some j=>decide (N[j]?=some x) && decide (names.lookup x=some .free)
theorem kNB {js:List (Option Nat)} {Nc N:List Str} {names:List (Str×qb)} (h:mB js Nc N names=true):js.length=Nc.length/\∀ (i j:Nat) (x:Str),js[i]?=some (some j)->Nc[i]?=some x->N[j]?=some x/\names.lookup x=some .free:=by
 unfold mB at h;rw [jo] at h;refine ⟨of_decide_eq_true h.1,λ i j x e1 e2=>?_⟩
 have z:(js.zip Nc)[i]?=some (some j,x):=by
  rw [List.getElem?_zip_eq_some];exact ⟨e1,e2⟩
 have q:=yt.mp h.2 _ (dw z);dsimp only at q;rw [jo] at q;exact ⟨of_decide_eq_true q.1,of_decide_eq_true q.2⟩
section
variable {X:Cx} {pins:List (ah×Obj)} {σ:St} {H:Hp} {s:ak} {sc:ua} {Nc:List Str} {js:List (Option Nat)} {fp:List ah}
theorem kIY (I:Inv X pins σ H s) (S:CS sc X.env.scope) (f:∀ b∈fp,vY X pins H b) (hlt:∀ b∈fp,b<s.heap.objs.size) {C:ah} (hC:s.heap.objs.size<=C):(cxC X Nc sc C s H fp pins).Ok:=by
 have inX:∀ x c,(fJ sc X.env).lookup x=some c->X.env.cells.lookup x=some c:=λ x c e=>lZ sc.names [] (λ z=>nomatch z) e;refine ⟨I.ok.mod,S.kind,I.ok.glob,I.ok.blt,hC,λ x y c e1 e2=>I.ok.inj x y c (inX x c e1) (inX y c e2),λ x hx=>?_,λ x c z=>(nomatch z),I.ok.hd,I.ok.frames,.inl rfl,λ b hb=>⟨?_,λ x c e=>(f b hb).2.2.2.2.1 x c (inX x c e)⟩,I.bs,je I.ok.bsz I.sz,λ b o e hb=>?_,λ b hb hs=>?_,I.stack,I.stkFree⟩
 ·have hx':(sc.names.map (wI X.env)).lookup x=some .cell\/(sc.names.map (wI X.env)).lookup x=some .free:=hx
  rw [gR] at hx'
  cases e:sc.names.lookup x with
  | none=>rw [e] at hx';rcases hx' with z | z<;>cases z
  | some k =>
   rw [e] at hx';have m:(x,k)∈sc.names:=jr e
   have kf:k=.free:=by
    have nk:=S.nocell _ m;unfold wI at hx';by_cases hk:(k == As)=true
    ·simpa using hk
    ·have hk':(k == As)=false:=by simpa using hk
     simp only [hk',Dq,uq] at hx';rcases hx' with z | z
     ·exact absurd (by simpa using z) nk
     ·simpa using z
   subst kf;have hx2:=S.free _ m rfl;obtain ⟨c,hc⟩:=I.ok.has x (.inl hx2);exact kBG sc.names [] ⟨c,hc⟩ (.inr m)
 ·exact eM (cn (hlt b hb) hC)
 ·obtain ⟨h0,h1,h2,h3,h4,h5⟩:=f b hb
  rcases h3 with z | z
  ·exact I.ok.noex b o e z
  ·exact absurd (cn (cf (I.ok.bs b o e).1) z) (jj _)
 ·obtain ⟨h0,h1,h2,h3,h4,h5⟩:=f b hb
  rcases gv.mp (I.stkSub b hs) with z | z
  ·exact h1 z
  ·exact h2 z
theorem bW (I:Inv X pins σ H s) (S:CS sc X.env.scope) (f:∀ b∈fp,vY X pins H b) (hlt:∀ b∈fp,b<s.heap.objs.size) (cap:mB js Nc X.N sc.names=true) {C D:ah} {o:HO} {h₁:gw} {m:Str->Option af} {tk:Nat}
  (hC:s.heap.objs.size<=C) (hD:s.heap.objs.size<=D) (hDC:D≠C) (hk:∀ b ob,s.heap.get? b=some ob->h₁.get? b=some ob) (hns:h₁.Ns C m) (new:ObjOk X.prog X.w (upd H D o) h₁ D o) :
  Inv (cxC X Nc sc C s H fp pins) [] (lV js σ) (upd H D o) { s with heap:=h₁,toks:=tk }:=by
 have inX:∀ x c,(fJ sc X.env).lookup x=some c->X.env.cells.lookup x=some c:=λ x c e=>lZ sc.names [] (λ z=>nomatch z) e;have fresh:∀ a,s.heap.objs.size<=a->H a=none:=λ a ha=>I.hok.fresh ha;obtain ⟨cl,cp⟩:=kNB cap;refine ⟨kIY I S f hlt hC,rfl,I.bare,Un.laid hk hD (fresh D hD),⟨m,hns,λ i x v e1 e2 e3=>?_⟩,λ x c e=>?_,?_,λ x c e=>?_,λ p hp=>?_,I.hok.laid hk hD new,?_⟩
 ·-- a name of the frame's
  unfold lV at e2;rw [bg] at e2
  cases ej:js[i]? with
  | none=>rw [ej] at e2;cases e2
  | some oj =>
   rw [ej] at e2
   cases oj with
   | none=>cases e2
   | some j =>
    obtain ⟨hN,hfree⟩:=cp i j x ej e1
    have hv:σ[j]?=some (some v):=by
     simp only [uq,DK,Fk] at e2
     cases e:σ[j]? with
     | none=>rw [e] at e2;cases e2
     | some w=>rw [e] at e2;exact congrArg some e2
    have kc:X.env.kindOf x=some .cell:=S.free _ (jr hfree) rfl;obtain ⟨m',hn',hl⟩:=I.loc;obtain ⟨u,r,lk⟩:=hl j x v hN hv (.inr (.inl kc));refine ⟨u,r,.inr ⟨.inl ?_,?_⟩⟩
    ·show (sc.names.map (wI X.env)).lookup x=some .cell
     rw [gR,hfree];unfold wI;simp [I.ok.kind,kc]
    ·rcases lk with ⟨z,_⟩ | ⟨_,c,hc,ic⟩
     ·rw [kc] at z;cases z
     ·obtain ⟨c',hc'⟩:=kBG sc.names [] ⟨c,hc⟩ (.inr (jr hfree))
      have:c'=c:=du ((inX x c' hc').symm.trans hc);subst this;exact ⟨c',hc',ic.keeps hk⟩
 ·obtain ⟨v,ic⟩:=I.cell x c (inX x c e)
  exact ⟨v,ic.keeps hk⟩
 ·show upd H D o C=none
  rw [kH hDC.symm];exact fresh C hC
 ·have q:=inX x c e
  obtain ⟨v,ic⟩:=I.cell x c q;show upd H D o c=none;rw [kH (eM (cn ic.lt hD))];exact I.freeC x c q
 ·have hp':p∈X.pn++pins:=by
   rcases eY.mp hp with z | z
   ·exact z
   ·exact absurd z (by simp)
  obtain ⟨a1,a2,a3,a4,a5⟩:=I.pin p hp';have lt:=cf a1;refine ⟨hk _ _ a1,?_,eM (cn lt hC),λ z=>?_,a5⟩
  ·rw [kH (eM (cn lt hD))]
   exact a2
  ·rcases gv.mp (I.stkSub _ z) with z | z
   ·exact a3 z
   ·exact a4 z
 ·unfold lV
  rw [aj];exact cl
theorem bX {C:ah} {σ':St} {H':Hp} {s':ak} {h':gw} (I:Inv X pins σ H s) (f:∀ b∈fp,vY X pins H b) (hC:s.heap.objs.size<=C) (J:Inv (cxC X Nc sc C s H fp pins) [] σ' H' s') (hs:ma C s'.heap h') :
  Inv X pins σ H' { s' with heap:=h' }:=by
 have u:=J.base;have nC:H' C=none:=J.free;have stay:∀ b ob,b≠C->s'.heap.get? b=some ob->h'.get? b=some ob:=λ b ob hb e=>hs.extBut b ob hb e;have neC:∀ b ob,s.heap.get? b=some ob->b≠C:=λ b ob e=>eM (cn (cf e) hC);refine I.call' (ch:=fp) J.os ?_ (λ b v e=>?_) J.bare λ b hb=>⟨(f b hb).2.2.2.1,(f b hb).2.1,(f b hb).2.2.2.2.1,(f b hb).2.2.2.2.2⟩
 ·refine ⟨λ b ob e n h1 h2=>stay b ob (neC b ob e) (u.keep b ob e n h1 h2),λ b ob e n h1 h2=>?_,u.free,λ b ob e h2=>?_,u.tups,u.frzs,u.tbls⟩
  ·obtain ⟨sl,q⟩:=u.slot b ob e n h1 h2
   exact ⟨sl,stay b _ (neC b ob e) q⟩
  ·obtain ⟨o',q⟩:=u.there b ob e h2
   exact ⟨o',stay b _ (neC b ob e) q⟩
 ·have nb:∀ c w,H' c=some w->c≠C:=λ c w e z=>by rw [z,nC] at e;cases e
  refine (J.hok b v e).stay (λ c w hc q=>stay c w ?_ q) (λ _ q=>q) λ _ _ q=>q;rcases hc with z | z
  ·rw [z];exact nb b v e
  ·exact nb c _ z
end
section
variable {X:Cx} {e tg iter el:iQ} {ifs:List iQ} {gens rest:List CH} {sc:ua} {pos:Pos} {Nc:List Str} {js:List (Option Nat)} {wi:TI}
theorem wM {prog:eU} {w:gk} {A:eV} {env:Env} {R:Ds->ak->Prop} {s:ak} {d:Nat} {it acc:af} {g:CH} (he:(∃ el,e=.ListComp el gens sc pos)\/∃ k v,e=.DictComp k v gens sc pos)
  (hg:(clausesOf e)[d]?=some g) (ha:g.is_async=0)
  (h0:codeAny (model prog w) A (.compLoop e d it acc env) R s)
  (h:de (model prog w) A (pyIter it) (λ it' s'=>codeAny (model prog w) A (.compLoop e d it' acc env) R s') (λ _ _=>False) s) :
  codeAny (model prog w) A (.compStart e d it acc env) R s:=by
 refine Df ?_
 have hden:(model prog w).den (.compStart e d it acc env)=((compStart e d it acc env).onRaise (λ x=>do noteFrame x env;standAt theWindowsPlace))/\A.under (.compStart e d it acc env)=A:=by
  rcases he with ⟨el,rfl⟩ | ⟨k,v,rfl⟩<;>exact ⟨rfl,rfl⟩
 have hq:∀ d it acc,(Code.compLoop e d it acc env).quiet=true:=λ _ _ _=>rfl;rw [hden.1,hden.2];refine wpAny_notedAt ?_;unfold compStart;rw [hg];have hz:((some g).elim false λ x=>x.is_async != 0)=false:=by show (g.is_async != 0)=false;rw [ha];rfl
 rw [hz];show de _ _ (ask >>= _) _ _ s;refine ae (wpAny_askSetting (wpAny_ite ?_))
 split
 ·first
   | exact ae (av (av (FC rfl h0)))
   | exact av (FC rfl h0)
 ·refine ae (yo ?_)
  show de _ _ (standAt g.iter.pos >>= _) _ _ s;exact ae (pf (ae (lj h (λ it' s' h'=>av (FC rfl h')) λ _ _ x=>x.elim)))
def tLC (js:List (Option Nat)) (wi:TI) (g:TG) (bd:ah->TB):TE:=λ σ H Q=>wi σ H λ J H1=>∀ D,H1 D=none->uD J g (bd D) (λ _ H'=>Q (.ref D) H') (lV js σ) (upd H1 D (.lst []))
theorem bM {g:TG} {bd:ah->TB} (hx:X.xe=λ _ _=>False) (hc:X.calm=true) (hi:PI X tg iter wi) (S:CS sc X.env.scope) (cap:mB js Nc X.N sc.names=true)
  (hg:∀ C s₂ H₂ fp pins,PG (cxC X Nc sc C s₂ H₂ fp pins) tg g)
  (hb:∀ C s₂ H₂ fp pins D L,PTl (cxC X Nc sc C s₂ H₂ fp pins) (zN ifs (cxC X Nc sc C s₂ H₂ fp pins).env (do let _ <-call (.builtin "list.append") [.ref D,<-eval el (cxC X Nc sc C s₂ H₂ fp pins).env]) L) L (bd D))
  (hs:∀ x,foldedSetIterable iter X.env x=pure x:=by intro _;rfl) :
  PE X (.ListComp el [⟨tg,iter,ifs,0⟩] sc pos) (tLC js wi g bd):=by
 intro pins s σ H Q I h;rw [eval_ListComp];have hcl:closureFor sc X.env=pure (fJ sc X.env):=vV λ y hy hf=>I.ok.has y.1 (.inl (S.free y hy hf));refine sk (use:=none) rfl hs hcl S.kind S.names (thn (hi pins s σ H _ I h) λ v s1 h1=>thn h1 λ itv s2 h2=>?_);obtain ⟨it,fp,tn,J,H2,e,I2,T,st2,f2,hw⟩:=h2;subst e;have hlt:∀ b∈fp,b<s2.heap.objs.size:=λ b hb=>let ⟨o,ho,_⟩:=T.obj _ _ st2 b hb;cf ho;refine iR (vk S.nocell (by intro y hy;simp at hy) (λ h₁ hns₁ hsb₁=>?_) S.kind);dsimp only at hns₁ hsb₁ ⊢;generalize hH2:s2.heap.push { cls:=.type "list",dict:=none,data:=.seq ([]:List af).toArray }=G at hns₁ hsb₁ ⊢;have hCs:G.objs.size=s2.heap.objs.size+1:=by rw [<-hH2,qe]
 have hDC:s2.heap.objs.size≠G.objs.size:=by omega
 have hCle:s2.heap.objs.size<=G.objs.size:=by omega
 have old:∀ b o,s2.heap.get? b=some o->h₁.get? b=some o:=λ b o e=>hsb₁.extBut b o (eM (cn (cf e) hCle)) (ao _ (hH2 ▸ ao _ e));have hacc:h₁.get? s2.heap.objs.size=some { cls:=.type "list",dict:=none,data:=.seq ([]:List af).toArray }:=hsb₁.extBut _ _ hDC (ao _ (hH2 ▸ eK _ rfl));have new:ObjOk X.prog X.w (upd H2 s2.heap.objs.size (.lst [])) h₁ s2.heap.objs.size (.lst []):=⟨iK _,[],_,.nil,hacc⟩;have I4:=bW (js:=js) (Nc:=Nc) (tk:=s2.toks+([]:List (Str×af)).length) I2 S f2 hlt cap hCle (be _) hDC old hns₁ new;have hn:H2 s2.heap.objs.size=none:=I2.fresh
 have f4:∀ b∈fp,vY (cxC X Nc sc G.objs.size s2 H2 fp pins) [] (upd H2 s2.heap.objs.size (.lst [])) b:=λ b hb=>by
  obtain ⟨h0,h1,h2,h3,h4,h5⟩:=f2 b hb;refine ⟨?_,eM (cn (hlt b hb) hCle),λ z=>?_,.inl hb,λ x c z=>?_,λ p hp=>?_⟩
  ·rw [kH (eM (hlt b hb))];exact h0
  ·rcases gv.mp (I2.stkSub b z) with q | q
   ·exact h1 q
   ·exact h2 q
  ·exact h4 x c (lZ sc.names [] (λ z=>nomatch z) z)
  ·rcases eY.mp hp with z | z
   ·exact h5 p z
   ·exact absurd z (by simp)
 have st4:tn 0 h₁:=T.keep _ _ _ st2 λ b hb o e=>old b o e
 have loop:codeAny (model X.prog X.w) X.A (.compLoop (.ListComp el [⟨tg,iter,ifs,0⟩] sc pos) 0 (.ref it) (.ref s2.heap.objs.size) (compEnvC sc (fJ sc X.env) G.objs.size X.env))
   (compPost (model X.prog X.w) X.A X.xe none (EP X pins σ Q) (.ref s2.heap.objs.size) G.objs.size) { s2 with heap:=h₁,toks:=s2.toks+([]:List (Str×af)).length }:=by
  refine vM (X:=cxC X Nc sc G.objs.size s2 H2 fp pins) (.inl ⟨el,rfl⟩) hx hc (kBN _ _ _ _ _ _ _ _ _) T (hg _ _ _ _ _) (hb _ _ _ _ _ _ _) I4 st4 f4 (hw _ hn) λ σ' H' s' I' q=>?_;obtain ⟨m',hm',_⟩:=I'.loc;exact ⟨m',hm',λ h' hs'=>⟨.ref s2.heap.objs.size,H',bX I2 f2 hCle I' hs',rfl,q⟩⟩
 exact wM (.inl ⟨el,rfl⟩) rfl rfl loop (T.self _ _ _ _ _ st4 loop)
end
section
variable {X:Cx}
def kIK:V->List V->Hp->VK->Prop:=λ x vs H Q=>∃ l xs i y,x=.ref l/\vs=[.int i,y]/\H l=some (.lst xs)/\0<=i/\i<2 ^ 62/\xs.length<sizeLine/\Q .non (upd H l (.lst (xs.take i.toNat++y::xs.drop i.toNat)))
theorem vH:MtM X "list.insert" kIK:=by
 intro pins s σ H x vs v us Q I rx rv h;obtain ⟨l,xs,i,y,rfl,rfl,hH,h1,h2,hz,q⟩:=h;cases rx
 obtain ⟨u,w,rfl,⟨t,rfl⟩,rw'⟩:=rv.two;obtain ⟨z,its,n,r,hl,e⟩:=I.lstM hH
 refine uh F.slot_list_insert ⟨_,e,rfl⟩ F.entry_list_insert (F.args_list_insert_3 _ _ _)
  (AutoSeq1.list_insert_list_int_val_1 l its.toArray n i t w (by rw [Bm (by omega) (by omega)];decide) (by rw [eN];omega)) ⟨e,?_⟩
 refine ⟨.non,_,I.lset (its':=its.take i.toNat++w::its.drop i.toNat) hH e ?_ ((r.take i.toNat).append (.cons rw' (r.drop i.toNat))) ?_,rfl,q⟩
 ·have hi:¬ i<0:=by omega
  simp only [hi,if_false,eN];apply Array.toList_inj.mp;simp;by_cases hc:i.toNat<=its.length
  ·rw [iG hc,jt (l:=Fy i.toNat its) (by rw [iV];omega)]
  ·have hc':its.length<=i.toNat:=by omega
   rw [ud hc',jt (be _),jt hc',ju (be _),ju hc',List.take_nil]
 ·simp only [eI,fb,iE,iV]
  omega
def cN (ns:List Int) (n:Int) (j:Nat):Prop:=ns[j]?=some n/\∀ m:Nat,m<j->ns[m]?≠some n
theorem wT {ns:List Int} {its:List af} (r:Vals (ns.map V.int) its) {m:Nat} (hm:m<its.length):∃ k t,ns[m]?=some k/\its[m]=uu k t:=by
 have hl:=r.length;rw [aj] at hl;have hk:m<ns.length:=by omega
 obtain ⟨u,hu,q⟩:=r.get (i:=m) (x:=.int ns[m]) (by rw [bg,aa hk];rfl);obtain ⟨t,rfl⟩:=q;refine ⟨ns[m],t,aa hk,?_⟩;rw [aa hm] at hu;exact du hu
def dY (n:Int) (v:af):Bool:=match v with | .int k _=>k == n | _=>false
theorem vN {ns:List Int} {its:List af} (r:Vals (ns.map V.int) its) (n:Int) (t:Tok):∀ y,y∈its.toArray->DL y (.int n t) (dY n y):=λ y hy=>by
 obtain ⟨m,hm,rfl⟩:=ft.mp (DM.mp hy);obtain ⟨k,t',_,e⟩:=wT r hm;rw [e];exact FV _ _ _ _
theorem dP {ns:List Int} {its:List af} (r:Vals (ns.map V.int) its) {n:Int} {j:Nat} (h:cN ns n j):∃ hj:j<its.toArray.size,dY n its.toArray[j]=true/\∀ m (hm:m<its.toArray.size),m<j->dY n its.toArray[m]=false:=by
 have hl:=r.length;rw [aj] at hl;have hj:j<ns.length:=(ag.mp h.1).1;have hj':j<its.length:=by omega
 refine ⟨by rw [eN];exact hj',?_,λ m hm hlt=>?_⟩
 ·obtain ⟨k,t,e1,e2⟩:=wT r hj'
  rw [h.1] at e1;cases e1
  simp [e2,dY]
 ·rw [eN] at hm
  obtain ⟨k,t,e1,e2⟩:=wT r hm;have:k≠n:=λ z=>h.2 m hlt (by rw [e1,z]);simp [e2,dY,this]
def kLP:V->List V->Hp->VK->Prop:=λ x vs H Q=>∃ (l:ah) (ns:List Int) (n:Int) (j:Nat),x=.ref l/\vs=[.int n]/\H l=some (.lst (ns.map V.int))/\cN ns n j/\Q (.int j) H
theorem bR:MtM X "list.index" kLP:=by
 intro pins s σ H x vs v us Q I rx rv h;obtain ⟨l,ns,n,j,rfl,rfl,hH,hj,q⟩:=h;cases rx
 obtain ⟨u,rfl,t,rfl⟩:=rv.one;obtain ⟨z,its,m,r,hl,e⟩:=I.lstM hH;obtain ⟨h1,h2,h3⟩:=dP r hj
 have hs:(j:Int)<2 ^ 63-1:=by
  have:=aQ;rw [eN] at h1;omega
 refine uh Cn ⟨_,e,rfl⟩ CU (By _ _) (Bz l its.toArray m (.int n t) (dY n) (vN r n t) j h1 hs h2 h3) ⟨e,?_⟩;exact ⟨.int j,H,I.tok _,⟨_,rfl⟩,q⟩
def kIJ:V->List V->Hp->VK->Prop:=λ x vs H Q=>∃ (l:ah) (ns:List Int) (n:Int) (j:Nat),x=.ref l/\vs=[.int n]/\H l=some (.lst (ns.map V.int))/\cN ns n j/\Q .non (upd H l (.lst ((ns.eraseIdx j).map V.int)))
theorem zV {α β:Type} (f:α->β):∀ (l:List α) (j:Nat),(l.eraseIdx j).map f=(l.map f).eraseIdx j
 | [],j=>by simp
 | x::r,0=>by simp
 | x::r,j+1=>by simp [zV f r j]
theorem wF:MtM X "list.remove" kIJ:=by
 intro pins s σ H x vs v us Q I rx rv h;obtain ⟨l,ns,n,j,rfl,rfl,hH,hj,q⟩:=h;cases rx
 obtain ⟨u,rfl,t,rfl⟩:=rv.one;obtain ⟨z,its,m,r,hl,e⟩:=I.lstM hH;obtain ⟨h1,h2,h3⟩:=dP r hj;refine uh F.slot_list_remove ⟨_,e,rfl⟩ F.entry_list_remove (F.args_list_remove_2 _ _) (MeetsSeq.list_remove l its.toArray m (.int n t) (dY n) (vN r n t) j h1 h2 h3 (by rw [eN];omega)) ⟨e,?_⟩;refine ⟨.non,_,I.lset (its':=its.eraseIdx j) hH e ?_ (by rw [zV];exact r.eraseIdx j) ?_,rfl,q⟩
 ·show its.toArray.eraseIdxIfInBounds j=(its.eraseIdx j).toArray
  rw [yi]
 ·rw [aj]
  have:=dG ns j;rw [aj] at z;omega
end
theorem gA {lo:Int} {n:Nat} {g:TG} {b:TB} {N0:St->Hp->Prop} {σ:St} {H:Hp} (Pv:Nat->St->Hp->Prop) (h0:Pv 0 σ H)
  (hs:∀ i σ H,i<n->Pv i σ H->g (.int (lo+i)) σ H λ σ2 H2=>b (Pv (i+1)) σ2 H2) (hd:∀ σ H,Pv n σ H->N0 σ H):uD (Itr lo n) g b N0 σ H:=by
 refine ⟨λ i m σ H=>m=n-i/\i<=n/\Pv i σ H,⟨n,by simp,iK _,h0⟩,?_⟩;rintro i m σ H ⟨rfl,hle,p⟩;by_cases hi:i<n
 ·refine .inr ⟨hi,Pv (i+1),λ σ' H' q=>⟨n-(i+1),by omega,rfl,by omega,q⟩,λ x H' hy=>?_⟩
  obtain ⟨rfl,rfl⟩:=hy;exact hs i σ _ hi p
 ·have:i=n:=by omega
  subst this;exact .inl ⟨be _,hd σ H p⟩
theorem xG {K:au} {a:ah} {xs:List V} {g:TG} {b:TB} {N0:St->Hp->Prop} {σ:St} {H:Hp} (Pv:Nat->St->Hp->Prop) (h0:Pv 0 σ H) (hl:∀ i σ H,i<=xs.length->Pv i σ H->SqL K H a xs)
  (hs:∀ i x σ H,xs[i]?=some x->Pv i σ H->g x σ H λ σ2 H2=>b (Pv (i+1)) σ2 H2) (hd:∀ σ H,Pv xs.length σ H->N0 σ H):uD (Itl K a) g b N0 σ H:=by
 refine ⟨λ i m σ H=>m=xs.length-i/\i<=xs.length/\Pv i σ H,⟨xs.length,by simp,iK _,h0⟩,?_⟩;rintro i m σ H ⟨rfl,hle,p⟩;by_cases hi:i<xs.length
 ·refine .inr ⟨⟨xs,xs[i],hl i σ H hle p,by simp [hi]⟩,Pv (i+1),λ σ' H' q=>⟨xs.length-(i+1),by omega,rfl,by omega,q⟩,λ x H' hy=>?_⟩
  obtain ⟨rfl,hy⟩:=hy;exact hs i x σ _ (hy xs (hl i σ _ hle p)) p
 ·have:i=xs.length:=by omega
  subst this;exact .inl ⟨⟨xs,hl _ σ H hle p,be _⟩,hd σ H p⟩
theorem aX {K:au} {a:ah} {xs:List V} {g:TG} {b:TB} {N0:St->Hp->Prop} {σ:St} {H:Hp} (Pv:Nat->St->Hp->Prop) (h0:Pv 0 σ H) (hl:∀ i σ H,i<=xs.length->Pv i σ H->SqT K H a xs)
  (hs:∀ i x σ H,xs[i]?=some x->Pv i σ H->g x σ H λ σ2 H2=>b (Pv (i+1)) σ2 H2) (hd:∀ σ H,Pv xs.length σ H->N0 σ H):uD (Itt K a) g b N0 σ H:=by
 refine ⟨λ i m σ H=>m=xs.length-i/\i<=xs.length/\Pv i σ H,⟨xs.length,by simp,iK _,h0⟩,?_⟩;rintro i m σ H ⟨rfl,hle,p⟩;by_cases hi:i<xs.length
 ·refine .inr ⟨⟨xs,xs[i],hl i σ H hle p,by simp [hi]⟩,Pv (i+1),λ σ' H' q=>⟨xs.length-(i+1),by omega,rfl,by omega,q⟩,λ x H' hy=>?_⟩
  obtain ⟨rfl,hy⟩:=hy;exact hs i x σ _ (hy xs (hl i σ _ hle p)) p
 ·have:i=xs.length:=by omega
  subst this;exact .inl ⟨⟨xs,hl _ σ H hle p,be _⟩,hd σ H p⟩
section
variable {prog:eU} {w:gk} {A:eV} {E:af->ak->Prop}
end
section
variable {X:Cx} {pos:Pos}
theorem rC:xW X (.builtin "divmod") (λ xs H Q=>∃ i j:Int,xs=[.int i,.int j]/\(0<j/\j.natAbs<2 ^ 9000)/\∀ p,H p=none->Q (.ref p) (upd H p (.tup [.int (i / j),.int (i % j)]))):=by
 intro pins s σ H xs us Q I r h;obtain ⟨i,j,rfl,⟨h1,h2⟩,q⟩:=h;obtain ⟨u,w',rfl,⟨t,rfl⟩,⟨t',rfl⟩⟩:=mN r;refine divmod_int (by omega) ?_ (.inl (PyProof.noPylong_of_log2 (Own.log2_lt h2)));rw [AK i (by omega),AL i (by omega)];have hn:H s.heap.objs.size=none:=I.hok.fresh (be _);refine ⟨.ref s.heap.objs.size,_,?_,rfl,q _ hn⟩;refine I.laid (λ b o e=>ao _ e) (be _) ⟨by simp only [iE,qc];rw [vh];decide,[.int (i / j) s.toks,.int (i % j) (s.toks+1)],.cons ⟨_,rfl⟩ (.cons ⟨_,rfl⟩ .nil),?_⟩;exact ⟨_,eK s.heap rfl,rfl,0,rfl,rfl⟩
theorem bY:∀ {ns:List Int} {its:List af},Vals (ns.map V.int) its->Cj its ns
 | [],_,r=>by cases r;exact .nil
 | n::ns,_,r=>by
  cases r with
  | cons r1 r2 =>
   obtain ⟨t,rfl⟩:=r1;exact .cons n t (bY r2)
end
mutual
def Dt (K:au) (H:Hp):AR->V->Prop
 | .none,v=>v=.non
 | .bool b,v=>v=.bl b
 | .int i,v=>v=.int i
 | .str x,v=>v=.str x
 | .tuple xs,v=>∃ a vs,v=.ref a/\SqT K H a vs/\DtAll K H xs vs
 | .list xs,v=>∃ a vs,v=.ref a/\SqL K H a vs/\DtAll K H xs vs
 | .dict _,_=>False
def DtAll (K:au) (H:Hp):List AR->List V->Prop
 | [],vs=>vs=[]
 | d::ds,vs=>∃ v vr,vs=v::vr/\Dt K H d v/\DtAll K H ds vr
end
section
variable {X:Cx} {pins:List (ah×Obj)} {σ:St} {H:Hp} {s:ak}
mutual
theorem Dt.reads (I:Inv X pins σ H s):∀ (d:AR) (v:V) (u:af),RelV v u->Dt X.K H d v->∃ as,Fm s.heap u d as
 | .none,v,u,r,h=>by unfold Dt at h;subst h;cases r;exact ⟨_,.none⟩
 | .bool b,v,u,r,h=>by unfold Dt at h;subst h;cases r;exact ⟨_,.bool b⟩
 | .int i,v,u,r,h=>by unfold Dt at h;subst h;obtain ⟨t,rfl⟩:=r;exact ⟨_,.int i t⟩
 | .str x,v,u,r,h=>by unfold Dt at h;subst h;obtain ⟨t,rfl⟩:=r;exact ⟨_,.str x t⟩
 | .tuple xs,v,u,r,h=>by
  unfold Dt at h;obtain ⟨a,vs,rfl,hs,hd⟩:=h;cases r
  obtain ⟨its,rv,⟨o,e1,e2,n,e3⟩,hz⟩:=I.tuple hs;obtain ⟨as,ra⟩:=DtAll.reads I xs vs its rv hd;exact ⟨_,.tuple e1 e2 e3 (by simpa using ra)⟩
 | .list xs,v,u,r,h=>by
  unfold Dt at h;obtain ⟨a,vs,rfl,hs,hd⟩:=h;cases r
  obtain ⟨its,rv,ht,hz⟩:=I.list hs;obtain ⟨as,ra⟩:=DtAll.reads I xs vs its rv hd;obtain ⟨o,e1,e2,n,e3⟩:=ht.isList;exact ⟨_,.list e1 e2 e3 (by simpa using ra)⟩
 | .dict _,v,u,r,h=>by unfold Dt at h;exact h.elim
theorem DtAll.reads (I:Inv X pins σ H s):∀ (ds:List AR) (vs:List V) (us:List af),Vals vs us->DtAll X.K H ds vs->∃ as,FW s.heap us ds as
 | [],vs,us,r,h=>by unfold DtAll at h;subst h;cases r;exact ⟨_,.nil⟩
 | d::ds,vs,us,r,h=>by
  unfold DtAll at h;obtain ⟨v,vr,rfl,h1,h2⟩:=h
  cases r with
  | cons r1 r2 =>
   obtain ⟨as,q1⟩:=Dt.reads I d v _ r1 h1;obtain ⟨bs,q2⟩:=DtAll.reads I ds vr _ r2 h2;exact ⟨_,.cons q1 q2⟩
end
end
section
variable {X:Cx}
def kPS (K:au) (neg:Bool):R2:=λ x y H Q=>∃ d e,Dt K H d x/\Dt K H e y/\qx d=true/\qx e=true/\Q (.bl (if neg then !PyData.eqv d e else qf d e)) H
theorem kAH (hu:X.A.units+64<cLine):OpR X (compareOp .NotEq) (kPS X.K true):=by
 intro pins s σ H x y v u Q I rx ry h;obtain ⟨d,e,h1,h2,s1,s2,q⟩:=h;obtain ⟨as,p1⟩:=Dt.reads I d x v rx h1;obtain ⟨bs,p2⟩:=Dt.reads I e y u ry h2;exact SeqAt.compareNe_shaped p1 p2 s1 s2 hu ⟨.bl _,H,I,rfl,q⟩
end
open Classical in
noncomputable def eqD (h:gw) (d:AR) (u:af):Bool:=if z:∃ d',d'.canLay0=true/\∃ as,Fm h u d' as then qf z.choose d else false
theorem kHF {h:gw} {d d':AR} {u:af} {as:List ah} (c:d'.canLay0=true) (r:Fm h u d' as):eqD h d u=qf d' d:=by
 have z:∃ d',d'.canLay0=true/\∃ as,Fm h u d' as:=⟨d',c,as,r⟩;unfold eqD;rw [dif_pos z];obtain ⟨c1,as',r1⟩:=z.choose_spec;rw [Fg _ _ _ _ _ c1 r1 r]
theorem kCX {h:gw} {d:AR}:∀ {es:List AR} {us:List af} {as:List ah},FW h us es as->oh es=true->us.any (eqD h d)=es.any λ e=>qf e d
 | [],us,as,r,_=>by cases r;rfl
 | e::es,us,as,r,c=>by
  have c':e.canLay0=true/\oh es=true:=by simpa [oh] using c
  cases r with
  | cons r1 r2=>rw [BA,BA,kHF c'.1 r1,kCX r2 c'.2]
theorem mZ {h:gw}:∀ {es:List AR} {us:List af} {as:List ah},FW h us es as->∀ u∈us,∃ e∈es,∃ as,Fm h u e as
 | [],us,as,r,u,hu=>by cases r;cases hu
 | e::es,us,as,r,u,hu=>by
  cases r with
  | cons r1 r2 =>
   rcases gv.mp hu with rfl | hu
   ·exact ⟨e,fv,_,r1⟩
   ·obtain ⟨e',he,x⟩:=mZ r2 u hu
    exact ⟨e',eZ _ he,x⟩
theorem kNC {es:List AR} (h:∀ e∈es,qx e=true):oh es=true:=by
 induction es with
 | nil=>rfl
 | cons e es ih =>
  simp only [oh,jo];exact ⟨ui (h e fv),ih λ e' he=>h e' (eZ _ he)⟩
section
variable {X:Cx}
def kPR (K:au) (neg:Bool):R2:=λ x y H Q=>∃ d es p xs,y=.ref p/\(SqL K H p xs\/SqT K H p xs)/\Dt K H d x/\DtAll K H es xs/\qx d=true/\(∀ e∈es,qx e=true) /\
 Q (.bl (if neg then !es.any (λ e=>qf e d) else es.any λ e=>qf e d)) H
theorem kDP (hu:X.A.units+65<cLine):OpR X (compareOp .NotIn) (kPR X.K true):=by
 intro pins s σ H x y v u Q I rx ry h;obtain ⟨d,es,p,xs,rfl,hq,hd,hes,sd,ses,q⟩:=h;cases ry
 obtain ⟨as,rd⟩:=Dt.reads I d x v rx hd
 have key:∀ its:List af,Vals xs its->(∀ w∈its,CQ X.A.in1 s w v (eqD s.heap d w))/\its.any (eqD s.heap d)=es.any λ e=>qf e d:=λ its r=>by
  obtain ⟨bs,ra⟩:=DtAll.reads I es xs its r hes;refine ⟨λ w hw=>?_,kCX ra (kNC ses)⟩;obtain ⟨e,he,cs,re⟩:=mZ ra w hw;rw [kHF (ui (ses e he)) re];exact SeqAt.eqAt_reads e d X.A.in1 s w v cs as re rd (ui (ses e he)) (ui sd) (SeqAt.room_of_shaped (ses e he) (by show X.A.units+1+64<cLine;omega))
 rcases hq with hq | hq
 ·obtain ⟨its,r,pl,hz⟩:=I.list hq
  obtain ⟨k1,k2⟩:=key its r;refine CT (eqD s.heap d) pl.isList (λ w hw=>k1 w (by simpa using hw)) ⟨.bl _,H,I,rfl,?_⟩;rw [show its.toArray.any (eqD s.heap d)=its.any (eqD s.heap d) by simp,k2];exact q
 ·obtain ⟨its,r,pl,hz⟩:=I.tuple hq
  obtain ⟨k1,k2⟩:=key its r;refine Bx (eqD s.heap d) pl (λ w hw=>k1 w (by simpa using hw)) ⟨.bl _,H,I,rfl,?_⟩;rw [show its.toArray.any (eqD s.heap d)=its.any (eqD s.heap d) by simp,k2];exact q
end
def kQA (sc S0:ua):Bool:=(sc.names.all λ y=>(y.2 != .local || sc.names.lookup y.1 == some .local) && y.2 != .cell && (y.2 != .free || S0.names.lookup y.1 == some .cell))
theorem CS.of {sc S0:ua} (k:sc.kind=.function) (h:kQA sc S0=true):CS sc S0:=by
 have q:∀ y∈sc.names,_:=yt.mp h;refine ⟨k,λ y hy e=>?_,λ y hy e=>?_,λ y hy e=>?_⟩<;>have z:=q y hy<;>rw [jo,jo] at z<;>obtain ⟨⟨z1,z2⟩,z3⟩:=z
 ·rw [e] at z1;simpa using z1
 ·rw [e] at z2;simp at z2
 ·rw [e] at z3;simpa using z3
theorem Room.units65 {k:Nat} {A:eV} (r:Room k A):A.units+65<cLine:=by have:=r.un;omega
section
variable {prog:eU} {w:gk} {A:eV} {E:af->ak->Prop} {s:ak}
theorem kAQ {it t:ah} {i:Nat} {items:Array af} {x:af} {Q:af->ak->Prop} (hit:s.heap.IsTupleIter it t i) (ht:s.heap.IsTuple t items) (hx:items[i]?=some x)
  (hQ:∀ h',h'.IsTupleIter it t (i+1)->ma it s.heap h'->Q x { s with heap:=h' }):de (model prog w) A (qj (.ref it)) Q E s:=by
 obtain ⟨o,ho,hc,hd⟩:=id hit;obtain ⟨ot,hot,_,nt,hdt⟩:=ht;unfold qj;refine ae (ub (name:=BK "__next__") hit.typeIs qg (wd qg hit.typeIs AE ?_ (zq _)));show de _ _ (field (.ref it) 0 >>= _) _ _ s;refine ae (kq ho hd (x:=.ref t) rfl ?_);show de _ _ (if (fo t == jg)=true then _ else _) _ _ s;rw [if_neg (show ¬ ((fo t == jg)=true) from dj)];show de _ _ (field (.ref it) 1 >>= _) _ _ s;refine ae (kq ho hd (x:=.int i 0) rfl ?_);show de _ _ (seqItems? (.ref t) >>= _) _ _ s;refine ae (Dy hot hdt ?_);simp only [qw,hx];refine ae (vm ho hd (by simp) (av ⟨x,rfl,av (hQ _ ?_ (jc ..))⟩));refine ⟨_,iI _ ho (lg (ji hd _)),(Obj.cls_mapFields ..).trans hc,?_⟩;rw [ji hd];simp [rawInt]
theorem lE {it t:ah} {i:Nat} {items:Array af} {Q:af->ak->Prop} (hh:A.handled=none) (hit:s.heap.IsTupleIter it t i) (ht:s.heap.IsTuple t items) (hx:items[i]?=none)
  (hE:∀ h' e,Heap.ExtBut it s.heap h'->(∃ o,h'.get? e=some o/\o.cls=.type "StopIteration")->E (.ref e) { s with heap:=h' }):de (model prog w) A (qj (.ref it)) Q E s:=by
 obtain ⟨o,ho,hc,hd⟩:=id hit;obtain ⟨ot,hot,_,nt,hdt⟩:=ht;unfold qj;refine ae (ub (name:=BK "__next__") hit.typeIs qg (wd qg hit.typeIs AE ?_ (zq _)));show de _ _ (field (.ref it) 0 >>= _) _ _ s;refine ae (kq ho hd (x:=.ref t) rfl ?_);show de _ _ (if (fo t == jg)=true then _ else _) _ _ s;rw [if_neg (show ¬ ((fo t == jg)=true) from dj)];show de _ _ (field (.ref it) 1 >>= _) _ _ s;refine ae (kq ho hd (x:=.int i 0) rfl ?_);show de _ _ (seqItems? (.ref t) >>= _) _ _ s;refine ae (Dy hot hdt ?_);simp only [qw,hx];refine ae (yo (ae (vm ho hd (by simp) ?_)));show de _ _ (newExc (.type "StopIteration") [] >>= _) _ _ _;refine ae ?_;simp only [newExc,newTuple];refine ae (iR ?_ (by size_fits));refine ae (m:=firstArgMember _ _) (wpAny_of_eq (a:=jg) (by first | rfl | (simp only [firstArgMember];rfl)) ?_);refine iR ?_ (by size_fits);simp only [raiseNew];refine ae (wpAny_handled ?_)
 first | rw [show A.in1.handled=none from hh] | rw [hh]
 refine ae (av (wpAny_throw ?_));exact hE _ _ (((jc ..).extBut.push _).push _) ⟨_,eK _ rfl,rfl⟩
end
def ItOf (k:Bool) (h:gw) (it a:ah) (i:Nat):Prop:=match k with | true=>h.IsListIter it a i | false=>h.IsTupleIter it a i
def SqOf (k:Bool) (h:gw) (a:ah) (items:Array af):Prop:=match k with | true=>h.IsList a items | false=>h.IsTuple a items
def kMR (k:Bool):String:=match k with | true=>"list_iterator" | false=>"tuple_iterator"
def SqX (K:au) (k:Bool) (H:Hp) (a:ah) (xs:List V):Prop:=match k with | true=>SqL K H a xs | false=>SqT K H a xs
theorem ItOf.at {k:Bool} {h h':gw} {it a:ah} {i:Nat} (x:ItOf k h it a i) (g:∀ o,h.get? it=some o->h'.get? it=some o):ItOf k h' it a i:=by
 cases k
 ·obtain ⟨o,e,r⟩:=x;exact ⟨o,g o e,r⟩
 ·obtain ⟨o,e,r⟩:=x;exact ⟨o,g o e,r⟩
theorem ItOf.live {k:Bool} {h:gw} {it a:ah} {i:Nat} (x:ItOf k h it a i):∃ o,h.get? it=some o/\∀ v,o.data≠.cell v:=by
 cases k
 ·obtain ⟨o,e,c,d⟩:=x;exact ⟨o,e,λ v z=>by rw [d] at z;cases z⟩
 ·obtain ⟨o,e,c,d⟩:=x;exact ⟨o,e,λ v z=>by rw [d] at z;cases z⟩
theorem SqOf.at {k:Bool} {h h':gw} {a:ah} {items:Array af} (x:SqOf k h a items) (g:∀ o,h.get? a=some o->h'.get? a=some o):SqOf k h' a items:=by
 cases k
 ·obtain ⟨o,e,r⟩:=x;exact ⟨o,g o e,r⟩
 ·obtain ⟨o,e,r⟩:=x;exact ⟨o,g o e,r⟩
theorem Inv.sq {X:Cx} {pins:List (ah×Obj)} {σ:St} {H:Hp} {s:ak} {k:Bool} {a:ah} {xs:List V} (I:Inv X pins σ H s) (h:SqX X.K k H a xs):∃ its:List af,Vals xs its/\SqOf k s.heap a its.toArray:=by
 cases k
 ·obtain ⟨its,r,p,_⟩:=I.tuple h
  exact ⟨its,r,p⟩
 ·obtain ⟨its,r,p,_⟩:=I.list h
  exact ⟨its,r,p.isList⟩
theorem Inv.sq_inj {X:Cx} {pins:List (ah×Obj)} {σ:St} {H:Hp} {s:ak} {k:Bool} {a:ah} {xs ys:List V} (I:Inv X pins σ H s) (h:SqX X.K k H a xs) (h':SqX X.K k H a ys):xs=ys:=by
 cases k
 ·exact I.tuple_inj h h'
 ·exact I.list_inj h h'
section
variable {prog:eU} {w:gk} {A:eV} {E:af->ak->Prop} {s:ak}
theorem sV (hh:A.handled=none) (k:Bool) (it a:ah) (hne:a≠it) (items:Array af):Draws prog w A it [it,a] items.size (λ i v=>items[i]?=some v) (λ i h=>ItOf k h it a i/\SqOf k h a items) where
 live:=λ _ _ st=>let ⟨o,ho,_⟩:=st.1.live;⟨o,ho⟩
 frame:=λ _ _ _ st hk=>⟨st.1.at λ o e=>hk it (by simp) o e,st.2.at λ o e=>hk a (by simp) o e⟩
 item:=λ i s Q E hi st hQ=>by
  have hx:items[i]?=some items[i]:=by simp [hi]
  cases k
  ·exact kAQ st.1 st.2 hx λ h' hit' hs'=>hQ _ h' s.toks hx ⟨hit',st.2.at λ o e=>hs'.extBut a o hne e⟩ hs'
  ·exact wpAny_nextOf_list_item st.1 st.2 hx λ h' hit' hs'=>hQ _ h' s.toks hx ⟨hit',st.2.at λ o e=>hs'.extBut a o hne e⟩ hs'
 done:=λ s Q E st hE=>by
  cases k
  ·exact lE hh st.1 st.2 (by simp) hE
  ·exact wpAny_nextOf_list_end hh st.1 st.2 (by simp) hE
end
theorem Inv.turnedL {X:Cx} {pins:List (ah×Obj)} {σ:St} {H:Hp} {s:ak} {h':gw} {t':Nat} {ch:List ah} (I:Inv X pins σ H s) (k:∀ b o,b∉ch->s.heap.get? b=some o->h'.get? b=some o) (hf:∀ b∈ch,vY X pins H b) :
  Inv X pins σ H { s with heap:=h',toks:=t' }:=by
 have nit:∀ b u,H b=some u->b∉ch:=λ b u e z=>by rw [(hf b z).1] at e;cases e
 refine I.step (g':=s.gens) (d':=s.drawn) (ch:=ch) (λ b hb=>?_) (λ b o _ _ hc e _=>k b o hc e) (λ b o _ _ hc e _=>⟨o.slots,k b o hc e⟩) (λ _ _ _ _ n=>n)
  (λ b o hc e=>⟨o,k b o hc e⟩) (λ _ _ e=>e) (λ _ _ _ e=>e) (λ b ps e=>⟨#[],by rw [e];simp⟩) (λ m hm=>?_) (λ b u e=>?_) I.bare
 ·obtain ⟨f0,f1,f2,f3,f4,f5⟩:=hf b hb
  exact ⟨f3,f1,f4,f5⟩
 ·obtain ⟨o,es,ep,ho,r⟩:=hm
  exact ⟨o,es,ep,k _ o (λ z=>(hf _ z).2.1 rfl) ho,r⟩
 ·refine (I.hok b u e).stay (λ c v hc q=>k c v ?_ q) (λ _ q=>q) λ _ _ q=>q
  rcases hc with z | z
  ·rw [z];exact nit b u e
  ·exact nit c _ z
open AutoSeq1 (wpAny_loadPart')
theorem pZ (l:ah) (items:Array af) (n:Nat) (dct:Option ah) (sl:Array (Option af)) :
  Meets (zd.«enumerate.__new__» ⟨[.type "enumerate",.ref l],[]⟩) (λ _ R s=>s.heap.get? l=some { cls:=.type "tuple",dict:=dct,data:=.seq items n,slots:=sl } /\
   R (.ok (.ret (.ref (s.heap.push { cls:=.type "tuple_iterator",data:=.fields #[.ref l,.int 0 0] }).objs.size)))
    { s with heap:=(s.heap.push { cls:=.type "tuple_iterator",data:=.fields #[.ref l,.int 0 0] }).push { cls:=.type "enumerate",data:=.fields #[.none,.bool false,.ref s.heap.objs.size,rawInt 0,.none,.none] } }) :=
 .of_wp λ prog w A R s h=>by
  obtain ⟨hp,g,d,tk,os⟩:=s;obtain ⟨hl,h⟩:=h;have hsub:=sub_enumerate;have hL:Heap.IsTuple (Shared.heap ⟨hp,g,d,tk,os⟩) l items:=⟨_,hl,rfl,n,rfl⟩
  wp_walk using wz hl
  refine wpAny_stack_any λ st=>av ?_
  split
  ·rename_i c _ _ _ _ _
   cases (c == yn "enumerate")
   ·wp_walk using wz hl,uf hL
    exact ⟨_,rfl,h⟩
   ·wp_walk using wz hl,uf hL
    exact ⟨_,rfl,h⟩
  ·wp_walk using wz hl,uf hL
   exact ⟨_,rfl,h⟩
section
variable {prog:eU} {w:gk} {A:eV} {E:af->ak->Prop} {s:ak}
theorem rB {k:Bool} {l:ah} {items:Array af} {Q:af->ak->Prop} (hL:SqOf k s.heap l items)
  (h:∀ h',IsEnum h' (s.heap.objs.size+1) s.heap.objs.size 0 .none->ItOf k h' s.heap.objs.size l 0->(∀ b o,s.heap.get? b=some o->h'.get? b=some o)->Q (.ref (s.heap.objs.size+1)) { s with heap:=h' }) :
  de (model prog w) A (call (.type "enumerate") [.ref l]) Q E s:=by
 cases k
 ·obtain ⟨⟨c,dct,dt,sl⟩,hl,hc,n,hd⟩:=hL
  replace hc:c=.type "tuple":=hc
  replace hd:dt=.seq items n:=hd
  subst hc hd;refine callType_new F.called_enumerate (by decide) (F.typeCall_enumerate_1 _) (F.newCall_enumerate_1 _) (λ obj=>F.args_object_init_2 obj _) F.entry_enumerate_new (pZ l items n dct sl) ⟨hl,?_⟩;have hz:(s.heap.push { cls:=.type "tuple_iterator",data:=.fields #[.ref l,.int 0 0] }).objs.size=s.heap.objs.size+1:=qe ..;show _/\_;rw [hz];have he:=eK (s.heap.push { cls:=.type "tuple_iterator",data:=.fields #[.ref l,.int 0 0] }) (o:={ cls:=.type "enumerate",data:=.fields #[.none,.bool false,.ref s.heap.objs.size,rawInt 0,.none,.none] }) rfl;rw [hz] at he;exact ⟨⟨_,he,rfl⟩,h _ he ⟨_,ao _ (eK _ rfl),rfl,rfl⟩ λ b o x=>ao _ (ao _ x)⟩
 ·exact call_enumerate_list hL λ h' he hi _ hk=>h h' he hi hk
end
theorem kKC {k k':Bool} {h:gw} {a it b:ah} {i:Nat} {items:Array af} (x:SqOf k h a items) (y:ItOf k' h it b i):a≠it:=by
 intro z;subst z
 cases k<;>cases k'<;>obtain ⟨o,e,c,_⟩:=x<;>obtain ⟨o',e',c',_⟩:=y<;>rw [e] at e'<;>cases e'<;>rw [c] at c'<;>revert c'<;>decide
theorem kHM {h:gw} {a b:ah} {o u:Obj} {m n:String} (h1:h.get? a=some o) (h2:h.get? b=some u) (c1:o.cls=.type m) (c2:u.cls=.type n) (d:m≠n):a≠b:=by
 intro z;subst z;rw [h1] at h2;cases h2
 rw [c1] at c2;injection c2 with e
 exact d e
theorem ItOf.cls {k:Bool} {h:gw} {it a:ah} {i:Nat} (x:ItOf k h it a i):∃ o,h.get? it=some o/\o.cls=.type (kMR k):=by
 cases k<;>obtain ⟨o,e,c,_⟩:=x<;>exact ⟨o,e,c⟩
def kLG (k:Bool):String:=match k with | true=>"list" | false=>"tuple"
theorem SqOf.cls {k:Bool} {h:gw} {a:ah} {items:Array af} (x:SqOf k h a items):∃ o,h.get? a=some o/\o.cls=.type (kLG k):=by
 cases k<;>obtain ⟨o,e,c,_⟩:=x<;>exact ⟨o,e,c⟩
theorem Inv.handed {X:Cx} {pins:List (ah×Obj)} {σ:St} {H:Hp} {s:ak} {h':gw} {t':Nat} {ch:List ah} {x y:V} {u v:af} (I:Inv X pins σ H s) (rx:RelV x u) (ry:RelV y v)
  (hT:h'.get? s.heap.objs.size=some { cls:=.type "tuple",data:=.seq #[u,v] }) (k:∀ b o,b∉ch->s.heap.get? b=some o->h'.get? b=some o) (hf:∀ b∈ch,vY X pins H b) (hlt:∀ b∈ch,b<s.heap.objs.size) :
  Inv X pins σ (upd H s.heap.objs.size (.tup [x,y])) { s with heap:=h',toks:=t' }/\(∀ b∈ch,upd H s.heap.objs.size (.tup [x,y]) b=none):=by
 have hn:∀ b∈ch,upd H s.heap.objs.size (.tup [x,y]) b=none:=λ b hb=>by rw [kH (eM (hlt b hb))];exact (hf b hb).1
 have I1:Inv X pins σ (upd H s.heap.objs.size (.tup [x,y])) { s with heap:=s.heap.push { cls:=.type "tuple",data:=.seq #[u,v] },toks:=s.toks } :=
  I.laid (λ b o e=>ao _ e) (be _) ⟨by simp only [iE,qc];rw [vh];decide,[u,v],.cons rx (.cons ry .nil),⟨_,eK _ rfl,rfl,0,rfl,rfl⟩⟩
 have I2:=Inv.turnedL (h':=h') (t':=t') (ch:=ch) I1 (λ b o hb e=>by
  rcases Heap.get?_push_cases e with ⟨rfl,rfl⟩ | e
  ·exact hT
  ·exact k b o hb e) (λ b hb=>by
  obtain ⟨f0,f1,f2,f3,f4,f5⟩:=hf b hb;exact ⟨hn b hb,f1,f2,f3,f4,f5⟩)
 exact ⟨I2,hn⟩
def Ite (k:Bool) (K:au) (a:ah):It :=
 ⟨λ i H=>∃ xs x,SqX K k H a xs/\xs[i]?=some x,λ i H v H'=>∃ T x,H T=none/\v=.ref T/\(∀ xs,SqX K k H a xs->xs[i]?=some x)/\H'=upd H T (.tup [.int i,x]),λ i H=>∃ xs,SqX K k H a xs/\xs.length=i⟩
theorem kDE {P:eU} {w:gk} {K:au} {elts:List iQ} {x1} {pos:Pos} (k:Bool) (a e it:ah):Turn P w K (.Tuple elts x1 pos) (Ite k K a) [e,it] e (λ i h=>(∃ old,IsEnum h e it i old)/\ItOf k h it a i) where
 mem:=by simp
 obj:=λ i h st b hb=>by
  obtain ⟨⟨old,he⟩,hi⟩:=st;rcases gv.mp hb with rfl | hb
  ·exact ⟨_,he,λ v z=>by cases z⟩
  ·have:b=it:=by simpa using hb
   subst this;exact hi.live
 keep:=λ i h h' st kk=>by
  obtain ⟨⟨old,he⟩,hi⟩:=st;exact ⟨⟨old,kk e (by simp) _ he⟩,hi.at λ o q=>kk it (by simp) o q⟩
 item:=by
  intro X hP hw hK hc i pins s σ H E I hf st hg;subst hP hw hK;obtain ⟨⟨old,he⟩,hi⟩:=st;obtain ⟨xs,x,hq,hx⟩:=hg;obtain ⟨its,rv,p⟩:=I.sq hq;obtain ⟨u,hu,ru⟩:=rv.get hx;have nai:=kKC p hi;obtain ⟨oi,ei,ci⟩:=hi.cls;obtain ⟨oa,ea,ca⟩:=p.cls;have nei:e≠it:=kHM he ei rfl ci (by cases k<;>decide);have nea:e≠a:=kHM he ea rfl ca (by cases k<;>decide);have D:=sV (prog:=X.prog) (w:=X.w) (A:=X.A.in1) (I.ok.hd hc) k it a nai its.toArray
  have hlt:i<its.toArray.size:=by
   have:=(ag.mp hu).1;simpa using this
  refine wpAny_pyNext_enum_itemD D he ⟨hi,p⟩ hlt nei (by simp [nei,nea]) λ y h' tk hy ho hs' hT hz hk=>?_
  have ey:y=u:=by
   have hy':its[i]?=some y:=by simpa using hy
   rw [hu] at hy';exact (du hy').symm
  subst ey;refine ⟨_,rfl,wpAny_letOwnedTupleGo_enum ho λ h2 he2 hs2=>?_⟩;have hel:e<s.heap.objs.size:=cf he;have hil:it<s.heap.objs.size:=cf ei;have hT2:h2.get? s.heap.objs.size=some { cls:=.type "tuple",data:=.seq #[.int i tk,y] }:=hs2.extBut _ _ (jm hel) hT
  obtain ⟨I2,n2⟩:=I.handed (x:=.int i) (u:=.int i tk) (t':=tk+1) (ch:=[e,it]) ⟨tk,rfl⟩ ru hT2 (λ b o hb q=>hs2.extBut b o (λ z=>hb (by simp [z])) (hk b o (λ z=>hb (by simp [z])) (λ z=>hb (by simp [z])) q)) hf
   (λ b hb=>by rcases gv.mp hb with rfl | hb;exact hel;rw [fw.mp hb];exact hil)
  refine ⟨.ref s.heap.objs.size,_,I2,rfl,⟨_,x,I.hok.fresh (be _),rfl,λ ys hys=>by rw [I.sq_inj hys hq];exact hx,rfl⟩,⟨⟨_,by simpa using he2⟩,hs'.1.at λ o q=>hs2.extBut it o nei.symm q⟩,n2⟩
 done:=by
  intro X hP hw hK hc i pins s σ H E I hf st hg;subst hP hw hK;obtain ⟨⟨old,he⟩,hi⟩:=st;obtain ⟨xs,hq,hx⟩:=hg;obtain ⟨its,rv,p⟩:=I.sq hq;have nai:=kKC p hi;have D:=sV (prog:=X.prog) (w:=X.w) (A:=X.A.in1) (I.ok.hd hc) k it a nai its.toArray;have hl:its.toArray.size=i:=by rw [<-hx,rv.length];simp
  refine wpAny_pyNext_enum_endD D he ⟨hl ▸ hi,p⟩ λ h' eb=>⟨rfl,I.turnedL (t':=s.toks) (ch:=[it]) (λ b o hb q=>eb b o (λ z=>hb (by simp [z])) q) λ b hb=>hf b (by simp at hb ⊢;exact .inr hb)⟩
 self:=λ _ _ _ _ _ st h=>by
  obtain ⟨⟨old,he⟩,_⟩:=st;exact Co he h
section
variable {X:Cx}
def kOS (k:Bool) (K:au) (ta:TA):TI:=λ σ H R=>ta σ H λ vs H1=>∃ a,vs=[.ref a]/\(∃ xs,SqX K k H1 a xs)/\R (Ite k K a) H1
theorem kBV (k:Bool) {a:iQ} {ta:TA} {p pos tpos:Pos} {elts:List iQ} {x1} (hg:Gl X "enumerate") (hm:X.mg "enumerate" = none) (ha:PA X [a] ta) (hs:starEach [a] X.env=[(false,eval a X.env)]:=by rfl) :
  PI X (.Tuple elts x1 tpos) (.Call (.Name "enumerate" p) [a] [] pos) (kOS k X.K ta):=by
 intro pins s σ H R I h;refine Call_ (aR I hg hm boot_enumerate (pe (thn (ha pos pins s σ H _ I h) λ us s1 ⟨vs,H1,I1,r1,q1⟩=>?_) hs rfl));obtain ⟨l,rfl,⟨xs,hq⟩,q⟩:=q1;obtain ⟨u,rfl,r⟩:=uA r1;cases r
 obtain ⟨its,rv,pq⟩:=I1.sq hq;refine rB pq λ h' he hi hk=>?_;refine Co (s:={ s1 with heap:=h' }) he ?_
 have f:∀ b,s1.heap.objs.size<=b->vY X pins H1 b:=λ b hb=>I1.fpOk hb (I1.hok.fresh hb);refine ⟨_,[s1.heap.objs.size+1,s1.heap.objs.size],_,_,H1,rfl,I1.kept (t':=s1.toks) hk,kDE k l _ _,⟨⟨_,he⟩,hi⟩,λ b hb=>?_,q⟩;rcases gv.mp hb with rfl | hb
 ·exact f _ (by omega)
 ·rw [fw.mp hb];exact f _ (be _)
end
end L2
namespace L2
open PySem PySem.Spec PyProof.Rows
section
variable {prog:eU} {w:gk} {A:eV} {E:af->ak->Prop} {s:ak} {z TI TO i1 i2:ah} {fp1 fp2:List ah} {n1 n2 j:Nat} {P1 P2:Nat->af->Prop} {S1 S2:Nat->gw->Prop} {a b:af}
end
section
variable {prog:eU} {w:gk} {A:eV} {E:af->ak->Prop} {s:ak}
end
section
variable {X:Cx}
end
section
variable {X:Cx} {tg iter el:iQ} {ifs:List iQ} {sc:ua} {pos py spos:Pos} {Nc:List Str} {js:List (Option Nat)} {wi:TI} {i:Nat} {y:Str}
theorem aF {g:TG} {bd:ah->TB} (hx:X.xe=λ _ _=>False) (hc:X.calm=true) (hN:X.N.Nodup) (hiN:X.N[i]?=some y) (hy:Loc X.env.scope y) (hi:PI X tg iter wi) (S:CS sc X.env.scope) (cap:mB js Nc X.N sc.names=true)
  (hg:∀ C s₂ H₂ fp pins,PG (cxC X Nc sc C s₂ H₂ fp pins) tg g)
  (hb:∀ C s₂ H₂ fp pins D L,PTl (cxC X Nc sc C s₂ H₂ fp pins) (zN ifs (cxC X Nc sc C s₂ H₂ fp pins).env (do let _ <-call (.builtin "list.append") [.ref D,<-eval el (cxC X Nc sc C s₂ H₂ fp pins).env]) L) L (bd D))
  (hs:∀ x,foldedSetIterable iter X.env x=pure x:=by intro _;rfl)
  (hsw:swapsWith (.ListComp el [⟨tg,iter,ifs,0⟩] sc pos) (some (.Name y py)) spos.line X.env=pure true:=by rfl)
  (hf:X.fn y=true\/X.env.scope.names.lookup y=some .local:=by first | exact .inl rfl | exact .inr rfl | assumption) :
  PS X (.Assign [.Name y py] (.ListComp el [⟨tg,iter,ifs,0⟩] sc pos) spos) (kLE (tLC js wi g bd) (sP i)):=by
 intro pins s σ H D0 I h;have hcl:closureFor sc X.env=pure (fJ sc X.env):=vV λ y hy hf=>I.ok.has y.1 (.inl (S.free y hy hf));rw [exec_Assign_Name_used _ _ _ _ hsw];refine ae (pf (ae ?_));show de _ X.A (do let _ <-comprehension (.ListComp el [⟨tg,iter,ifs,0⟩] sc pos) sc X.env _ (newList []) false (eval iter X.env) (some (assign (.Name y py) X.env))) _ _ s
 refine ae (lj (sk (use:=some (assign (.Name y py) X.env)) (Q:=λ _ s'=>SP X pins D0 .next s') rfl hs hcl S.kind S.names
  (thn (hi pins s σ H _ I h) λ v s1 h1=>thn h1 λ itv s2 h2=>?_)) (λ _ s' hq=>av (av hq)) λ _ _ e=>e)
 obtain ⟨it,fp,tn,J,H2,e,I2,T,st2,f2,hw⟩:=h2;subst e;have hlt:∀ b∈fp,b<s2.heap.objs.size:=λ b hb=>let ⟨o,ho,_⟩:=T.obj _ _ st2 b hb;cf ho;refine iR (vk S.nocell (by intro y hy;simp at hy) (λ h₁ hns₁ hsb₁=>?_) S.kind);dsimp only at hns₁ hsb₁ ⊢;generalize hH2:s2.heap.push { cls:=.type "list",dict:=none,data:=.seq ([]:List af).toArray }=G at hns₁ hsb₁ ⊢;have hCs:G.objs.size=s2.heap.objs.size+1:=by rw [<-hH2,qe]
 have hDC:s2.heap.objs.size≠G.objs.size:=by omega
 have hCle:s2.heap.objs.size<=G.objs.size:=by omega
 have old:∀ b o,s2.heap.get? b=some o->h₁.get? b=some o:=λ b o e=>hsb₁.extBut b o (eM (cn (cf e) hCle)) (ao _ (hH2 ▸ ao _ e));have hacc:h₁.get? s2.heap.objs.size=some { cls:=.type "list",dict:=none,data:=.seq ([]:List af).toArray }:=hsb₁.extBut _ _ hDC (ao _ (hH2 ▸ eK _ rfl));have new:ObjOk X.prog X.w (upd H2 s2.heap.objs.size (.lst [])) h₁ s2.heap.objs.size (.lst []):=⟨iK _,[],_,.nil,hacc⟩;have I4:=bW (js:=js) (Nc:=Nc) (tk:=s2.toks+([]:List (Str×af)).length) I2 S f2 hlt cap hCle (be _) hDC old hns₁ new;have hn:H2 s2.heap.objs.size=none:=I2.fresh
 have f4:∀ b∈fp,vY (cxC X Nc sc G.objs.size s2 H2 fp pins) [] (upd H2 s2.heap.objs.size (.lst [])) b:=λ b hb=>by
  obtain ⟨h0,h1,h2,h3,h4,h5⟩:=f2 b hb;refine ⟨?_,eM (cn (hlt b hb) hCle),λ z=>?_,.inl hb,λ x c z=>?_,λ p hp=>?_⟩
  ·rw [kH (eM (hlt b hb))];exact h0
  ·rcases gv.mp (I2.stkSub b z) with q | q
   ·exact h1 q
   ·exact h2 q
  ·exact h4 x c (lZ sc.names [] (λ z=>nomatch z) z)
  ·rcases eY.mp hp with z | z
   ·exact h5 p z
   ·exact absurd z (by simp)
 have st4:tn 0 h₁:=T.keep _ _ _ st2 λ b hb o e=>old b o e
 have loop:codeAny (model X.prog X.w) X.A (.compLoop (.ListComp el [⟨tg,iter,ifs,0⟩] sc pos) 0 (.ref it) (.ref s2.heap.objs.size) (compEnvC sc (fJ sc X.env) G.objs.size X.env))
   (compPost (model X.prog X.w) X.A X.xe (some (assign (.Name y py) X.env)) (λ _ s'=>SP X pins D0 .next s') (.ref s2.heap.objs.size) G.objs.size) { s2 with heap:=h₁,toks:=s2.toks+([]:List (Str×af)).length }:=by
  refine vM (X:=cxC X Nc sc G.objs.size s2 H2 fp pins) (.inl ⟨el,rfl⟩) hx hc (kBN _ _ _ _ _ _ _ _ _) T (hg _ _ _ _ _) (hb _ _ _ _ _ _ _) I4 st4 f4 (hw _ hn) λ σ' H' s' I' q=>?_;obtain ⟨m',hm',_⟩:=I'.loc;have IB:Inv X pins σ H' { s' with heap:=s'.heap }:=bX I2 f2 hCle I' (Al ..)
  have nC:H' G.objs.size=none:=I'.free;have fC:vY X pins H' G.objs.size:=I2.fpOk hCle nC;show de _ X.A (assign (.Name y py) X.env (.ref s2.heap.objs.size)) _ _ s';refine CY (mS (v:=.ref s2.heap.objs.size) IB hN hiN hy rfl (λ s'' IC hsb=>?_) hf);obtain ⟨a,sb,ha⟩:=hsb
  have aC:G.objs.size≠a:=by
   rcases ha with rfl | ha
   ·exact fC.2.1
   ·exact λ z=>fC.2.2.2.2.1 y a ha z.symm
  refine ⟨m',hm'.sameBut sb aC,λ h' hs'=>?_⟩;exact ⟨_,H',IC.turnedL (t':=s''.toks) (ch:=[G.objs.size]) (λ b o hb' e=>hs'.extBut b o (λ z=>hb' (by simp [z])) e) (λ b hb'=>by rw [fw.mp hb'];exact fC),q⟩
 exact wM (.inl ⟨el,rfl⟩) rfl rfl loop (T.self _ _ _ _ _ st4 loop)
end
theorem kGZ {k:Bool} {K:au} {a:ah} {xs:List V} {g:TG} {tb:TS} {D:Ends} {σ:St} {H:Hp} (Pv:Nat->St->Hp->Prop) (h0:Pv 0 σ H) (hl:∀ i σ H,i<=xs.length->Pv i σ H->SqX K k H a xs)
  (hs:∀ i x T σ H,xs[i]?=some x->H T=none->Pv i σ H->g (.ref T) σ (upd H T (.tup [.int i,x])) λ σ2 H2=>tb { D with nx:=Pv (i+1),ct:=Pv (i+1),bk:=D.nx } σ2 H2) (hd:∀ σ H,Pv xs.length σ H->D.nx σ H) :
  ∃ W:Nat->Nat->St->Hp->Prop,(∃ m,W 0 m σ H)/\∀ i m σ H,W i m σ H ->
   ((Ite k K a).stop i H/\D.nx σ H)\/((Ite k K a).go i H/\∃ N:St->Hp->Prop,(∀ σ' H',N σ' H'->∃ m',m'<m/\W (i+1) m' σ' H')/\∀ x H',(Ite k K a).yld i H x H'->g x σ H' λ σ2 H2=>tb { D with nx:=N,ct:=N,bk:=D.nx } σ2 H2):=by
 refine ⟨λ i m σ H=>m=xs.length-i/\i<=xs.length/\Pv i σ H,⟨xs.length,by simp,iK _,h0⟩,?_⟩;rintro i m σ H ⟨rfl,hle,p⟩;have q1:=hl i σ H hle p;by_cases hi:i<xs.length
 ·refine .inr ⟨⟨xs,xs[i],q1,by simp [hi]⟩,Pv (i+1),λ σ' H' q=>⟨xs.length-(i+1),by omega,rfl,by omega,q⟩,λ x H' hy=>?_⟩
  obtain ⟨T,x1,nT,rfl,e1,rfl⟩:=hy;exact hs i x1 T σ H (e1 xs q1) nT p
 ·have:i=xs.length:=by omega
  subst this;exact .inl ⟨⟨xs,q1,rfl⟩,hd σ H p⟩
section
variable {X:Cx}
end
section
variable {X:Cx}
theorem nV (hc:X.calm=true):xW X (.builtin "min") (λ xs H Q=>∃ (a:ah) (ns:List Int),xs=[.ref a]/\SqL X.K H a (ns.map V.int)/\0<ns.length/\∀ M,M∈ns->(∀ i∈ns,M<=i)->Q (.int M) H):=by
 intro pins s σ H xs us Q I r h;obtain ⟨a,ns,rfl,hS,hne,q⟩:=h;obtain ⟨u,rfl,r1⟩:=uA r;cases r1
 obtain ⟨its,rv,ht,hz⟩:=I.list hS;have hi:=bY rv;obtain ⟨xs,e⟩:=hi.allInts.items;have hns:ns=xs.toList.map (·.1):=by rw [<-hi.numsOf,<-nums_intItems,<-e]
 have hsz:0<xs.size:=by
  have h3:=hne;rw [hns,aj,fk] at h3;exact h3
 have hl:=ht.isList;rw [e] at hl;refine min_intList (I.ok.hd hc) hl hsz λ v h' tk hv hk=>?_;obtain ⟨t,rfl⟩:=DX hv;obtain ⟨h1,h2⟩:=argBest_lt (numAt xs) (xs.size-1);refine ⟨.int _,H,I.kept hk,⟨_,rfl⟩,q _ ?_ λ a ha=>?_⟩
 ·rw [hns,Dz];exact getD_mem (by rw [aj,fk];omega)
 ·rw [hns] at ha
  obtain ⟨j,hj,rfl⟩:=mem_getD ha;rw [aj,fk] at hj;rw [<-Dz];exact h2 j (by omega)
end
section
variable {X:Cx} {tg iter el tg2 iter2:iQ} {ifs ifs2:List iQ} {sc:ua} {pos:Pos} {Nc:List Str} {js:List (Option Nat)} {wi wi2:TI} {g g2:TG}
def kKQ (wi2:TI) (g2:TG) (b2:TB):TB:=λ N σ H=>wi2 σ H λ J H1=>uD J g2 b2 N σ H1
theorem kFX {D:ah} {b2:TB} {L:Fx} {e:iQ} (ee:e=.ListComp el [⟨tg,iter,[],0⟩,⟨tg2,iter2,ifs2,0⟩] sc pos) (hx:X.xe=λ _ _=>False) (hc:X.calm=true) (hi:PI X tg2 iter2 wi2) (hg:PG X tg2 g2)
  (hb:∀ L,PTl X (zN ifs2 X.env (do let _ <-call (.builtin "list.append") [.ref D,<-eval el X.env]) L) L b2) (hs:∀ x,foldedSetIterable iter2 X.env x=pure x) :
  PTl X (kFF [] X.env iter2 (λ i=>.compStart e 1 i (.ref D) X.env) L) L (kKQ wi2 g2 b2):=by
 subst ee;intro pins s σ H N I h;unfold kFF;refine ae (De ?_);show de _ _ (eval iter2 X.env >>= _) _ _ s;refine ae (thn (hi pins s σ H _ I h) λ v s1 h1=>?_);refine ae (pf (ae (wpAny_of_eq (hs v) (ae (iO (thn h1 λ itv s2 h2=>?_))))));obtain ⟨it,fp,tn,J,H2,e,I2,T,st2,f2,hw⟩:=h2;subst e;refine ae (wpAny_runOwn ?_)
 have loop:codeAny (model X.prog X.w) X.A (.compLoop (.ListComp el [⟨tg,iter,[],0⟩,⟨tg2,iter2,ifs2,0⟩] sc pos) 1 (.ref it) (.ref D) X.env)
   (λ r s'=>match r with | .ok _=>de (model X.prog X.w) X.A (again L) (λ fin s'=>fin=.again L/\∃ σ' H',Inv X pins σ' H' s'/\N σ' H') X.xe s' | .error e=>cameBackBy (model X.prog X.w) X.A X.env X.xe e s') s2 :=
  vM (.inl ⟨el,rfl⟩) hx hc (kFB _ _ _ _ _ _ _ _ _ _ _ _) T hg (hb _) I2 st2 f2 hw λ σ' H' s' I' q=>av ⟨rfl,σ',H',I',q⟩
 exact wM (.inl ⟨el,rfl⟩) rfl rfl loop (T.self _ _ _ _ _ st2 loop)
theorem kIT {bd:ah->TB} (hx:X.xe=λ _ _=>False) (hc:X.calm=true) (hi:PI X tg iter wi) (S:CS sc X.env.scope) (cap:mB js Nc X.N sc.names=true)
  (hg:∀ C s₂ H₂ fp pins,PG (cxC X Nc sc C s₂ H₂ fp pins) tg g) (hi2:∀ C s₂ H₂ fp pins,PI (cxC X Nc sc C s₂ H₂ fp pins) tg2 iter2 wi2) (hg2:∀ C s₂ H₂ fp pins,PG (cxC X Nc sc C s₂ H₂ fp pins) tg2 g2)
  (hb:∀ C s₂ H₂ fp pins D L,PTl (cxC X Nc sc C s₂ H₂ fp pins) (zN ifs2 (cxC X Nc sc C s₂ H₂ fp pins).env (do let _ <-call (.builtin "list.append") [.ref D,<-eval el (cxC X Nc sc C s₂ H₂ fp pins).env]) L) L (bd D))
  (hs:∀ x,foldedSetIterable iter X.env x=pure x:=by intro _;rfl) (hs2:∀ C s₂ H₂ fp pins x,foldedSetIterable iter2 (cxC X Nc sc C s₂ H₂ fp pins).env x=pure x:=by intro _ _ _ _ _ _;rfl) :
  PE X (.ListComp el [⟨tg,iter,[],0⟩,⟨tg2,iter2,ifs2,0⟩] sc pos) (tLC js wi g λ D=>kKQ wi2 g2 (bd D)):=by
 intro pins s σ H Q I h;rw [eval_ListComp];have hcl:closureFor sc X.env=pure (fJ sc X.env):=vV λ y hy hf=>I.ok.has y.1 (.inl (S.free y hy hf));refine sk (use:=none) rfl hs hcl S.kind S.names (thn (hi pins s σ H _ I h) λ v s1 h1=>thn h1 λ itv s2 h2=>?_);obtain ⟨it,fp,tn,J,H2,e,I2,T,st2,f2,hw⟩:=h2;subst e;have hlt:∀ b∈fp,b<s2.heap.objs.size:=λ b hb=>let ⟨o,ho,_⟩:=T.obj _ _ st2 b hb;cf ho;refine iR (vk S.nocell (by intro y hy;simp at hy) (λ h₁ hns₁ hsb₁=>?_) S.kind);dsimp only at hns₁ hsb₁ ⊢;generalize hH2:s2.heap.push { cls:=.type "list",dict:=none,data:=.seq ([]:List af).toArray }=G at hns₁ hsb₁ ⊢;have hCs:G.objs.size=s2.heap.objs.size+1:=by rw [<-hH2,qe]
 have hDC:s2.heap.objs.size≠G.objs.size:=by omega
 have hCle:s2.heap.objs.size<=G.objs.size:=by omega
 have old:∀ b o,s2.heap.get? b=some o->h₁.get? b=some o:=λ b o e=>hsb₁.extBut b o (eM (cn (cf e) hCle)) (ao _ (hH2 ▸ ao _ e));have hacc:h₁.get? s2.heap.objs.size=some { cls:=.type "list",dict:=none,data:=.seq ([]:List af).toArray }:=hsb₁.extBut _ _ hDC (ao _ (hH2 ▸ eK _ rfl));have new:ObjOk X.prog X.w (upd H2 s2.heap.objs.size (.lst [])) h₁ s2.heap.objs.size (.lst []):=⟨iK _,[],_,.nil,hacc⟩;have I4:=bW (js:=js) (Nc:=Nc) (tk:=s2.toks+([]:List (Str×af)).length) I2 S f2 hlt cap hCle (be _) hDC old hns₁ new;have hn:H2 s2.heap.objs.size=none:=I2.fresh
 have f4:∀ b∈fp,vY (cxC X Nc sc G.objs.size s2 H2 fp pins) [] (upd H2 s2.heap.objs.size (.lst [])) b:=λ b hb=>by
  obtain ⟨h0,h1,h2,h3,h4,h5⟩:=f2 b hb;refine ⟨?_,eM (cn (hlt b hb) hCle),λ z=>?_,.inl hb,λ x c z=>?_,λ p hp=>?_⟩
  ·rw [kH (eM (hlt b hb))];exact h0
  ·rcases gv.mp (I2.stkSub b z) with q | q
   ·exact h1 q
   ·exact h2 q
  ·exact h4 x c (lZ sc.names [] (λ z=>nomatch z) z)
  ·rcases eY.mp hp with z | z
   ·exact h5 p z
   ·exact absurd z (by simp)
 have st4:tn 0 h₁:=T.keep _ _ _ st2 λ b hb o e=>old b o e
 have loop:codeAny (model X.prog X.w) X.A (.compLoop (.ListComp el [⟨tg,iter,[],0⟩,⟨tg2,iter2,ifs2,0⟩] sc pos) 0 (.ref it) (.ref s2.heap.objs.size) (compEnvC sc (fJ sc X.env) G.objs.size X.env))
   (compPost (model X.prog X.w) X.A X.xe none (EP X pins σ Q) (.ref s2.heap.objs.size) G.objs.size) { s2 with heap:=h₁,toks:=s2.toks+([]:List (Str×af)).length }:=by
  refine vM (X:=cxC X Nc sc G.objs.size s2 H2 fp pins) (.inl ⟨el,rfl⟩) hx hc (kFC _ _ _ _ _ _ _ _ _ _ _ _) T (hg _ _ _ _ _)
   (kFX (X:=cxC X Nc sc G.objs.size s2 H2 fp pins) rfl hx hc (hi2 _ _ _ _ _) (hg2 _ _ _ _ _) (λ L=>hb _ _ _ _ _ _ L) (hs2 _ _ _ _ _)) I4 st4 f4 (hw _ hn) λ σ' H' s' I' q=>?_
  obtain ⟨m',hm',_⟩:=I'.loc;exact ⟨m',hm',λ h' hs'=>⟨.ref s2.heap.objs.size,H',bX I2 f2 hCle I' hs',rfl,q⟩⟩
 exact wM (.inl ⟨el,rfl⟩) rfl rfl loop (T.self _ _ _ _ _ st4 loop)
end
open AutoSeq1 (wpAny_loadPart')
theorem kDF (l:ah) (items:Array af) (n:Nat) (dd:Option ah) (sl:Array (Option af)) (x:af) (e:af->Bool) (j:Nat) (hj:j<items.size) (hit:e items[j]=true) (hno:∀ m (hm:m<items.size),m<j->e items[m]=false) :
  Meets (zd.«tuple.index» ⟨[.ref l,x],[]⟩) (λ A R s=>s.heap.get? l=some { cls:=.type "tuple",dict:=dd,data:=.seq items n,slots:=sl }/\(∀ y,y∈items->CQ A.in1 s y x (e y))/\R (.ok (.ret (.int j s.toks))) { s with toks:=s.toks+1 }) :=
 .of_wp λ prog w A R s h=>by
  obtain ⟨hp,g,d,tk,os⟩:=s;obtain ⟨hl,he,h⟩:=h
  wp_walk using wz hl
  have hR:∀ (f:Nat->Option uv×PUnit->Sem (ForInStep (Option uv×PUnit))) (Q:Option uv×PUnit->ak->Prop) (E:af->ak->Prop) (s0:ak),
    de (model prog w) A.in1 (forIn (zh 0 items.size) ((none:Option uv),Fh) f) Q E s0->de (model prog w) A.in1 (forIn [:min items.size items.size] ((none:Option uv),Fh) f) Q E s0:=λ f Q E s0 z=>by
   rw [nh];simpa [yk] using z
  refine hR (λ i __s=>match items[i]? with
      | some y=>do
       if <-eqBool y x then do
         let r <-retInt (i:Nat)
         pure (vo (some r,()))
        else pure (iY (none,()))
      | _=>pure (iY (none,()))) _ _ _ ?_
  refine yu _ (λ rest b s'=>b.1=none/\s'=⟨hp,g,d,tk,os⟩/\∃ i,i<=j/\rest=zh i (items.size-i)) _ ?_ ?_ _ _ ⟨rfl,rfl,0,iK _,by simp⟩
  ·rintro y rest b s' ⟨hb,rfl,i,hi,er⟩
   have hlt:i<items.size:=by omega
   rw [show items.size-i=(items.size-(i+1))+1 by omega,we] at er;injection er with e1 e2
   subst e1;have hg:items[y]?=some items[y]:=by simp [hlt]
   simp only [hg];refine ae (he _ (Am hlt) prog w _ _ ?_);by_cases c:y=j
   ·subst c
    rw [hit]
    wp_walk
    exact ⟨_,rfl,h⟩
   ·rw [hno y hlt (by omega)]
    wp_walk
    exact ⟨rfl,rfl,y+1,by omega,e2⟩
  ·rintro b s' ⟨hb,rfl,i,hi,er⟩
   have:iP ([]:List Nat)=items.size-i:=by rw [er,List.length_range']
   simp at this;omega
section
variable {X:Cx}
def kIL (K:au):V->List V->Hp->VK->Prop:=λ x vs H Q=>∃ (l:ah) (ns:List Int) (n:Int) (j:Nat),x=.ref l/\vs=[.int n]/\SqT K H l (ns.map V.int)/\cN ns n j/\Q (.int j) H
theorem vI:MtM X "tuple.index" (kIL X.K):=by
 intro pins s σ H x vs v us Q I rx rv h;obtain ⟨l,ns,n,j,rfl,rfl,hH,hj,q⟩:=h;cases rx
 obtain ⟨u,rfl,t,rfl⟩:=rv.one;obtain ⟨its,r,⟨⟨cls,dd,dt,sl⟩,ho,hc,m,hd⟩,hz⟩:=I.tuple hH;simp only at hc hd;subst hc hd;obtain ⟨h1,h2,h3⟩:=dP r hj;refine uh F.slot_tuple_index ⟨_,ho,rfl⟩ F.entry_tuple_index (F.args_tuple_index_2 _ _) (kDF l its.toArray m dd sl (.int n t) (dY n) j h1 h2 h3) ⟨ho,λ y hy=>(vN r n t y hy).at _ _,?_⟩;exact ⟨.int j,H,I.tok _,⟨_,rfl⟩,q⟩
end
end L2
namespace L2
open PySem PySem.Spec PyProof.Rows
theorem zE {X:Cx} {st:jw}:PS X st (λ _ _ _=>False):=λ _ _ _ _ _ _ h=>h.elim
section
variable {X:Cx} {tg iter kx vx:iQ} {ifs:List iQ} {sc:ua} {pos:Pos} {Nc:List Str} {js:List (Option Nat)} {wi:TI}
def kCO (kx vx:iQ) (env:Env) (acc:af):Sem Unit:=do
 let kv <-eval kx env
 let vv <-holding [kv] (eval vx env)
 match acc with
 | .ref d=>do
  standAt (have __src:=kx.pos;{ line:=__src.line,col:=__src.col,endLine:=vx.pos.endLine,endCol:=vx.pos.endCol })
  holding [kv,vv] (dictSet d kv vv)
 | _=>unsupported "internal:dictcomp"
theorem kHY (kx vx tg iter:iQ) (ifs:List iQ) (sc:ua) (pos:Pos) (it acc:af) (env:Env) :
  compTurn (.DictComp kx vx [⟨tg,iter,ifs,0⟩] sc pos) 0 it acc env=(standAt iter.pos >>= λ _=>pyNext it >>= λ r=>match r with
   | none=>pure (.done .next)
   | some v=>letOwnedTupleGo tg it v >>= λ _=>assign tg env v >>= λ _=>zN ifs env (kCO kx vx env acc) (.compLoop (.DictComp kx vx [⟨tg,iter,ifs,0⟩] sc pos) 0 it acc env)):=by rfl
theorem cE {prog:eU} {w:gk} {A:eV} {E:af->ak->Prop} {s:ak} {t sl:ah} {items:Array af} {vl vu:af} {lo hi:Option Int} {Q:af->ak->Prop} (ht:Dl s.heap t items) (hs:s.heap.IsSliceOf sl vl vu .none) (pl:BJ vl lo) (pu:BJ vu hi)
  (hw:HT.sIx items.size 0 lo=0/\HT.sIx items.size items.size hi=items.size) (h:Q (.ref t) s):de (model prog w) A (getItem (.ref t) (.ref sl)) Q E s:=by
 obtain ⟨os,hos,hcs,hds⟩:=id hs;have hTs:s.TypeIs (.ref sl) "slice":=⟨os,hos,hcs⟩;unfold getItem
 try with_reducible refine iO ?_
 first | refine ae (av ?_) | skip
 refine ae (Cf ht.typeIs (by decide) ?_)
 refine ae (ub (name:=BK "__getitem__") ht.typeIs ik
  (wd ik ht.typeIs Bw ?_ (CP _ _)))
 show de _ _ (AO (.ref t) >>= _) _ _ s;refine ae (tupleItemsOf_ ht ?_);refine ae (ya hTs ?_);rw [if_pos (by decide)];refine ae (HT.sliceApplied_gen hs pl pu ?_);show de _ _ (if (((HT.sIx items.size 0 lo:Nat):Int) == 0 && (1:Int) == 1 && (HT.sIx items.size items.size hi-HT.sIx items.size 0 lo) == items.size)=true then _ else _) _ _ s;rw [if_pos (by rw [hw.1,hw.2];simp)];unfold EA
 first
  | refine ae (ae (ya ht.typeIs (av ?_)))
  | refine ae (ya ht.typeIs (av ?_))
 rw [if_pos (by decide)];exact ae (yo (av ⟨_,rfl,av h⟩))
def kOC (K:au):V->Option Int->Option Int->Hp->VK->Prop:=λ x lo hi H Q=>∃ a xs,x=.ref a/\SqT K H a xs /\
 (HT.sIx xs.length 0 lo=0/\HT.sIx xs.length xs.length hi=xs.length)/\Q (.ref a) H
theorem kIE:SlR X (kOC X.K):=by
 intro pins s σ H x v vl vu lo hi sl Q I rx hs pl pu h;obtain ⟨a,xs,rfl,hx,hw,q⟩:=h;cases rx
 obtain ⟨its,r,ht,hz⟩:=I.tuple hx;have hlen:its.toArray.size=xs.length:=by rw [eN];exact r.length.symm
 refine ⟨"tuple",_,ik.lookup,ht.typeIs,?_⟩;exact cE ht hs pl pu (by rw [hlen];exact hw) ⟨.ref a,H,I,rfl,q⟩
def kPP (K:au):V->Option Int->Option Int->Hp->VK->Prop:=λ x lo hi H Q=>kOB K x lo hi H Q\/kOC K x lo hi H Q
theorem bC:SlR X (kPP X.K):=sl_tup.or kIE
theorem kES (hc:X.calm=true):xW X (.builtin "min") (λ xs H Q=>∃ (a:ah) (ns:List Int),xs=[.ref a]/\SqT X.K H a (ns.map V.int)/\0<ns.length/\∀ M,M∈ns->(∀ i∈ns,M<=i)->Q (.int M) H):=by
 intro pins s σ H xs us Q I r h;obtain ⟨a,ns,rfl,hS,hne,q⟩:=h;obtain ⟨u,rfl,r1⟩:=uA r;cases r1
 obtain ⟨its,rv,ht,hz⟩:=I.tuple hS;have hi:=bY rv;obtain ⟨xs,e⟩:=hi.allInts.items;have hns:ns=xs.toList.map (·.1):=by rw [<-hi.numsOf,<-nums_intItems,<-e]
 have hsz:0<xs.size:=by
  have h3:=hne;rw [hns,aj,fk] at h3;exact h3
 rw [e] at ht;have ht:s.heap.IsTuple a (intItems xs):=ht;have isz:(intItems xs).size=xs.size:=by simp [intItems]
 have la:a<s.heap.objs.size:=by obtain ⟨o,ho,_⟩:=ht;exact cf ho
 have hdl:X.A.in1.handled=none:=I.ok.hd hc
 refine call_min_walk (uf ht ⟨s.heap.objs.size,[s.heap.objs.size,a],[s.heap.objs.size],(intItems xs).size,(λ i v=>(intItems xs)[i]?=some v),_,_,rfl,
  Walks.tuple hdl _ a (eM la) (intItems xs),⟨?_,?_⟩,?_,(by rw [isz];exact hsz),CmpOf.ints_lt (numAt xs) (λ i v hv=>DX hv),λ v h' tk hv hk=>?_⟩)
 ·exact ⟨_,eK _ rfl,rfl,rfl⟩
 ·obtain ⟨o,ho,hr⟩:=ht
  exact ⟨o,ao _ ho,hr⟩
 ·intro b hb
  show b<(s.heap.push _).objs.size;rw [qe];simp only [gv,yv,or_false] at hb;rcases hb with rfl | rfl
  ·exact wg _
  ·exact om la
 ·rw [isz] at hv
  obtain ⟨t,rfl⟩:=DX hv;obtain ⟨h1,h2⟩:=argBest_lt (numAt xs) (xs.size-1);refine ⟨.int _,H,I.kept (λ b o ho=>hk b o ?_ (ao _ ho)),⟨_,rfl⟩,q _ ?_ λ a ha=>?_⟩
  ·intro z
   rw [fw.mp z] at ho;exact absurd (cf ho) (jj _)
  ·rw [hns,Dz];exact getD_mem (by rw [aj,fk];omega)
  ·rw [hns] at ha
   obtain ⟨j,hj,rfl⟩:=mem_getD ha;rw [aj,fk] at hj;rw [<-Dz];exact h2 j (by omega)
end
end L2
namespace Cyc
def Adj:List Nat->Nat->Nat->Prop
 | x::y::r,a,b=>(a=x/\b=y)\/Adj (y::r) a b
 | _,_,_=>False
def Nx (row:List Nat) (a b:Nat):Prop:=Adj (row++row.head?.toList) a b
theorem kCY (x a b:Nat):¬ Adj [x] a b:=id
theorem cM:∀ (l:List Nat) (x:Nat) (r:List Nat) (a b:Nat),Adj (l++x::r) a b↔Adj (l++[x]) a b\/Adj (x::r) a b
 | [],x,r,a,b=>⟨.inr,λ h=>h.elim (λ z=>(kCY x a b z).elim) id⟩
 | [y],x,r,a,b=>by
  show (a=y/\b=x)\/Adj (x::r) a b↔((a=y/\b=x)\/Adj [x] a b)\/Adj (x::r) a b;have:=kCY x a b;exact ⟨λ h=>h.elim (λ z=>.inl (.inl z)) .inr,λ h=>h.elim (λ z=>z.elim .inl λ q=>(this q).elim) .inr⟩
 | y::z::l,x,r,a,b=>by
  have ih:=cM (z::l) x r a b;show (a=y/\b=z)\/Adj (z::l++x::r) a b↔((a=y/\b=z)\/Adj (z::l++[x]) a b)\/Adj (x::r) a b;rw [ih];exact ⟨λ h=>h.elim (λ q=>.inl (.inl q)) λ q=>q.elim (λ q=>.inl (.inr q)) .inr,λ h=>h.elim (λ q=>q.elim .inl λ q=>.inr (.inl q)) λ q=>.inr (.inr q)⟩
theorem cL:∀ {l:List Nat} {a b:Nat},Adj l a b->a∈l/\b∈l.tail
 | [],_,_,h=>h.elim
 | [_],_,_,h=>h.elim
 | x::y::r,a,b,h=>by
  rcases h with ⟨rfl,rfl⟩ | h
  ·exact ⟨fv,fv⟩
  ·have:=cL h
   exact ⟨eZ _ this.1,eZ _ this.2⟩
theorem pQ (x:Nat) (r:List Nat) (a b:Nat):Nx (x::r) a b↔Adj (x::r++[x]) a b:=Bv
theorem yA (A C:List Nat) (a b:Nat):Nx (A++C) a b↔Nx (C++A) a b:=by
 cases A with
 | nil=>rw [sj,ir]
 | cons a0 A' =>
  cases C with
  | nil=>rw [sj,ir]
  | cons c0 C' =>
   have e1:Nx (a0::A'++c0::C') a b↔Adj ((a0::A')++c0::(C'++[a0])) a b:=by
    show Adj ((a0::A'++c0::C')++[a0]) a b↔_;rw [eh];exact Bv
   have e2:Nx (c0::C'++a0::A') a b↔Adj ((c0::C')++a0::(A'++[c0])) a b:=by
    show Adj ((c0::C'++a0::A')++[c0]) a b↔_;rw [eh];exact Bv
   rw [e1,e2,cM (a0::A') c0,cM (c0::C') a0];exact Or.comm
theorem wP (v:Nat) (R:List Nat) (a b:Nat):Nx (v::R) a b↔(a=v/\b=(R++[v]).headD 0)\/Adj (R++[v]) a b:=by
 rw [pQ]
 cases R with
 | nil=>exact Bv
 | cons y r=>exact Bv
theorem zM:∀ {R:List Nat} {v a b:Nat},v∉R->Adj (R++[v]) a b->a≠v
 | [],_,_,_,_,h=>h.elim
 | x::r,v,a,b,hv,h=>by
  have hv':v∉r:=λ z=>hv (eZ _ z);have hx:x≠v:=λ z=>hv (by rw [z];exact fv)
  cases r with
  | nil =>
   rcases h with ⟨rfl,_⟩ | h
   ·exact hx
   ·exact h.elim
  | cons y r' =>
   rcases h with ⟨rfl,_⟩ | h
   ·exact hx
   ·exact zM hv' h
theorem kMD {A B:List Nat} {v w:Nat} (nd:(A++v::B).Nodup) (hw:w∉A++v::B) (a b:Nat) :
  Nx (A++v::w::B) a b↔(a=v/\b=w)\/(a=w/\Nx (A++v::B) v b)\/(a≠v/\Nx (A++v::B) a b):=by
 rw [yA A (v::w::B),yA A (v::B),yA A (v::B)];simp only [vj]
 have nv:v∉B++A:=λ z=>by
  rw [iT] at nd;rcases eY.mp z with z | z
  ·exact (iX.mp nd.2.1).1 z
  ·exact nd.2.2 v z v fv rfl
 have nw:w≠v:=λ z=>hw (by rw [z];simp);generalize hR:B++A=R at nv;rw [wP,wP,wP];have e1:(w::R++[v]).headD 0=w:=rfl
 have e2:Adj (w::R++[v]) a b↔(a=w/\b=(R++[v]).headD 0)\/Adj (R++[v]) a b:=by
  cases R with
  | nil=>exact Bv
  | cons y r=>exact Bv
 rw [e1,e2];constructor
 ·rintro (h | h | h)
  ·exact .inl h
  ·exact .inr (.inl ⟨h.1,.inl ⟨rfl,h.2⟩⟩)
  ·exact .inr (.inr ⟨zM nv h,.inr h⟩)
 ·rintro (h | ⟨h,h'⟩ | ⟨h,h'⟩)
  ·exact .inl h
  ·rcases h' with ⟨_,z⟩ | z
   ·exact .inr (.inl ⟨h,z⟩)
   ·exact (zM nv z rfl).elim
  ·rcases h' with ⟨z,_⟩ | z
   ·exact (h z).elim
   ·exact .inr (.inr z)
theorem fB:∀ {l:List Nat} {a a' b:Nat},l.tail.Nodup->Adj l a b->Adj l a' b->a=a'
 | [],_,_,_,_,h,_=>h.elim
 | [_],_,_,_,_,h,_=>h.elim
 | x::y::r,a,a',b,nd,h,h'=>by
  have nd':(y::r).Nodup:=nd;rcases h with ⟨rfl,rfl⟩ | h
  ·rcases h' with ⟨rfl,_⟩ | h'
   ·rfl
   ·exact ((iX.mp nd').1 (cL h').2).elim
  ·rcases h' with ⟨rfl,rfl⟩ | h'
   ·exact ((iX.mp nd').1 (cL h).2).elim
   ·exact fB (l:=y::r) (iX.mp nd').2 h h'
theorem vD {row:List Nat} {v:Nat} (h:v∈row):∃ A B,row=A++v::B:=AU h
theorem aE {A B:List Nat} {v:Nat} (nd:(A++v::B).Nodup):v∉B++A/\(B++A).Nodup:=by
 rw [iT] at nd;obtain ⟨n1,n2,n3⟩:=nd;obtain ⟨n4,n5⟩:=iX.mp n2;refine ⟨λ z=>?_,?_⟩
 ·rcases eY.mp z with z | z
  ·exact n4 z
  ·exact n3 v z v fv rfl
 ·rw [iT]
  exact ⟨n5,n1,λ a ha b hb e=>n3 b hb a (eZ _ ha) e.symm⟩
theorem kX {row:List Nat} {a b:Nat} (h:Nx row a b):a∈row/\b∈row:=by
 cases row with
 | nil=>exact h.elim
 | cons x r =>
  have q:=cL h;constructor
  ·rcases eY.mp q.1 with z | z
   ·exact z
   ·exact gv.mpr (.inl (by simpa using z))
  ·rcases eY.mp q.2 with z | z
   ·exact eZ _ z
   ·exact gv.mpr (.inl (by simpa using z))
theorem zJ {row:List Nat} {a b b':Nat} (nd:row.Nodup) (h:Nx row a b) (h':Nx row a b'):b=b':=by
 obtain ⟨A,B,rfl⟩:=vD (kX h).1;rw [yA] at h h';simp only [vj] at h h';obtain ⟨n1,n2⟩:=aE nd;rw [wP] at h h';rcases h with ⟨_,rfl⟩ | h
 ·rcases h' with ⟨_,rfl⟩ | h'
  ·rfl
  ·exact (zM n1 h' rfl).elim
 ·exact (zM n1 h rfl).elim
theorem zU {row:List Nat} {a a' b:Nat} (nd:row.Nodup) (h:Nx row a b) (h':Nx row a' b):a=a':=by
 obtain ⟨A,B,rfl⟩:=vD (kX h).2;rw [yA] at h h';simp only [vj] at h h';obtain ⟨n1,n2⟩:=aE nd;rw [pQ] at h h';refine fB ?_ h h';show (B++A++[b]).Nodup;rw [iT];exact ⟨n2,by simp,λ x hx y hy e=>n1 (by simp at hy;rw [<-hy,<-e];exact hx)⟩
theorem kME {A B:List Nat} {q:Nat} (nd:(A++q::B).Nodup) (a b:Nat) :
  Nx (A++B) a b↔(a≠q/\b≠q/\Nx (A++q::B) a b)\/(a≠q/\b≠q/\Nx (A++q::B) a q/\Nx (A++q::B) q b):=by
 rw [yA A B,yA A (q::B),yA A (q::B),yA A (q::B)];simp only [vj];obtain ⟨n1,n2⟩:=aE nd;generalize B++A=R at n1 n2;clear nd
 cases R with
 | nil =>
  constructor
  ·intro h;exact h.elim
  ·rintro (⟨h1,h2,h3⟩ | ⟨h1,h2,h3,_⟩)
   ·rcases h3 with ⟨z,_⟩ | z
    ·exact (h1 z).elim
    ·exact z.elim
   ·rcases h3 with ⟨z,_⟩ | z
    ·exact (h1 z).elim
    ·exact z.elim
 | cons x T =>
  rw [wP q (x::T) a b,wP q (x::T) a q,wP q (x::T) q b,pQ x T];have hx:(x::T++[q]).headD 0=x:=rfl;rw [hx]
  have xq:x≠q:=λ z=>n1 (by rw [z];exact fv)
  have key:∀ (T:List Nat) (x z a b:Nat),Adj (x::T++[z]) a b↔Adj (x::T) a b\/(a=(x::T).getLast (by simp)/\b=z):=by
   intro T
   induction T with
   | nil=>intro x z a b;exact ⟨λ h=>h.elim .inr λ q=>q.elim,λ h=>h.elim (λ q=>q.elim) .inl⟩
   | cons y r ih =>
    intro x z a b;show (a=x/\b=y)\/Adj (y::r++[z]) a b↔((a=x/\b=y)\/Adj (y::r) a b)\/_;rw [ih y z a b,List.getLast_cons (BB y r)];exact or_assoc.symm
  rw [key T x x,key T x q,key T x q,key T x q]
  have mem:∀ {c d},Adj (x::T) c d->c≠q/\d≠q:=λ {c d} h=>by
   have:=cL h;exact ⟨λ z=>n1 (z ▸ this.1),λ z=>n1 (z ▸ eZ _ this.2)⟩
  have lq:(x::T).getLast (by simp)≠q:=λ z=>n1 (z ▸ List.getLast_mem _);constructor
  ·rintro (h | ⟨h1,h2⟩)
   ·exact .inl ⟨(mem h).1,(mem h).2,.inr (.inl h)⟩
   ·refine .inr ⟨by rw [h1];exact lq,by rw [h2];exact xq,.inr (.inr ⟨h1,rfl⟩),.inl ⟨rfl,h2⟩⟩
  ·rintro (⟨h1,h2,h3⟩ | ⟨h1,h2,h3,h4⟩)
   ·rcases h3 with ⟨z,_⟩ | z | ⟨_,z⟩
    ·exact (h1 z).elim
    ·exact .inl z
    ·exact (h2 z).elim
   ·have e1:a=(x::T).getLast (by simp):=by
     rcases h3 with ⟨z,_⟩ | z | ⟨z,_⟩
     ·exact (h1 z).elim
     ·exact ((mem z).2 rfl).elim
     ·exact z
    have e2:b=x:=by
     rcases h4 with ⟨_,z⟩ | z | ⟨z,_⟩
     ·exact z
     ·exact ((mem z).1 rfl).elim
     ·exact (lq z.symm).elim
    exact .inr ⟨e1,e2⟩
end Cyc
namespace Tri
open Cyc
abbrev Rows:=List (List Nat)
def R (L:Rows) (q a b:Nat):Prop:=∃ row,L[q]?=some row/\Nx row a b
def E (L:Rows) (a b:Nat):Prop:=∃ row,L[a]?=some row/\b∈row
inductive Reach (L:Rows):Nat->Nat->Prop
 | here (a:Nat):Reach L a a
 | more {a b c:Nat}:Reach L a b->E L b c->Reach L a c
theorem Reach.trans {L:Rows} {a b c:Nat} (h:Reach L a b) (h':Reach L b c):Reach L a c:=by
 induction h' with
 | here=>exact h
 | more _ e ih=>exact .more ih e
theorem Reach.by {L L':Rows} (h:∀ a b,E L a b->Reach L' a b) {a b:Nat} (r:Reach L a b):Reach L' a b:=by
 induction r with
 | here=>exact .here _
 | more _ e ih=>exact ih.trans (h _ _ e)
structure Good (L:Rows):Prop where
 three:3<=L.length
 ne:∀ (p:Nat) (row:List Nat),L[p]?=some row->row≠[]
 nd:∀ (p:Nat) (row:List Nat),L[p]?=some row->row.Nodup
 rng:∀ (p:Nat) (row:List Nat) (a:Nat),L[p]?=some row->a∈row->a<L.length/\a≠p
 tri:∀ q a b,R L q a b->R L a b q
 con:∀ p,p<L.length->Reach L 0 p
 tot:(L.map iP).sum+12=6*L.length
theorem gS {L:Rows} {p:Nat} {row:List Nat} (hp:p<L.length) (x a b:Nat):R (L.set p row) x a b↔(x=p/\Nx row a b)\/(x≠p/\R L x a b):=by
 unfold R;by_cases h:x=p
 ·subst h
  simp [fz hp]
 ·simp [di (og h),h]
theorem kNY {L:Rows} {row:List Nat} (x a b:Nat):R (L++[row]) x a b↔R L x a b\/(x=L.length/\Nx row a b):=by
 unfold R;rcases yb x L.length with h | h | h
 ·rw [cu h]
  constructor
  ·exact .inl
  ·rintro (z | ⟨z,_⟩)
   ·exact z
   ·omega
 ·subst h
  rw [bz (be _),lh (be _)];simp
 ·rw [lh (by simp;omega),lh (by omega)]
  constructor
  ·rintro ⟨_,z,_⟩;cases z
  ·rintro (⟨_,z,_⟩ | ⟨z,_⟩)
   ·cases z
   ·omega
theorem vB {L:Rows} {q a b:Nat} (h:R L q a b):E L q a/\E L q b:=by
 obtain ⟨row,e,n⟩:=h;exact ⟨⟨row,e,(kX n).1⟩,⟨row,e,(kX n).2⟩⟩
theorem yR {L:Rows} (G:Good L) {q a b b':Nat} (h:R L q a b) (h':R L q a b'):b=b':=by
 obtain ⟨row,e,n⟩:=h;obtain ⟨row',e',n'⟩:=h';rw [e] at e'
 cases e'
 exact zJ (G.nd q row e) n n'
theorem kFV {L:Rows} (G:Good L) {q a a' b:Nat} (h:R L q a b) (h':R L q a' b):a=a':=by
 obtain ⟨row,e,n⟩:=h;obtain ⟨row',e',n'⟩:=h';rw [e] at e'
 cases e'
 exact zU (G.nd q row e) n n'
theorem vG {L:Rows} (G:Good L) {q a b:Nat} (h:R L q a b):q<L.length/\a<L.length/\b<L.length/\a≠q/\b≠q:=by
 obtain ⟨row,e,n⟩:=h;have m:=kX n;have:=G.rng q row a e m.1;have:=G.rng q row b e m.2;have:q<L.length:=(ag.mp e).1;omega
theorem kOM {row:List Nat} {b:Nat} (h:b∈row):∃ a,Nx row a b:=by
 obtain ⟨A,B,rfl⟩:=vD h
 have key:∀ (R:List Nat),∃ a,Nx (b::R) a b:=by
  intro R
  cases R with
  | nil=>exact ⟨b,.inl ⟨rfl,rfl⟩⟩
  | cons y r =>
   have:∀ (r:List Nat) (y:Nat),∃ a,Adj (y::r++[b]) a b:=by
    intro r
    induction r with
    | nil=>intro y;exact ⟨y,.inl ⟨rfl,rfl⟩⟩
    | cons z r ih=>intro y;obtain ⟨a,q⟩:=ih z;exact ⟨a,.inr q⟩
   obtain ⟨a,q⟩:=this r y;exact ⟨a,.inr q⟩
 obtain ⟨a,q⟩:=key (B++A);exact ⟨a,(yA A (b::B) a b).mpr q⟩
theorem pP {row:List Nat} {a:Nat} (h:a∈row):∃ b,Nx row a b:=by
 obtain ⟨A,B,rfl⟩:=vD h;refine ⟨(B++A++[a]).headD 0,(yA A (a::B) _ _).mpr ?_⟩;exact (wP a (B++A) a _).mpr (.inl ⟨rfl,rfl⟩)
theorem Good.sym {L:Rows} (G:Good L) {a b:Nat} (h:E L a b):E L b a:=by
 obtain ⟨row,e,m⟩:=h;obtain ⟨c,n⟩:=pP m;have:=G.tri a b c ⟨row,e,n⟩;exact (vB this).2
def qF (row:List Nat) (v w:Nat):List Nat:=row.take (row.idxOf v+1)++w::row.drop (row.idxOf v+1)
def qP (row:List Nat) (q:Nat):List Nat:=row.eraseIdx (row.idxOf q)
theorem dH {A B:List Nat} {v:Nat} (h:v∉A):(A++v::B).idxOf v=A.length:=by
 rw [List.idxOf_append,if_neg h];simp
theorem xC {row:List Nat} {v:Nat} (h:v∈row) (nd:row.Nodup):∃ A B,row=A++v::B/\v∉A/\v∉B:=by
 obtain ⟨A,B,rfl⟩:=vD h;have q:=aE nd;exact ⟨A,B,rfl,λ z=>q.1 (fu _ z),λ z=>q.1 (iJ _ z)⟩
theorem fV {A B:List Nat} {v w:Nat} (h:v∉A):qF (A++v::B) v w=A++v::w::B:=by
 unfold qF;rw [dH h];have e:A++v::B=(A++[v])++B:=by simp
 rw [e,List.take_left' (by simp),List.drop_left' (by simp)];simp
theorem fZ {A B:List Nat} {q:Nat} (h:q∉A):qP (A++q::B) q=A++B:=by
 unfold qP;rw [dH h,xr (be _)];simp
theorem jD {row:List Nat} {v w:Nat} (h:v∈row):(qF row v w).length=row.length+1:=by
 unfold qF;simp only [eI,fb,iE,iV];have:=iA h;omega
theorem sS {row:List Nat} {q:Nat} (h:q∈row):(qP row q).length+1=row.length:=by
 unfold qP;have:=iA h;rw [List.length_eraseIdx_of_lt this];omega
theorem jC {row:List Nat} {v w x:Nat} (h:v∈row) (nd:row.Nodup):x∈qF row v w↔x∈row\/x=w:=by
 obtain ⟨A,B,rfl,hA,hB⟩:=xC h nd;rw [fV hA];simp only [eY,gv]
 grind
theorem vL {row:List Nat} {q x:Nat} (h:q∈row) (nd:row.Nodup):x∈qP row q↔x∈row/\x≠q:=by
 obtain ⟨A,B,rfl,hA,hB⟩:=xC h nd;rw [fZ hA];simp only [eY,gv]
 grind
theorem yU {row:List Nat} {v w:Nat} (h:v∈row) (nd:row.Nodup) (hw:w∉row):(qF row v w).Nodup:=by
 obtain ⟨A,B,rfl,hA,hB⟩:=xC h nd;rw [fV hA];simp only [iT,iX,gv,eY] at nd hw ⊢
 grind
theorem fY {row:List Nat} {q:Nat} (h:q∈row) (nd:row.Nodup):(qP row q).Nodup:=by
 obtain ⟨A,B,rfl,hA,hB⟩:=xC h nd;rw [fZ hA];simp only [iT,iX,gv] at nd ⊢
 grind
theorem aI {row:List Nat} {v w:Nat} (h:v∈row) (nd:row.Nodup) (hw:w∉row) (a b:Nat):Nx (qF row v w) a b↔(a=v/\b=w)\/(a=w/\Nx row v b)\/(a≠v/\Nx row a b):=by
 obtain ⟨A,B,rfl,hA,hB⟩:=xC h nd;rw [fV hA];exact kMD nd hw a b
theorem kCA {row:List Nat} {q:Nat} (h:q∈row) (nd:row.Nodup) (a b:Nat):Nx (qP row q) a b↔(a≠q/\b≠q/\Nx row a b)\/(a≠q/\b≠q/\Nx row a q/\Nx row q b):=by
 obtain ⟨A,B,rfl,hA,hB⟩:=xC h nd;rw [fZ hA];exact kME nd a b
theorem yQ:∀ (L:Rows) (p:Nat) (row new:List Nat),L[p]?=some row->((L.set p new).map iP).sum+row.length=(L.map iP).sum+new.length
 | [],p,row,new,h=>by simp at h
 | x::r,0,row,new,h=>by
  simp at h;subst h;simp;omega
 | x::r,p+1,row,new,h=>by
  simp at h;have q:=yQ r p row new h;simp only [List.set_cons_succ,iW,AV];omega
def aU (L:Rows) (p q r:Nat) (rp rq rr:List Nat):Rows :=
 ((L.set p (qF rp q L.length)).set q (qF rq r L.length)).set r (qF rr p L.length)++[[p,q,r]]
theorem nx3 (p q r a b:Nat):Nx [p,q,r] a b↔(a=p/\b=q)\/(a=q/\b=r)\/(a=r/\b=p):=by
 show ((a=p/\b=q)\/(a=q/\b=r)\/(a=r/\b=p)\/False)↔_;simp
theorem wR {L:Rows} {p:Nat} {new:List Nat} (hp:p<L.length) {x:Nat} {row:List Nat} (h:(L.set p new)[x]?=some row):(x=p/\row=new)\/(x≠p/\L[x]?=some row):=by
 by_cases e:x=p
 ·subst e
  rw [fz hp] at h;exact .inl ⟨rfl,(du h).symm⟩
 ·rw [di (og e)] at h
  exact .inr ⟨e,h⟩
theorem lT {L:Rows} {p:Nat} {new:List Nat} (hp:p<L.length) (x b:Nat):E (L.set p new) x b↔(x=p/\b∈new)\/(x≠p/\E L x b):=by
 unfold E;by_cases h:x=p
 ·subst h
  simp [fz hp]
 ·simp [di (og h),h]
theorem kMY {L:Rows} {row:List Nat} {x b:Nat} (h:E L x b):E (L++[row]) x b:=by
 obtain ⟨r,e,m⟩:=h;exact ⟨r,by rw [cu (ag.mp e).1];exact e,m⟩
section
variable {L:Rows} {p q r:Nat} {rp rq rr:List Nat}
theorem kHR (G:Good L) (hp:L[p]?=some rp) (hq:L[q]?=some rq) (hr:L[r]?=some rr) (f:Nx rq r p):Good (aU L p q r rp rq rr):=by
 have Fq:R L q r p:=⟨rq,hq,f⟩;have Fr:R L r p q:=G.tri _ _ _ Fq;have Fp:R L p q r:=G.tri _ _ _ Fr;have fr:Nx rr p q:=by obtain ⟨x,e,n⟩:=Fr;rw [hr] at e;cases e;exact n
 have fp:Nx rp q r:=by obtain ⟨x,e,n⟩:=Fp;rw [hp] at e;cases e;exact n
 obtain ⟨lq,lr,lp,rq1,pq1⟩:=vG G Fq;obtain ⟨-,-,-,pr1,-⟩:=vG G Fr;have np:=G.nd p rp hp;have nq:=G.nd q rq hq;have nr:=G.nd r rr hr;have vp:L.length∉rp:=λ z=>jj _ (G.rng p rp _ hp z).1;have vq:L.length∉rq:=λ z=>jj _ (G.rng q rq _ hq z).1;have vr:L.length∉rr:=λ z=>jj _ (G.rng r rr _ hr z).1;have mp:=(kX fp).1;have mq:=(kX f).1;have mr:=(kX fr).1;have l1:p<L.length:=lp;have l2:q<(L.set p (qF rp q L.length)).length:=by simpa using lq
 have l3:r<((L.set p (qF rp q L.length)).set q (qF rq r L.length)).length:=by simpa using lr
 have len:(aU L p q r rp rq rr).length=L.length+1:=by simp [aU]
 have lenv:(((L.set p (qF rp q L.length)).set q (qF rq r L.length)).set r (qF rr p L.length)).length=L.length:=by simp
 have look:∀ (x:Nat) (row:List Nat),(aU L p q r rp rq rr)[x]?=some row->(x=L.length/\row=[p,q,r])\/(x=r/\row=qF rr p L.length)\/(x=q/\row=qF rq r L.length)\/(x=p/\row=qF rp q L.length)\/(x≠p/\x≠q/\x≠r/\L[x]?=some row):=by
  intro x row h;unfold aU at h;by_cases hx:x<L.length
  ·rw [cu (by rw [lenv];exact hx)] at h
   rcases wR l3 h with z | ⟨n3,h⟩
   ·exact .inr (.inl z)
   ·rcases wR l2 h with z | ⟨n2,h⟩
    ·exact .inr (.inr (.inl z))
    ·rcases wR l1 h with z | ⟨n1,h⟩
     ·exact .inr (.inr (.inr (.inl z)))
     ·exact .inr (.inr (.inr (.inr ⟨n1,n2,n3,h⟩)))
  ·rw [bz (by rw [lenv];omega),lenv] at h
   have:x-L.length=0:=by
    rcases xh (x-L.length) with z | z
    ·exact z
    ·rw [lh (by simp;omega)] at h;cases h
   rw [this] at h;exact .inl ⟨by omega,(du h).symm⟩
 have rel:∀ x a b,R (aU L p q r rp rq rr) x a b↔(x=L.length/\((a=p/\b=q)\/(a=q/\b=r)\/(a=r/\b=p)))\/(x=r/\((a=p/\b=L.length)\/(a=L.length/\b=q)\/(a≠p/\R L r a b)))\/(x=q/\((a=r/\b=L.length)\/(a=L.length/\b=p)\/(a≠r/\R L q a b)))\/(x=p/\((a=q/\b=L.length)\/(a=L.length/\b=r)\/(a≠q/\R L p a b)))\/(x≠p/\x≠q/\x≠r/\R L x a b):=by
  intro x a b;have e1:Nx rp q b↔b=r:=⟨λ z=>zJ np z fp,λ z=>z ▸ fp⟩;have e2:Nx rq r b↔b=p:=⟨λ z=>zJ nq z f,λ z=>z ▸ f⟩;have e3:Nx rr p b↔b=q:=⟨λ z=>zJ nr z fr,λ z=>z ▸ fr⟩;have g1:R L p a b↔Nx rp a b:=⟨λ ⟨z,e,n⟩=>by rw [hp] at e;cases e;exact n,λ n=>⟨rp,hp,n⟩⟩;have g2:R L q a b↔Nx rq a b:=⟨λ ⟨z,e,n⟩=>by rw [hq] at e;cases e;exact n,λ n=>⟨rq,hq,n⟩⟩;have g3:R L r a b↔Nx rr a b:=⟨λ ⟨z,e,n⟩=>by rw [hr] at e;cases e;exact n,λ n=>⟨rr,hr,n⟩⟩;unfold aU;rw [kNY,gS l3,gS l2,gS l1,aI mp np vp,aI mq nq vq,aI mr nr vr,nx3,lenv,e1,e2,e3,g1,g2,g3];have no:¬ R L L.length a b:=λ z=>by have:=vG G z;omega
  clear Fq Fr Fp fr fp np nq nr vp vq vr mp mq mr l1 l2 l3 len lenv look hp hq hr f e1 e2 e3 g1 g2 g3 G;by_cases x0:x=L.length
  ·subst x0
   have n1:¬ L.length=p:=jm lp;have n2:¬ L.length=q:=jm lq;have n3:¬ L.length=r:=jm lr;simp only [n1,n2,n3,no,ne_eq,not_false_eq_true,false_and,true_and,and_false,or_false,false_or,not_true_eq_false]
  ·by_cases x3:x=r
   ·subst x3
    have n1:¬ x=q:=rq1;have n2:¬ x=p:=λ z=>pr1 z.symm;simp only [x0,n1,n2,ne_eq,not_false_eq_true,false_and,true_and,and_false,or_false,false_or,not_true_eq_false]
   ·by_cases x2:x=q
    ·subst x2
     have n2:¬ x=p:=λ z=>pq1 z.symm;simp only [x0,x3,n2,ne_eq,not_false_eq_true,false_and,true_and,and_false,or_false,false_or,not_true_eq_false]
    ·by_cases x1:x=p
     ·subst x1
      simp only [x0,x3,x2,ne_eq,not_false_eq_true,false_and,true_and,and_false,or_false,false_or,not_true_eq_false]
     ·simp only [x0,x3,x2,x1,ne_eq,not_false_eq_true,false_and,true_and,and_false,or_false,false_or,not_true_eq_false]
 have v1:L.length≠p:=jm lp;have v2:L.length≠q:=jm lq
 have v3:L.length≠r:=jm lr
 have oldT:∀ x a b,R L x a b->¬ (x=p/\a=q)->¬ (x=q/\a=r)->¬ (x=r/\a=p)->R (aU L p q r rp rq rr) x a b:=by
  intro x a b h h1 h2 h3;rw [rel];clear Fq Fr Fp fr fp lq lr lp rq1 pq1 pr1 np nq nr vp vq vr mp mq mr l1 l2 l3 len lenv look hp hq hr f rel G v1 v2 v3;by_cases x3:x=r
  ·subst x3;exact .inr (.inl ⟨rfl,.inr (.inr ⟨λ z=>h3 ⟨rfl,z⟩,h⟩)⟩)
  ·by_cases x2:x=q
   ·subst x2;exact .inr (.inr (.inl ⟨rfl,.inr (.inr ⟨λ z=>h2 ⟨rfl,z⟩,h⟩)⟩))
   ·by_cases x1:x=p
    ·subst x1;exact .inr (.inr (.inr (.inl ⟨rfl,.inr (.inr ⟨λ z=>h1 ⟨rfl,z⟩,h⟩)⟩)))
    ·exact .inr (.inr (.inr (.inr ⟨x1,x2,x3,h⟩)))
 have oldTri:∀ x a b,R L x a b->¬ (x=p/\a=q)->¬ (x=q/\a=r)->¬ (x=r/\a=p)->R (aU L p q r rp rq rr) a b x:=by
  intro x a b h h1 h2 h3;have h':=G.tri _ _ _ h;clear fr fp lq lr lp rq1 pq1 pr1 np nq nr vp vq vr mp mq mr l1 l2 l3 len lenv look hp hq hr f rel v1 v2 v3;refine oldT _ _ _ h' (λ z=>?_) (λ z=>?_) (λ z=>?_)
  ·obtain ⟨rfl,rfl⟩:=z
   exact h3 ⟨yR G h' Fp,rfl⟩
  ·obtain ⟨rfl,rfl⟩:=z
   exact h1 ⟨yR G h' Fq,rfl⟩
  ·obtain ⟨rfl,rfl⟩:=z
   exact h2 ⟨yR G h' Fr,rfl⟩
 have newR:∀ x a b,((x=L.length/\((a=p/\b=q)\/(a=q/\b=r)\/(a=r/\b=p)))\/(x=r/\((a=p/\b=L.length)\/(a=L.length/\b=q)))\/(x=q/\((a=r/\b=L.length)\/(a=L.length/\b=p)))\/(x=p/\((a=q/\b=L.length)\/(a=L.length/\b=r))))->R (aU L p q r rp rq rr) x a b:=by
  intro x a b h;rw [rel];rcases h with h | ⟨h,h' | h'⟩ | ⟨h,h' | h'⟩ | ⟨h,h' | h'⟩
  ·exact .inl h
  ·exact .inr (.inl ⟨h,.inl h'⟩)
  ·exact .inr (.inl ⟨h,.inr (.inl h')⟩)
  ·exact .inr (.inr (.inl ⟨h,.inl h'⟩))
  ·exact .inr (.inr (.inl ⟨h,.inr (.inl h')⟩))
  ·exact .inr (.inr (.inr (.inl ⟨h,.inl h'⟩)))
  ·exact .inr (.inr (.inr (.inl ⟨h,.inr (.inl h')⟩)))
 have edge:∀ a b,E L a b->E (aU L p q r rp rq rr) a b:=by
  intro a b h;unfold aU;refine kMY ?_;rw [lT l3,lT l2,lT l1,jC mp np,jC mq nq,jC mr nr];obtain ⟨row,e,m⟩:=h;clear Fq Fr Fp fr fp lq lr lp rq1 pq1 pr1 np nq nr vp vq vr mp mq mr l1 l2 l3 len lenv look f rel oldT oldTri newR G v1 v2 v3;by_cases x3:a=r
  ·subst x3;rw [hr] at e;cases e;exact .inl ⟨rfl,.inl m⟩
  ·by_cases x2:a=q
   ·subst x2;rw [hq] at e;cases e;exact .inr ⟨x3,.inl ⟨rfl,.inl m⟩⟩
   ·by_cases x1:a=p
    ·subst x1;rw [hp] at e;cases e;exact .inr ⟨x3,.inr ⟨x2,.inl ⟨rfl,.inl m⟩⟩⟩
    ·exact .inr ⟨x3,.inr ⟨x2,.inr ⟨x1,row,e,m⟩⟩⟩
 refine ⟨by rw [len];have:=G.three;omega,?_,?_,?_,?_,?_,?_⟩
 ·intro x row h
  rcases look x row h with ⟨_,rfl⟩ | ⟨_,rfl⟩ | ⟨_,rfl⟩ | ⟨_,rfl⟩ | ⟨_,_,_,h⟩
  ·simp
  ·intro z;have:=jD (w:=L.length) mr;rw [z] at this;simp at this
  ·intro z;have:=jD (w:=L.length) mq;rw [z] at this;simp at this
  ·intro z;have:=jD (w:=L.length) mp;rw [z] at this;simp at this
  ·exact G.ne _ _ h
 ·intro x row h
  rcases look x row h with ⟨_,rfl⟩ | ⟨_,rfl⟩ | ⟨_,rfl⟩ | ⟨_,rfl⟩ | ⟨_,_,_,h⟩
  ·simp only [iX,gv,yv,or_false,xm,and_true,not_false_eq_true]
   exact ⟨λ z=>z.elim pq1 pr1,λ z=>rq1 z.symm⟩
  ·exact yU mr nr vr
  ·exact yU mq nq vq
  ·exact yU mp np vp
  ·exact G.nd _ _ h
 ·intro x row a h m
  rw [len]
  replace h:=look x row h
  clear Fq Fr Fp fr fp vp vq vr l1 l2 l3 len lenv look f rel oldT oldTri newR edge;rcases h with ⟨rfl,rfl⟩ | ⟨rfl,rfl⟩ | ⟨rfl,rfl⟩ | ⟨rfl,rfl⟩ | ⟨_,_,_,h⟩
  ·simp only [gv,yv,or_false] at m
   clear rq1 pq1 pr1 v1 v2 v3;omega
  ·rcases (jC mr nr).mp m with z | z
   ·have:=G.rng _ _ _ hr z
    exact ⟨om this.1,this.2⟩
   ·subst z
    exact ⟨wg _,jm lr⟩
  ·rcases (jC mq nq).mp m with z | z
   ·have:=G.rng _ _ _ hq z
    exact ⟨om this.1,this.2⟩
   ·subst z
    exact ⟨wg _,jm lq⟩
  ·rcases (jC mp np).mp m with z | z
   ·have:=G.rng _ _ _ hp z
    exact ⟨om this.1,this.2⟩
   ·subst z
    exact ⟨wg _,jm lp⟩
  ·have:=G.rng _ _ _ h m
   exact ⟨om this.1,this.2⟩
 ·intro x a b h
  rw [rel] at h;clear Fq Fr Fp fr fp lq lr lp np nq nr vp vq vr mp mq mr l1 l2 l3 len lenv look hp hq hr f rel oldT edge G v1 v2 v3;rcases h with ⟨rfl,⟨rfl,rfl⟩ | ⟨rfl,rfl⟩ | ⟨rfl,rfl⟩⟩ | ⟨rfl,⟨rfl,rfl⟩ | ⟨rfl,rfl⟩ | ⟨h,h'⟩⟩ | ⟨rfl,⟨rfl,rfl⟩ | ⟨rfl,rfl⟩ | ⟨h,h'⟩⟩ | ⟨rfl,⟨rfl,rfl⟩ | ⟨rfl,rfl⟩ | ⟨h,h'⟩⟩ | ⟨h1,h2,h3,h'⟩
  ·exact newR _ _ _ (.inr (.inr (.inr ⟨rfl,.inl ⟨rfl,rfl⟩⟩)))
  ·exact newR _ _ _ (.inr (.inr (.inl ⟨rfl,.inl ⟨rfl,rfl⟩⟩)))
  ·exact newR _ _ _ (.inr (.inl ⟨rfl,.inl ⟨rfl,rfl⟩⟩))
  ·exact newR _ _ _ (.inr (.inr (.inr ⟨rfl,.inr ⟨rfl,rfl⟩⟩)))
  ·exact newR _ _ _ (.inl ⟨rfl,.inr (.inl ⟨rfl,rfl⟩)⟩)
  ·exact oldTri _ _ _ h' (λ z=>pr1 z.1.symm) (λ z=>rq1 z.1) λ z=>h z.2
  ·exact newR _ _ _ (.inr (.inl ⟨rfl,.inr ⟨rfl,rfl⟩⟩))
  ·exact newR _ _ _ (.inl ⟨rfl,.inl ⟨rfl,rfl⟩⟩)
  ·exact oldTri _ _ _ h' (λ z=>pq1 z.1.symm) (λ z=>h z.2) λ z=>rq1 z.1.symm
  ·exact newR _ _ _ (.inr (.inr (.inl ⟨rfl,.inr ⟨rfl,rfl⟩⟩)))
  ·exact newR _ _ _ (.inl ⟨rfl,.inr (.inr ⟨rfl,rfl⟩)⟩)
  ·exact oldTri _ _ _ h' (λ z=>h z.2) (λ z=>pq1 z.1) λ z=>pr1 z.1
  ·exact oldTri _ _ _ h' (λ z=>h1 z.1) (λ z=>h2 z.1) λ z=>h3 z.1
 ·intro x hx
  rw [len] at hx;by_cases h:x=L.length
  ·subst h
   refine .more ((G.con p lp).by λ a b e=>.more (.here _) (edge a b e)) ?_;exact (vB (newR p q L.length (.inr (.inr (.inr ⟨rfl,.inl ⟨rfl,rfl⟩⟩))))).2
  ·exact (G.con x (by omega)).by λ a b e=>.more (.here _) (edge a b e)
 ·rw [len]
  unfold aU;have t:=G.tot;have s1:=yQ L p rp (qF rp q L.length) hp;have hq':(L.set p (qF rp q L.length))[q]?=some rq:=by rw [di pq1];exact hq
  have s2:=yQ _ q rq (qF rq r L.length) hq';have hr':((L.set p (qF rp q L.length)).set q (qF rq r L.length))[r]?=some rr:=by rw [di (λ z=>rq1 z.symm),di pr1];exact hr
  have s3:=yQ _ r rr (qF rr p L.length) hr';rw [jD mp] at s1;rw [jD mq] at s2;rw [jD mr] at s3;rw [gq,BX];simp only [iW,BN,AV,List.sum_nil,iE,qc];omega
end
def wL (L:Rows) (p q r s:Nat) (rp rq rr rs:List Nat):Rows :=
 (((L.set p (qP rp q)).set q (qP rq p)).set r (qF rr p s)).set s (qF rs q r)
section
variable {L:Rows} {p q r s:Nat} {rp rq rr rs:List Nat}
theorem kEI (G:Good L) (hp:L[p]?=some rp) (hq:L[q]?=some rq) (hr:L[r]?=some rr) (hs:L[s]?=some rs) (f:Nx rq r p) (g:Nx rp s q) (rs0:r≠s) (sr:s∉rr):Good (wL L p q r s rp rq rr rs):=by
 have F1q:R L q r p:=⟨rq,hq,f⟩;have F1r:R L r p q:=G.tri _ _ _ F1q;have F1p:R L p q r:=G.tri _ _ _ F1r;have F2p:R L p s q:=⟨rp,hp,g⟩;have F2s:R L s q p:=G.tri _ _ _ F2p;have F2q:R L q p s:=G.tri _ _ _ F2s;have un:∀ {x row a b},L[x]?=some row->R L x a b->Nx row a b:=λ {x row a b} e ⟨z,e',n⟩=>by rw [e] at e';cases e';exact n
 obtain ⟨lq,lr,lp,rq1,pq1⟩:=vG G F1q;obtain ⟨-,-,-,pr1,-⟩:=vG G F1r;obtain ⟨-,ls,-,sp1,-⟩:=vG G F2p;obtain ⟨-,-,-,qs1,-⟩:=vG G F2s;have np:=G.nd p rp hp;have nq:=G.nd q rq hq;have nr:=G.nd r rr hr;have ns:=G.nd s rs hs;have mp:q∈rp:=(kX (un hp F1p)).1;have mq:p∈rq:=(kX f).2;have mr:p∈rr:=(kX (un hr F1r)).1;have ms:q∈rs:=(kX (un hs F2s)).1
 have rsn:r∉rs:=λ z=>by
  obtain ⟨row,e,m⟩:=G.sym (a:=s) (b:=r) ⟨rs,hs,z⟩;rw [hr] at e;cases e;exact sr m
 have l1:p<L.length:=lp;have l2:q<(L.set p (qP rp q)).length:=by simpa using lq
 have l3:r<((L.set p (qP rp q)).set q (qP rq p)).length:=by simpa using lr
 have l4:s<(((L.set p (qP rp q)).set q (qP rq p)).set r (qF rr p s)).length:=by simpa using ls
 have len:(wL L p q r s rp rq rr rs).length=L.length:=by simp [wL]
 have look:∀ (x:Nat) (row:List Nat),(wL L p q r s rp rq rr rs)[x]?=some row->(x=s/\row=qF rs q r)\/(x=r/\row=qF rr p s)\/(x=q/\row=qP rq p)\/(x=p/\row=qP rp q)\/(x≠p/\x≠q/\x≠r/\x≠s/\L[x]?=some row):=by
  intro x row h;unfold wL at h;rcases wR l4 h with z | ⟨n4,h⟩
  ·exact .inl z
  ·rcases wR l3 h with z | ⟨n3,h⟩
   ·exact .inr (.inl z)
   ·rcases wR l2 h with z | ⟨n2,h⟩
    ·exact .inr (.inr (.inl z))
    ·rcases wR l1 h with z | ⟨n1,h⟩
     ·exact .inr (.inr (.inr (.inl z)))
     ·exact .inr (.inr (.inr (.inr ⟨n1,n2,n3,n4,h⟩)))
 have rel:∀ x a b,R (wL L p q r s rp rq rr rs) x a b↔(x=s/\((a=q/\b=r)\/(a=r/\b=p)\/(a≠q/\R L s a b)))\/(x=r/\((a=p/\b=s)\/(a=s/\b=q)\/(a≠p/\R L r a b)))\/(x=q/\((a≠p/\b≠p/\R L q a b)\/(a=r/\b=s)))\/(x=p/\((a≠q/\b≠q/\R L p a b)\/(a=s/\b=r)))\/(x≠p/\x≠q/\x≠r/\x≠s/\R L x a b):=by
  intro x a b;have g1:∀ a b,Nx rp a b↔R L p a b:=λ a b=>⟨λ n=>⟨rp,hp,n⟩,un hp⟩;have g2:∀ a b,Nx rq a b↔R L q a b:=λ a b=>⟨λ n=>⟨rq,hq,n⟩,un hq⟩;have g3:∀ a b,Nx rr a b↔R L r a b:=λ a b=>⟨λ n=>⟨rr,hr,n⟩,un hr⟩;have g4:∀ a b,Nx rs a b↔R L s a b:=λ a b=>⟨λ n=>⟨rs,hs,n⟩,un hs⟩;have e1:R L p a q↔a=s:=⟨λ z=>kFV G z F2p,λ z=>z ▸ F2p⟩;have e2:R L p q b↔b=r:=⟨λ z=>yR G z F1p,λ z=>z ▸ F1p⟩;have e3:R L q a p↔a=r:=⟨λ z=>kFV G z F1q,λ z=>z ▸ F1q⟩;have e4:R L q p b↔b=s:=⟨λ z=>yR G z F2q,λ z=>z ▸ F2q⟩;have e5:R L r p b↔b=q:=⟨λ z=>yR G z F1r,λ z=>z ▸ F1r⟩;have e6:R L s q b↔b=p:=⟨λ z=>yR G z F2s,λ z=>z ▸ F2s⟩;unfold wL;rw [gS l4,gS l3,gS l2,gS l1,kCA mp np,kCA mq nq,aI mr nr sr,aI ms ns rsn];simp only [g1,g2,g3,g4,e1,e2,e3,e4,e5,e6];have c1:(a≠q/\b≠q/\a=s/\b=r)↔(a=s/\b=r):=⟨λ z=>z.2.2,λ z=>⟨λ h=>qs1 (h.symm.trans z.1),λ h=>rq1 (z.2.symm.trans h),z⟩⟩;have c2:(a≠p/\b≠p/\a=r/\b=s)↔(a=r/\b=s):=⟨λ z=>z.2.2,λ z=>⟨λ h=>pr1 (h.symm.trans z.1),λ h=>sp1 (z.2.symm.trans h),z⟩⟩;rw [c1,c2];clear look g1 g2 g3 g4 e1 e2 e3 e4 e5 e6 c1 c2 F1q F1r F1p F2p F2s F2q un np nq nr ns mp mq mr ms rsn l1 l2 l3 l4 len hp hq hr hs f g sr lq lr lp ls;by_cases x4:x=s
  ·subst x4
   have n1:¬ x=r:=λ z=>rs0 z.symm;have n2:¬ x=q:=λ z=>qs1 z.symm;have n3:¬ x=p:=sp1;simp only [n1,n2,n3,ne_eq,not_false_eq_true,false_and,true_and,and_false,or_false,false_or,not_true_eq_false]
  ·by_cases x3:x=r
   ·subst x3
    have n1:¬ x=q:=rq1;have n2:¬ x=p:=λ z=>pr1 z.symm;simp only [x4,n1,n2,ne_eq,not_false_eq_true,false_and,true_and,and_false,or_false,false_or,not_true_eq_false]
   ·by_cases x2:x=q
    ·subst x2
     have n2:¬ x=p:=λ z=>pq1 z.symm;simp only [x4,x3,n2,ne_eq,not_false_eq_true,false_and,true_and,and_false,or_false,false_or,not_true_eq_false]
    ·by_cases x1:x=p
     ·subst x1
      simp only [x4,x3,x2,ne_eq,not_false_eq_true,false_and,true_and,and_false,or_false,false_or,not_true_eq_false]
     ·simp only [x4,x3,x2,x1,ne_eq,not_false_eq_true,false_and,true_and,and_false,or_false,false_or,not_true_eq_false]
 have oldT:∀ x a b,R L x a b->¬ (x=p/\a=q)->¬ (x=p/\b=q)->¬ (x=q/\a=p)->¬ (x=q/\b=p)->¬ (x=r/\a=p)->¬ (x=s/\a=q)->R (wL L p q r s rp rq rr rs) x a b:=by
  intro x a b h h1 h2 h3 h4 h5 h6;rw [rel];clear F1q F1r F1p F2p F2s F2q un np nq nr ns mp mq mr ms rsn l1 l2 l3 l4 len hp hq hr hs f g sr lq lr lp ls rs0 rq1 pq1 pr1 sp1 qs1 look rel G;by_cases x4:x=s
  ·subst x4;exact .inl ⟨rfl,.inr (.inr ⟨λ z=>h6 ⟨rfl,z⟩,h⟩)⟩
  ·by_cases x3:x=r
   ·subst x3;exact .inr (.inl ⟨rfl,.inr (.inr ⟨λ z=>h5 ⟨rfl,z⟩,h⟩)⟩)
   ·by_cases x2:x=q
    ·subst x2;exact .inr (.inr (.inl ⟨rfl,.inl ⟨λ z=>h3 ⟨rfl,z⟩,λ z=>h4 ⟨rfl,z⟩,h⟩⟩))
    ·by_cases x1:x=p
     ·subst x1;exact .inr (.inr (.inr (.inl ⟨rfl,.inl ⟨λ z=>h1 ⟨rfl,z⟩,λ z=>h2 ⟨rfl,z⟩,h⟩⟩)))
     ·exact .inr (.inr (.inr (.inr ⟨x1,x2,x3,x4,h⟩)))
 have oldTri:∀ x a b,R L x a b->¬ (x=p/\a=q)->¬ (x=p/\b=q)->¬ (x=q/\a=p)->¬ (x=q/\b=p)->¬ (x=r/\a=p)->¬ (x=s/\a=q)->R (wL L p q r s rp rq rr rs) a b x:=by
  intro x a b h h1 h2 h3 h4 h5 h6;have h':=G.tri _ _ _ h;clear F1q F2p un np nq nr ns mp mq mr ms rsn l1 l2 l3 l4 len hp hq hr hs f g sr lq lr lp ls rs0 rq1 pq1 pr1 sp1 qs1 look rel;refine oldT _ _ _ h' (λ z=>?_) (λ z=>?_) (λ z=>?_) (λ z=>?_) (λ z=>?_) (λ z=>?_)
  ·obtain ⟨rfl,rfl⟩:=z
   exact h5 ⟨yR G h' F1p,rfl⟩
  ·obtain ⟨rfl,rfl⟩:=z
   exact h3 ⟨rfl,rfl⟩
  ·obtain ⟨rfl,rfl⟩:=z
   exact h6 ⟨yR G h' F2q,rfl⟩
  ·obtain ⟨rfl,rfl⟩:=z
   exact h1 ⟨rfl,rfl⟩
  ·obtain ⟨rfl,rfl⟩:=z
   exact h4 ⟨yR G h' F1r,rfl⟩
  ·obtain ⟨rfl,rfl⟩:=z
   exact h2 ⟨yR G h' F2s,rfl⟩
 have newR:∀ x a b,((x=s/\((a=q/\b=r)\/(a=r/\b=p)))\/(x=r/\((a=p/\b=s)\/(a=s/\b=q)))\/(x=q/\(a=r/\b=s))\/(x=p/\(a=s/\b=r)))->R (wL L p q r s rp rq rr rs) x a b:=by
  intro x a b h;rw [rel];rcases h with ⟨h,h' | h'⟩ | ⟨h,h' | h'⟩ | ⟨h,h'⟩ | ⟨h,h'⟩
  ·exact .inl ⟨h,.inl h'⟩
  ·exact .inl ⟨h,.inr (.inl h')⟩
  ·exact .inr (.inl ⟨h,.inl h'⟩)
  ·exact .inr (.inl ⟨h,.inr (.inl h')⟩)
  ·exact .inr (.inr (.inl ⟨h,.inr h'⟩))
  ·exact .inr (.inr (.inr (.inl ⟨h,.inr h'⟩)))
 have edge:∀ a b,E L a b->¬ (a=p/\b=q)->¬ (a=q/\b=p)->E (wL L p q r s rp rq rr rs) a b:=by
  intro a b h h1 h2;unfold wL;rw [lT l4,lT l3,lT l2,lT l1,vL mp np,vL mq nq,jC mr nr,jC ms ns];obtain ⟨row,e,m⟩:=h;clear F1q F1r F1p F2p F2s F2q un np nq nr ns mp mq mr ms rsn l1 l2 l3 l4 len f g sr lq lr lp ls rs0 rq1 pq1 pr1 sp1 qs1 look rel oldT oldTri newR G;by_cases x4:a=s
  ·subst x4;rw [hs] at e;cases e;exact .inl ⟨rfl,.inl m⟩
  ·by_cases x3:a=r
   ·subst x3;rw [hr] at e;cases e;exact .inr ⟨x4,.inl ⟨rfl,.inl m⟩⟩
   ·by_cases x2:a=q
    ·subst x2;rw [hq] at e;cases e;exact .inr ⟨x4,.inr ⟨x3,.inl ⟨rfl,m,λ z=>h2 ⟨rfl,z⟩⟩⟩⟩
    ·by_cases x1:a=p
     ·subst x1;rw [hp] at e;cases e;exact .inr ⟨x4,.inr ⟨x3,.inr ⟨x2,.inl ⟨rfl,m,λ z=>h1 ⟨rfl,z⟩⟩⟩⟩⟩
     ·exact .inr ⟨x4,.inr ⟨x3,.inr ⟨x2,.inr ⟨x1,row,e,m⟩⟩⟩⟩
 have path:∀ a b,E L a b->Reach (wL L p q r s rp rq rr rs) a b:=by
  intro a b h;clear F1q F1r F1p F2p F2s F2q un np nq nr ns mp mq mr ms rsn l1 l2 l3 l4 len hp hq hr hs f g sr lq lr lp ls rs0 rq1 pq1 pr1 sp1 qs1 look rel oldT oldTri G;by_cases h1:a=p/\b=q
  ·obtain ⟨rfl,rfl⟩:=h1
   refine Reach.more (b:=r) (Reach.more (Reach.here _) ?_) ?_
   ·exact (vB (newR a s r (.inr (.inr (.inr ⟨rfl,rfl,rfl⟩))))).2
   ·exact (vB (newR r s b (.inr (.inl ⟨rfl,.inr ⟨rfl,rfl⟩⟩)))).2
  ·by_cases h2:a=q/\b=p
   ·obtain ⟨rfl,rfl⟩:=h2
    refine Reach.more (b:=r) (Reach.more (Reach.here _) ?_) ?_
    ·exact (vB (newR a r s (.inr (.inr (.inl ⟨rfl,rfl,rfl⟩))))).1
    ·exact (vB (newR r b s (.inr (.inl ⟨rfl,.inl ⟨rfl,rfl⟩⟩)))).1
   ·exact .more (.here _) (edge a b h h1 h2)
 refine ⟨by rw [len];exact G.three,?_,?_,?_,?_,?_,?_⟩
 ·intro x row h
  rcases look x row h with ⟨_,rfl⟩ | ⟨_,rfl⟩ | ⟨_,rfl⟩ | ⟨_,rfl⟩ | ⟨_,_,_,_,h⟩
  ·intro z;have:=jD (w:=r) ms;rw [z] at this;simp at this
  ·intro z;have:=jD (w:=s) mr;rw [z] at this;simp at this
  ·intro z
   have:s∈qP rq p:=(vL mq nq).mpr ⟨(kX (un hq F2q)).2,sp1⟩;rw [z] at this;cases this
  ·intro z
   have:r∈qP rp q:=(vL mp np).mpr ⟨(kX (un hp F1p)).2,rq1⟩;rw [z] at this;cases this
  ·exact G.ne _ _ h
 ·intro x row h
  rcases look x row h with ⟨_,rfl⟩ | ⟨_,rfl⟩ | ⟨_,rfl⟩ | ⟨_,rfl⟩ | ⟨_,_,_,_,h⟩
  ·exact yU ms ns rsn
  ·exact yU mr nr sr
  ·exact fY mq nq
  ·exact fY mp np
  ·exact G.nd _ _ h
 ·intro x row a h m
  rw [len]
  replace h:=look x row h
  clear F1q F1r F1p F2p F2s F2q un rsn l1 l2 l3 l4 len f g sr lq lp rq1 pq1 pr1 sp1 qs1 look rel oldT oldTri newR edge path;rcases h with ⟨rfl,rfl⟩ | ⟨rfl,rfl⟩ | ⟨rfl,rfl⟩ | ⟨rfl,rfl⟩ | ⟨_,_,_,_,h⟩
  ·rcases (jC ms ns).mp m with z | z
   ·exact G.rng _ _ _ hs z
   ·subst z
    exact ⟨lr,rs0⟩
  ·rcases (jC mr nr).mp m with z | z
   ·exact G.rng _ _ _ hr z
   ·subst z
    exact ⟨ls,λ h=>rs0 h.symm⟩
  ·exact G.rng _ _ _ hq ((vL mq nq).mp m).1
  ·exact G.rng _ _ _ hp ((vL mp np).mp m).1
  ·exact G.rng _ _ _ h m
 ·intro x a b h
  rw [rel] at h;clear F1q F1r F1p F2p F2s F2q un np nq nr ns mp mq mr ms rsn l1 l2 l3 l4 len hp hq hr hs f g sr lq lr lp ls look rel oldT edge path G;rcases h with ⟨rfl,⟨rfl,rfl⟩ | ⟨rfl,rfl⟩ | ⟨h,h'⟩⟩ | ⟨rfl,⟨rfl,rfl⟩ | ⟨rfl,rfl⟩ | ⟨h,h'⟩⟩ | ⟨rfl,⟨h,k,h'⟩ | ⟨rfl,rfl⟩⟩ | ⟨rfl,⟨h,k,h'⟩ | ⟨rfl,rfl⟩⟩ | ⟨h1,h2,h3,h4,h'⟩
  ·exact newR _ _ _ (.inr (.inr (.inl ⟨rfl,rfl,rfl⟩)))
  ·exact newR _ _ _ (.inr (.inl ⟨rfl,.inl ⟨rfl,rfl⟩⟩))
  ·exact oldTri _ _ _ h' (λ z=>sp1 z.1) (λ z=>sp1 z.1) (λ z=>qs1 z.1.symm) (λ z=>qs1 z.1.symm) (λ z=>rs0 z.1.symm) λ z=>h z.2
  ·exact newR _ _ _ (.inr (.inr (.inr ⟨rfl,rfl,rfl⟩)))
  ·exact newR _ _ _ (.inl ⟨rfl,.inl ⟨rfl,rfl⟩⟩)
  ·exact oldTri _ _ _ h' (λ z=>pr1 z.1.symm) (λ z=>pr1 z.1.symm) (λ z=>rq1 z.1) (λ z=>rq1 z.1) (λ z=>h z.2) λ z=>rs0 z.1
  ·exact oldTri _ _ _ h' (λ z=>pq1 z.1.symm) (λ z=>pq1 z.1.symm) (λ z=>h z.2) (λ z=>k z.2) (λ z=>rq1 z.1.symm) λ z=>qs1 z.1
  ·exact newR _ _ _ (.inr (.inl ⟨rfl,.inr ⟨rfl,rfl⟩⟩))
  ·exact oldTri _ _ _ h' (λ z=>h z.2) (λ z=>k z.2) (λ z=>pq1 z.1) (λ z=>pq1 z.1) (λ z=>pr1 z.1) λ z=>sp1 z.1.symm
  ·exact newR _ _ _ (.inl ⟨rfl,.inr ⟨rfl,rfl⟩⟩)
  ·exact oldTri _ _ _ h' (λ z=>h1 z.1) (λ z=>h1 z.1) (λ z=>h2 z.1) (λ z=>h2 z.1) (λ z=>h3 z.1) λ z=>h4 z.1
 ·intro x hx
  rw [len] at hx;exact (G.con x hx).by path
 ·rw [len]
  unfold wL;have t:=G.tot;have s1:=yQ L p rp (qP rp q) hp;have hq':(L.set p (qP rp q))[q]?=some rq:=by rw [di pq1];exact hq
  have s2:=yQ _ q rq (qP rq p) hq';have hr':((L.set p (qP rp q)).set q (qP rq p))[r]?=some rr:=by rw [di (λ z=>rq1 z.symm),di pr1];exact hr
  have s3:=yQ _ r rr (qF rr p s) hr';have hs':(((L.set p (qP rp q)).set q (qP rq p)).set r (qF rr p s))[s]?=some rs:=by rw [di rs0,di qs1,di (λ z=>sp1 z.symm)];exact hs
  have s4:=yQ _ s rs (qF rs q r) hs';have k1:=sS mp;have k2:=sS mq;rw [jD mr] at s3;rw [jD ms] at s4;clear rs0 rq1 pq1 pr1 sp1 qs1 l1 l2 l3 l4 lp lq lr ls;omega
theorem kBB:Good [[1,2],[2,0],[0,1]]:=by
 have look:∀ (x:Nat) (row:List Nat),([[1,2],[2,0],[0,1]]:Rows)[x]?=some row->(x=0/\row=[1,2])\/(x=1/\row=[2,0])\/(x=2/\row=[0,1]):=by
  intro x row h
  match x,h with
  | 0,h=>exact .inl ⟨rfl,(du h).symm⟩
  | 1,h=>exact .inr (.inl ⟨rfl,(du h).symm⟩)
  | 2,h=>exact .inr (.inr ⟨rfl,(du h).symm⟩)
  | n+3,h=>simp at h
 have nx2:∀ x y a b:Nat,Nx [x,y] a b↔(a=x/\b=y)\/(a=y/\b=x):=by
  intro x y a b;show ((a=x/\b=y)\/(a=y/\b=x)\/False)↔_;simp
 refine ⟨by decide,?_,?_,?_,?_,?_,by decide⟩
 ·intro x row h
  rcases look x row h with ⟨_,rfl⟩ | ⟨_,rfl⟩ | ⟨_,rfl⟩<;>simp
 ·intro x row h
  rcases look x row h with ⟨_,rfl⟩ | ⟨_,rfl⟩ | ⟨_,rfl⟩<;>decide
 ·intro x row a h m
  rcases look x row h with ⟨rfl,rfl⟩ | ⟨rfl,rfl⟩ | ⟨rfl,rfl⟩<;>simp at m ⊢<;>omega
 ·rintro x a b ⟨row,h,n⟩
  rcases look x row h with ⟨rfl,rfl⟩ | ⟨rfl,rfl⟩ | ⟨rfl,rfl⟩<;>rw [nx2] at n<;>rcases n with ⟨rfl,rfl⟩ | ⟨rfl,rfl⟩
  ·exact ⟨[2,0],rfl,(nx2 _ _ _ _).mpr (.inl ⟨rfl,rfl⟩)⟩
  ·exact ⟨[0,1],rfl,(nx2 _ _ _ _).mpr (.inr ⟨rfl,rfl⟩)⟩
  ·exact ⟨[0,1],rfl,(nx2 _ _ _ _).mpr (.inl ⟨rfl,rfl⟩)⟩
  ·exact ⟨[1,2],rfl,(nx2 _ _ _ _).mpr (.inr ⟨rfl,rfl⟩)⟩
  ·exact ⟨[1,2],rfl,(nx2 _ _ _ _).mpr (.inl ⟨rfl,rfl⟩)⟩
  ·exact ⟨[2,0],rfl,(nx2 _ _ _ _).mpr (.inr ⟨rfl,rfl⟩)⟩
 ·intro x hx
  match x,hx with
  | 0,_=>exact .here _
  | 1,_=>exact .more (.here _) ⟨[1,2],rfl,by decide⟩
  | 2,_=>exact .more (.here _) ⟨[1,2],rfl,by decide⟩
end
def xO (row:List Nat) (p:Nat):Option Nat:=if row.idxOf p=0 then row.getLast? else row[row.idxOf p-1]?
theorem zR {row:List Nat} {p v:Nat} (nd:row.Nodup) (hp:p∈row) (h:xO row p=some v):Nx row v p:=by
 obtain ⟨A,B,rfl,hA,hB⟩:=xC hp nd;unfold xO at h;rw [dH hA] at h;by_cases h0:A.length=0
 ·have:A=[]:=qh.mp h0
  subst this;rw [if_pos h0,sj] at h;show Adj (p::B++[p]) v p
  have e:p::B=(p::B).dropLast++[v]:=by
   rw [jv (BB p B)] at h;rw [<-du h];exact (ke (BB p B)).symm
  rw [e,eh];exact (cM _ v [p] v p).mpr (.inr (.inl ⟨rfl,rfl⟩))
 ·rw [if_neg h0] at h
  rw [cu (by omega)] at h;have ne:A≠[]:=λ z=>h0 (by rw [z];rfl)
  have e:A=A.dropLast++[v]:=by
   have z:A.getLast?=some v:=by rw [Ah];exact h
   rw [jv ne] at z;rw [<-du z];exact (ke ne).symm
  rw [e,eh];rw [yA];show Nx (v::(p::B)++A.dropLast) v p;exact .inl ⟨rfl,rfl⟩
theorem aG {row:List Nat} {p:Nat} (hp:p∈row):∃ v,xO row p=some v:=by
 have hl:=iA hp;unfold xO
 split
 ·have ne:row≠[]:=λ z=>by rw [z] at hp;cases hp
  exact ⟨_,jv ne⟩
 ·exact ⟨_,aa (show row.idxOf p-1<row.length by omega)⟩
end Tri
namespace Rnd
open Cyc Tri
section
variable {α:Type} [DecidableEq α]
def it (f:α->α):Nat->α->α
 | 0,x=>x
 | n+1,x=>f (it f n x)
theorem yB (f:α->α) (m n:Nat) (x:α):it f (m+n) x=it f m (it f n x):=by
 induction m with
 | zero=>rw [Cp];rfl
 | succ m ih=>rw [Nat.succ_add];show f _=f _;rw [ih]
structure Perm (f:α->α) (S:List α):Prop where
 to:∀ x,x∈S->f x∈S
 one:∀ x y,x∈S->y∈S->f x=f y->x=y
theorem Perm.it {f:α->α} {S:List α} (h:Perm f S) (n:Nat) {x:α} (hx:x∈S):it f n x∈S:=by
 induction n with
 | zero=>exact hx
 | succ n ih=>exact h.to _ ih
theorem Perm.back {f:α->α} {S:List α} (h:Perm f S) (n:Nat) {x y:α} (hx:x∈S) (hy:y∈S) (e:Rnd.it f n x=Rnd.it f n y):x=y:=by
 induction n with
 | zero=>exact e
 | succ n ih=>exact ih (h.one _ _ (h.it n hx) (h.it n hy) e)
theorem dF {f:Nat->α}:∀ (n:Nat),(∀ i j,i<j->j<n->f i≠f j)->((fc n).map f).Nodup
 | 0,_=>by simp
 | n+1,h=>by
  rw [yw,gq,iT];refine ⟨dF n λ i j a b=>h i j a (by omega),by simp,λ a ha b hb=>?_⟩;obtain ⟨i,hi,rfl⟩:=gi.mp ha;have:b=f n:=by simpa using hb
  subst this;exact h i n (iM.mp hi) (by omega)
theorem Perm.comes {f:α->α} {S:List α} (h:Perm f S) {x:α} (hx:x∈S):∃ k,0<k/\k<=S.length/\Rnd.it f k x=x/\∀ j,0<j->j<k->Rnd.it f j x≠x:=by
 have some:∃ k,0<k/\k<=S.length/\Rnd.it f k x=x:=by
  refine iL λ no=>?_
  have nd:((fc (S.length+1)).map λ i=>Rnd.it f i x).Nodup:=dF _ λ i j hij hj e=>by
   refine no ⟨j-i,by omega,by omega,?_⟩
   have e2:Rnd.it f i (Rnd.it f (j-i) x)=Rnd.it f i x:=by
    rw [<-yB,show i+(j-i)=j by omega];exact e.symm
   exact h.back i (h.it _ hx) hx e2
  have le:=eX nd (l₂:=S) λ y hy=>by
   obtain ⟨i,_,rfl⟩:=gi.mp hy;exact h.it i hx
  rw [aj,iN] at le;omega
 obtain ⟨k0,p0,l0,e0⟩:=some
 have kCD:∀ n,(∃ k,0<k/\k<=n/\Rnd.it f k x=x)->∃ k,0<k/\k<=n/\Rnd.it f k x=x/\∀ j,0<j->j<k->Rnd.it f j x≠x:=λ n=>by
  induction n with
  | zero=>rintro ⟨k,a,b,_⟩;omega
  | succ n ih =>
   intro hk;by_cases c:∃ k,0<k/\k<=n/\Rnd.it f k x=x
   ·obtain ⟨k,a,b,e,m⟩:=ih c
    exact ⟨k,a,by omega,e,m⟩
   ·obtain ⟨k,a,b,e⟩:=hk
    refine ⟨k,a,b,e,λ j j0 jk ej=>c ⟨j,j0,by omega,ej⟩⟩
 exact kCD S.length ⟨k0,p0,l0,e0⟩
theorem Perm.round_nodup {f:α->α} {S:List α} (h:Perm f S) {x:α} (hx:x∈S) {k:Nat} (m:∀ j,0<j->j<k->Rnd.it f j x≠x):((fc k).map λ i=>Rnd.it f i x).Nodup:=dF _ λ i j hij hj e=>by
 refine m (j-i) (by omega) (by omega) ?_
 have e2:Rnd.it f i (Rnd.it f (j-i) x)=Rnd.it f i x:=by
  rw [<-yB,show i+(j-i)=j by omega];exact e.symm
 exact h.back i (h.it _ hx) hx e2
end
def kK (W:Rows):List (Nat×Nat):=(fc W.length).flatMap λ p=>(W.getD p []).map λ q=>(p,q)
theorem mem_steps {W:Rows} {p q:Nat}:(p,q)∈kK W↔E W p q:=by
 unfold kK E;rw [xp];constructor
 ·rintro ⟨p',hp,h⟩
  obtain ⟨q',hq,e⟩:=gi.mp h;cases e
  have hl:=iM.mp hp;refine ⟨W[p],aa hl,?_⟩;simpa [dh,hl] using hq
 ·rintro ⟨row,e,h⟩
  have hl:=(ag.mp e).1;refine ⟨p,iM.mpr hl,gi.mpr ⟨q,?_,rfl⟩⟩;rw [dh,e];exact h
def nxt (W:Rows) (s:Nat×Nat):Nat×Nat:=(s.2,(xO (W.getD s.2 []) s.1).getD 0)
theorem uK {W:Rows} (nd:∀ (p:Nat) (row:List Nat),W[p]?=some row->row.Nodup) (sym:∀ a b,E W a b->E W b a):Perm (nxt W) (kK W):=by
 have look:∀ p q,(p,q)∈kK W->∃ row v,W[q]?=some row/\p∈row/\xO row p=some v/\nxt W (p,q)=(q,v)/\Nx row v p:=λ p q h=>by
  obtain ⟨row,e,m⟩:=sym p q (mem_steps.mp h);obtain ⟨v,hv⟩:=aG m;refine ⟨row,v,e,m,hv,?_,zR (nd q row e) m hv⟩;unfold nxt;rw [dh,e];show (q,(xO row p).getD 0)=(q,v);rw [hv]
  rfl
 refine ⟨λ s h=>?_,λ s t hs ht e=>?_⟩
 ·obtain ⟨p,q⟩:=s
  obtain ⟨row,v,e1,e2,e3,e4,e5⟩:=look p q h;rw [e4];exact mem_steps.mpr ⟨row,e1,(kX e5).1⟩
 ·obtain ⟨p,q⟩:=s
  obtain ⟨p',q'⟩:=t;obtain ⟨row,v,e1,e2,e3,e4,e5⟩:=look p q hs;obtain ⟨row',v',f1,f2,f3,f4,f5⟩:=look p' q' ht;rw [e4,f4] at e;have eq:q=q':=congrArg wu e;have ev:v=v':=congrArg EB e;subst eq ev;rw [e1] at f1;cases f1
  rw [zJ (nd q row e1) e5 f5]
end Rnd
namespace Tri
section
variable {R R':Nat->Nat->Nat->Prop} {N N' K:Nat->Nat->Prop} {inP:Nat->Prop} {f l w:Nat}
end
open Cyc
section
variable {A M C:List Nat} {f l w:Nat}
end
section
variable {L L2:Rows} {A M C:List Nat} {f l:Nat}
end
section
variable {L:Rows} {A M C:List Nat} {f l u:Nat}
end
end Tri
namespace Tri
open Cyc Rnd
section
variable {W:Rows}
theorem kBU {row:List Nat} {p v:Nat} (nd:row.Nodup) (h:Nx row v p):xO row p=some v:=by
 obtain ⟨u,hu⟩:=aG (kX h).2;rw [hu,zU nd h (zR nd (kX h).2 hu)]
theorem uL (nd:∀ (p:Nat) (row:List Nat),W[p]?=some row->row.Nodup) {p q v:Nat} (h:R W q v p):nxt W (p,q)=(q,v):=by
 obtain ⟨row,e,n⟩:=h;unfold nxt;rw [dh,e];show (q,(xO row p).getD 0)=(q,v);rw [kBU (nd q row e) n]
 rfl
theorem dU (nd:∀ (p:Nat) (row:List Nat),W[p]?=some row->row.Nodup):(kK W).Nodup:=by
 unfold kK;rw [AW,Bg];refine ⟨λ p hp=>?_,?_⟩
 ·have hl:=iM.mp hp
  have e:W[p]?=some (W.getD p []):=by rw [dh,aa hl];rfl
  have n:=nd p _ e;refine Fn _ (λ x y (z:x≠y) e=>z (congrArg EB e)) n
 ·refine yx.imp λ {p q} hpq=>?_
  intro x hx y hy e;obtain ⟨_,_,rfl⟩:=gi.mp hx;obtain ⟨_,_,rfl⟩:=gi.mp hy;exact hpq (congrArg wu e)
theorem qQ:∀ (W:Rows) ,(kK W).length=(W.map iP).sum:=by
 intro W;unfold kK;rw [CA]
 congr 1
 refine List.ext_getElem (by simp) λ i h1 h2=>?_;simp at h1 h2;simp [dh,h1]
end
theorem Reach.symm {W:Rows} (sym:∀ a b,E W a b->E W b a) {a b:Nat} (h:Reach W a b):Reach W b a:=by
 induction h with
 | here=>exact .here _
 | more _ e ih=>exact (Reach.more (.here _) (sym _ _ e)).trans ih
structure Ren (L W:Rows) (ns:List Nat):Prop where
 perm:ns.Perm (fc L.length)
 len:W.length=L.length
 at':∀ (p:Nat) (row:List Nat),L[p]?=some row->∃ n A B,ns[p]?=some n/\row.map (λ q=>ns.getD q 0)=A++B/\W[n]?=some (B++A)
section
variable {L W:Rows} {ns:List Nat}
theorem Ren.nlen (h:Ren L W ns):ns.length=L.length:=by rw [h.perm.length_eq,iN]
theorem Ren.get (h:Ren L W ns) {p:Nat} (hp:p<L.length):ns[p]?=some (ns.getD p 0):=by
 rw [dh,aa (by rw [h.nlen];exact hp)]
 rfl
theorem Ren.lt (h:Ren L W ns) {p:Nat} (hp:p<L.length):ns.getD p 0<L.length:=iM.mp (h.perm.mem_iff.mp (dw (h.get hp)))
theorem Ren.inj (h:Ren L W ns) {p q:Nat} (hp:p<L.length) (hq:q<L.length) (e:ns.getD p 0=ns.getD q 0):p=q:=by
 have nd:ns.Nodup:=h.perm.nodup_iff.mpr yx;have h1:=h.get hp;have h2:=h.get hq;rw [e,<-h2] at h1;exact (yc (by rw [h.nlen];exact hp) nd).mp h1
theorem Ren.sur (h:Ren L W ns) {x:Nat} (hx:x<L.length):∃ p,p<L.length/\ns.getD p 0=x:=by
 obtain ⟨p,hp,e⟩:=List.getElem_of_mem (h.perm.mem_iff.mpr (iM.mpr hx));rw [h.nlen] at hp;refine ⟨p,hp,?_⟩;rw [dh,aa (by rw [h.nlen];exact hp),e]
 rfl
theorem Ren.row (h:Ren L W ns) {x:Nat} {row':List Nat} (e:W[x]?=some row'):∃ p row,p<L.length/\L[p]?=some row/\x=ns.getD p 0/\row'.Perm (row.map λ q=>ns.getD q 0)/\∀ a b,Nx row' a b↔Nx (row.map λ q=>ns.getD q 0) a b:=by
 have hx:x<L.length:=by rw [<-h.len];exact (ag.mp e).1
 obtain ⟨p,hp,rfl⟩:=h.sur hx;obtain ⟨n,A,B,e1,e2,e3⟩:=h.at' p _ (aa hp);rw [h.get hp] at e1;cases e1
 rw [e] at e3;cases e3
 refine ⟨p,_,hp,aa hp,rfl,?_,λ a b=>?_⟩
 ·rw [e2];exact jb
 ·rw [e2];exact yA B A a b
theorem Ren.to (h:Ren L W ns) {p:Nat} {row:List Nat} (e:L[p]?=some row):∃ row',W[ns.getD p 0]?=some row'/\row'.Perm (row.map λ q=>ns.getD q 0)/\∀ a b,Nx row' a b↔Nx (row.map λ q=>ns.getD q 0) a b:=by
 have hp:=(ag.mp e).1;obtain ⟨n,A,B,e1,e2,e3⟩:=h.at' p _ e;rw [h.get hp] at e1;cases e1
 exact ⟨_,e3,by rw [e2];exact jb,λ a b=>by rw [e2];exact yA B A a b⟩
theorem Ren.e_to (h:Ren L W ns) {a b:Nat} (r:E L a b):E W (ns.getD a 0) (ns.getD b 0):=by
 obtain ⟨row,e,m⟩:=r;obtain ⟨row',e',pm,_⟩:=h.to e;exact ⟨row',e',pm.mem_iff.mpr (gi.mpr ⟨b,m,rfl⟩)⟩
theorem Ren.e_of (h:Ren L W ns) {a b:Nat} (r:E W a b):∃ x y,E L x y/\a=ns.getD x 0/\b=ns.getD y 0:=by
 obtain ⟨row',e',m⟩:=r;obtain ⟨p,row,hp,e,rfl,pm,_⟩:=h.row e';obtain ⟨y,my,rfl⟩:=gi.mp (pm.mem_iff.mp m);exact ⟨p,y,⟨row,e,my⟩,rfl,rfl⟩
end
def Ro (r r':List Nat):Prop:=∃ A B,r=A++B/\r'=B++A
theorem Ro.refl (r:List Nat):Ro r r:=⟨r,[],by simp,by simp⟩
theorem Ro.symm {r r':List Nat}:Ro r r'->Ro r' r:=λ ⟨A,B,h1,h2⟩=>⟨B,A,h2,h1⟩
theorem Ro.trans {r r' r'':List Nat}:Ro r r'->Ro r' r''->Ro r r'':=by
 rintro ⟨A,B,rfl,rfl⟩ ⟨C,D,h1,rfl⟩;rcases List.append_eq_append_iff.mp h1 with ⟨a,rfl,rfl⟩ | ⟨c,rfl,rfl⟩
 ·exact ⟨a,D++B,by simp,by simp⟩
 ·exact ⟨A++C,c,by simp,by simp⟩
theorem Ro.perm {r r':List Nat}:Ro r r'->r.Perm r':=by
 rintro ⟨A,B,rfl,rfl⟩;exact jb
theorem Ro.mem {r r':List Nat} (h:Ro r r') (x:Nat):x∈r↔x∈r':=h.perm.mem_iff
theorem Ro.nd {r r':List Nat} (h:Ro r r'):r.Nodup↔r'.Nodup:=h.perm.nodup_iff
theorem Ro.nx {r r':List Nat} (h:Ro r r') (a b:Nat):Nx r a b↔Nx r' a b:=by
 obtain ⟨A,B,rfl,rfl⟩:=h;exact yA A B a b
theorem Ro.filter {r r':List Nat} (h:Ro r r') (f:Nat->Bool):Ro (r.filter f) (r'.filter f):=by
 obtain ⟨A,B,rfl,rfl⟩:=h;exact ⟨A.filter f,B.filter f,by simp,by simp⟩
def Can (r:List Nat):Prop:=∀ x∈r,r.headD 0<=x
def rot (row:List Nat) (M:Nat):List Nat:=row.drop (row.idxOf M)++row.take (row.idxOf M)
theorem tZ (row:List Nat) (M:Nat):Ro row (rot row M):=⟨row.take (row.idxOf M),row.drop (row.idxOf M),(iF _ _).symm,rfl⟩
theorem oV {row:List Nat} {M:Nat} (h:M∈row) (hl:∀ i∈row,M<=i):Can (rot row M):=by
 intro x hx;have hx':=hl x (((tZ row M).mem x).mpr hx);have il:=iA h;unfold rot;rw [kr il,xi il];exact hx'
theorem lS {r:List Nat} {q:Nat} (nd:r.Nodup) (h:q∈r):qP r q=r.filter λ x=>x != q:=by
 obtain ⟨A,B,rfl⟩:=vD h
 have n1:q∉A:=λ z=>by
  rw [iT] at nd;exact nd.2.2 q z q (by simp) rfl
 have n2:q∉B:=λ z=>by
  have:=(iT.mp nd).2.1;rw [iX] at this;exact this.1 z
 rw [fZ n1,so,ip]
 have k:∀ X:List Nat,q∉X->X.filter (λ x=>x != q)=X:=λ X hX=>CB.mpr λ x hx=>by
  simp only [bne_iff_ne,ne_eq];exact λ z=>hX (z ▸ hx)
 rw [k A n1,k B n2];simp
theorem lM {r:List Nat} {v q:Nat} {f:Nat->Bool} (hv:v∈r) (hq:f q=false):(qF r v q).filter f=r.filter f:=by
 obtain ⟨A,B,rfl,hA⟩ : ∃ A B,r=A++v::B/\v∉A:=by
  have:=AU hv
  exact ⟨r.take (r.idxOf v),r.drop (r.idxOf v+1),by
   have il:=iA hv
   conv=>lhs;rw [<-iF (r.idxOf v) r]
   rw [kr il,xi il],λ z=>by
   obtain ⟨i,hi,e⟩:=ft.mp z
   have:=BO (p:=(· == v)) (xs:=r) (show i<r.findIdx (· == v) by
    have h:=hi;rw [fb] at h;have:r.idxOf v=r.findIdx (· == v):=rfl;omega)
   rw [An] at e;simp [e] at this⟩
 rw [fV hA,so,so,ip,ip,ip,hq];simp
structure Nb (L:Rows):Prop where
 nd:∀ (p:Nat) (row:List Nat),L[p]?=some row->row.Nodup
 rng:∀ (p:Nat) (row:List Nat) (a:Nat),L[p]?=some row->a∈row->a<L.length/\a≠p
 sym:∀ a b,E L a b->E L b a
structure Wb (L:Rows):Prop extends Nb L where
 three:3<=L.length
 con:∀ p,p<L.length->Reach L 0 p
theorem Nb.e {L:Rows} (S:Nb L) {p q:Nat} (h:E L p q):p<L.length/\q<L.length/\q≠p:=by
 obtain ⟨row,e,m⟩:=h;exact ⟨(ag.mp e).1,(S.rng p row q e m).1,(S.rng p row q e m).2⟩
theorem Nb.len {L:Rows} (S:Nb L) {p:Nat} {row:List Nat} (h:L[p]?=some row):row.length<=L.length:=by
 have:=eX (S.nd p row h) (l₂:=fc L.length) λ x hx=>iM.mpr (S.rng p row x h hx).1;rwa [iN] at this
theorem Wb.of {L:Rows} (G:Good L):Wb L:=⟨⟨G.nd,G.rng,λ a b h=>G.sym h⟩,G.three,G.con⟩
theorem Reach.into {L:Rows} {a b:Nat} (h:Reach L a b) (ne:a≠b):∃ c,E L c b:=by
 cases h with
 | here=>exact absurd rfl ne
 | more _ e=>exact ⟨_,e⟩
theorem Wb.ne {L:Rows} (W:Wb L) {p:Nat} {row:List Nat} (h:L[p]?=some row):row≠[]:=by
 have hp:=(ag.mp h).1;have three:=W.three
 have:∃ c,E L c p:=by
  by_cases z:p=0
  ·subst z
   exact (Reach.symm W.sym (W.con 1 (by omega))).into (by omega)
  ·exact (W.con p hp).into (by omega)
 obtain ⟨c,hc⟩:=this;obtain ⟨row',e,m⟩:=W.sym _ _ hc;rw [h] at e;cases e
 intro z;rw [z] at m;cases m
def zQ (L:Rows) (p q:Nat) (a b:List Nat):Rows:=(L.set p a).set q b
theorem xD (L:Rows) (p q:Nat) (a b:List Nat):(zQ L p q a b).length=L.length:=by simp [zQ]
theorem vP {L:Rows} {p q:Nat} {a b:List Nat} (hp:p<L.length) (hq:q<L.length) (pq:p≠q) (x:Nat):(zQ L p q a b)[x]?=if x=q then some b else if x=p then some a else L[x]?:=by
 unfold zQ;by_cases h1:x=q
 ·subst h1
  rw [fz (by rw [sg];exact hq),if_pos rfl]
 ·rw [di (λ z=>h1 z.symm),if_neg h1]
  by_cases h2:x=p
  ·subst h2
   rw [fz hp,if_pos rfl]
  ·rw [di (λ z=>h2 z.symm),if_neg h2]
theorem tW {L:Rows} (S:Nb L) {p q:Nat} {rp rq a b:List Nat} {c:Prop} (hp:L[p]?=some rp) (hq:L[q]?=some rq) (pq:p≠q) (ha:∀ x,x∈a↔(x∈rp/\x≠q)\/(x=q/\c)) (hb:∀ x,x∈b↔(x∈rq/\x≠p)\/(x=p/\c)) (x y:Nat) :
  E (zQ L p q a b) x y↔(E L x y/\¬ (x=p/\y=q)/\¬ (x=q/\y=p))\/(c/\((x=p/\y=q)\/(x=q/\y=p))):=by
 have lp:p<L.length:=(ag.mp hp).1;have lq:q<L.length:=(ag.mp hq).1;have at':=vP (a:=a) (b:=b) lp lq pq x;constructor
 ·rintro ⟨row,e,m⟩
  rw [at'] at e;by_cases h1:x=q
  ·rw [if_pos h1] at e
   cases e
   rcases (hb y).mp m with ⟨m,n⟩ | ⟨z,hc⟩
   ·exact .inl ⟨⟨rq,by rw [h1];exact hq,m⟩,λ z=>pq (z.1.symm.trans h1),λ z=>n z.2⟩
   ·exact .inr ⟨hc,.inr ⟨h1,z⟩⟩
  ·rw [if_neg h1] at e
   by_cases h2:x=p
   ·rw [if_pos h2] at e
    cases e
    rcases (ha y).mp m with ⟨m,n⟩ | ⟨z,hc⟩
    ·exact .inl ⟨⟨rp,by rw [h2];exact hp,m⟩,λ z=>n z.2,λ z=>h1 z.1⟩
    ·exact .inr ⟨hc,.inl ⟨h2,z⟩⟩
   ·rw [if_neg h2] at e
    exact .inl ⟨⟨row,e,m⟩,λ z=>h2 z.1,λ z=>h1 z.1⟩
 ·intro h
  by_cases h1:x=q
  ·rw [if_pos h1] at at'
   refine ⟨b,at',(hb y).mpr ?_⟩;rcases h with ⟨⟨row,e,m⟩,n1,n2⟩ | ⟨hc,⟨z,_⟩ | ⟨_,z⟩⟩
   ·rw [h1,hq] at e
    cases e
    exact .inl ⟨m,λ z=>n2 ⟨h1,z⟩⟩
   ·exact absurd (z.symm.trans h1) pq
   ·exact .inr ⟨z,hc⟩
  ·rw [if_neg h1] at at'
   by_cases h2:x=p
   ·rw [if_pos h2] at at'
    refine ⟨a,at',(ha y).mpr ?_⟩;rcases h with ⟨⟨row,e,m⟩,n1,n2⟩ | ⟨hc,⟨_,z⟩ | ⟨z,_⟩⟩
    ·rw [h2,hp] at e
     cases e
     exact .inl ⟨m,λ z=>n1 ⟨h2,z⟩⟩
    ·exact .inr ⟨z,hc⟩
    ·exact absurd z h1
   ·rw [if_neg h2] at at'
    rcases h with ⟨⟨row,e,m⟩,n1,n2⟩ | ⟨hc,⟨z,_⟩ | ⟨z,_⟩⟩
    ·exact ⟨row,at'.trans e,m⟩
    ·exact absurd z h2
    ·exact absurd z h1
theorem fP {L:Rows} (S:Nb L) {p q:Nat} {rp rq a b:List Nat} {c:Prop} (hp:L[p]?=some rp) (hq:L[q]?=some rq) (pq:p≠q) (ha:∀ x,x∈a↔(x∈rp/\x≠q)\/(x=q/\c)) (hb:∀ x,x∈b↔(x∈rq/\x≠p)\/(x=p/\c)) (na:a.Nodup) (nb:b.Nodup) :
  Nb (zQ L p q a b):=by
 have lp:p<L.length:=(ag.mp hp).1;have lq:q<L.length:=(ag.mp hq).1;have ee:=tW S hp hq pq ha hb;refine ⟨λ x row e=>?_,λ x row y e m=>?_,λ x y h=>?_⟩
 ·rw [vP lp lq pq] at e
  split at e
  ·cases e;exact nb
  ·split at e
   ·cases e;exact na
   ·exact S.nd x row e
 ·rw [xD]
  rcases (ee x y).mp ⟨row,e,m⟩ with ⟨h,_⟩ | ⟨_,⟨rfl,rfl⟩ | ⟨rfl,rfl⟩⟩
  ·exact ⟨(S.e h).2.1,(S.e h).2.2⟩
  ·exact ⟨lq,pq.symm⟩
  ·exact ⟨lp,pq⟩
 ·rcases (ee x y).mp h with ⟨h,n1,n2⟩ | ⟨hc,z⟩
  ·exact (ee y x).mpr (.inl ⟨S.sym _ _ h,λ z=>n2 ⟨z.2,z.1⟩,λ z=>n1 ⟨z.2,z.1⟩⟩)
  ·refine (ee y x).mpr (.inr ⟨hc,?_⟩)
   rcases z with ⟨h1,h2⟩ | ⟨h1,h2⟩
   ·exact .inr ⟨h2,h1⟩
   ·exact .inl ⟨h2,h1⟩
theorem Reach.sub {L L':Rows} (h:∀ a b,E L a b->E L' a b) {a b:Nat} (r:Reach L a b):Reach L' a b:=by
 induction r with
 | here=>exact .here _
 | more _ e ih=>exact .more ih (h _ _ e)
theorem kLM {L W:Rows} {ns:List Nat} (G:Wb L) (h:Ren L W ns):Wb W:=by
 have sym:∀ a b,E W a b->E W b a:=λ a b r=>by
  obtain ⟨x,y,r',rfl,rfl⟩:=h.e_of r;exact h.e_to (G.sym _ _ r')
 have reach:∀ {x y:Nat},Reach L x y->Reach W (ns.getD x 0) (ns.getD y 0):=λ r=>by
  induction r with
  | here=>exact .here _
  | more _ e ih=>exact .more ih (h.e_to e)
 have from0:∀ x,x<L.length->Reach W (ns.getD 0 0) x:=λ x hx=>by
  obtain ⟨p,hp,rfl⟩:=h.sur hx;exact reach (G.con p hp)
 refine ⟨⟨λ p row' e=>?_,λ p row' a e m=>?_,sym⟩,by rw [h.len];exact G.three,λ p hp=>?_⟩
 ·obtain ⟨x,row,hx,e1,rfl,pm,_⟩:=h.row e
  refine pm.nodup_iff.mpr ?_;rw [AW,kg];exact Er (λ {u v} hu hv z e=>z (h.inj (G.rng _ _ _ e1 hu).1 (G.rng _ _ _ e1 hv).1 e)) (G.nd _ _ e1)
 ·obtain ⟨x,row,hx,e1,rfl,pm,_⟩:=h.row e
  obtain ⟨y,my,rfl⟩:=gi.mp (pm.mem_iff.mp m);obtain ⟨y1,y2⟩:=G.rng _ _ _ e1 my;exact ⟨by rw [h.len];exact h.lt y1,λ e=>y2 (h.inj y1 hx e)⟩
 ·rw [h.len] at hp
  have three:=G.three;exact (from0 0 (by omega)).symm sym |>.trans (from0 p hp)
def key (x y:Nat):Nat×Nat:=(min x y,max x y)
theorem kGR (x y:Nat):key x y=key y x:=by simp [key,Nat.min_comm,Nat.max_comm]
theorem kAV {x y a b:Nat} (h:key x y=key a b):(x=a/\y=b)\/(x=b/\y=a):=by
 have h1:min x y=min a b:=congrArg wu h;have h2:max x y=max a b:=congrArg EB h;rcases Cq x y with c | c
 ·rw [iG c] at h1
  rw [ue c] at h2;rcases Cq a b with d | d
  ·rw [iG d] at h1
   rw [ue d] at h2;exact .inl ⟨h1,h2⟩
  ·rw [ud d] at h1
   rw [xb d] at h2;exact .inr ⟨h1,h2⟩
 ·rw [ud c] at h1
  rw [xb c] at h2;rcases Cq a b with d | d
  ·rw [iG d] at h1
   rw [ue d] at h2;exact .inr ⟨h2,h1⟩
  ·rw [ud d] at h1
   rw [xb d] at h2;exact .inl ⟨h2,h1⟩
structure Plus (W0 W:Rows) (T:List (Nat×Nat)):Prop where
 wb:Wb W
 can:∀ (p:Nat) (row:List Nat),W[p]?=some row->Can row
 len:W.length=W0.length
 nd:T.Nodup
 tie:∀ t∈T,t.1<t.2/\E W t.1 t.2
 row:∀ (p:Nat) (r0 r:List Nat),W0[p]?=some r0->W[p]?=some r->Ro (r.filter λ x=>decide (key p x∉T)) r0
theorem kBC {r:List Nat} {f:Nat->Bool} (h:∀ x∈r,f x=true):r.filter f=r:=CB.mpr h
theorem Plus.start {W:Rows} (h:Wb W) (c:∀ (p:Nat) (row:List Nat),W[p]?=some row->Can row):Plus W W []:=⟨h,c,rfl,.nil,by simp,λ p r0 r e1 e2=>by
 rw [e1] at e2;cases e2
 rw [kBC (by simp)];exact .refl _⟩
theorem fU {r a:List Nat} {v q:Nat} (nd:r.Nodup) (hv:v∈r) (hq:q∉r) (h:Ro (qF r v q) a) (x:Nat):x∈a↔(x∈r/\x≠q)\/(x=q/\True):=by
 rw [<-h.mem,jC hv nd];constructor
 ·rintro (m | rfl)
  ·exact .inl ⟨m,λ z=>hq (z ▸ m)⟩
  ·exact .inr ⟨rfl,trivial⟩
 ·rintro (⟨m,_⟩ | ⟨rfl,_⟩)
  ·exact .inl m
  ·exact .inr rfl
theorem kBZ {r a:List Nat} {q:Nat} (h:Ro (r.filter λ x=>x != q) a) (x:Nat):x∈a↔(x∈r/\x≠q)\/(x=q/\False):=by
 rw [<-h.mem,iC];simp
theorem vA {r:List Nat} {f g:Nat->Bool} (h:∀ x∈r,f x=g x):r.filter f=r.filter g:=List.filter_congr h
theorem Plus.put {W0 W:Rows} {T:List (Nat×Nat)} (h:Plus W0 W T) {p q v w:Nat} {rp rq a b:List Nat} (hp:W[p]?=some rp) (hq:W[q]?=some rq) (pq:p≠q) (hv:v∈rp) (hw:w∈rq) (nE:q∉rp) (ha:Ro (qF rp v q) a) (hb:Ro (qF rq w p) b) (ca:Can a) (cb:Can b) :
  Plus W0 (zQ W p q a b) (T++[key p q]):=by
 have lp:p<W.length:=(ag.mp hp).1;have lq:q<W.length:=(ag.mp hq).1;have S:=h.wb.toNb
 have nE':p∉rq:=λ z=>by
  obtain ⟨r,e,m⟩:=S.sym q p ⟨rq,hq,z⟩;rw [hp] at e;cases e
  exact nE m
 have ia:=fU (S.nd _ _ hp) hv nE ha;have ib:=fU (S.nd _ _ hq) hw nE' hb;have nE1:¬ E W p q:=λ ⟨r,e,m⟩=>by rw [hp] at e;cases e;exact nE m
 have nE2:¬ E W q p:=λ z=>nE1 (S.sym _ _ z);have ee:=tW (c:=True) S hp hq pq ia ib;have sub:∀ x y,E W x y->E (zQ W p q a b) x y:=λ x y z=>(ee x y).mpr (.inl ⟨z,λ ⟨h1,h2⟩=>nE1 (h1 ▸ h2 ▸ z),λ ⟨h1,h2⟩=>nE2 (h1 ▸ h2 ▸ z)⟩);have nb:=fP (c:=True) S hp hq pq ia ib (ha.nd.mp (yU hv (S.nd _ _ hp) nE)) (hb.nd.mp (yU hw (S.nd _ _ hq) nE'))
 have notin:key p q∉T:=λ z=>by
  obtain ⟨h1,h2⟩:=h.tie _ z;simp only [key] at h1 h2;rcases iU p q with l | l
  ·rw [iG (by omega),ue (by omega)] at h2
   exact nE1 h2
  ·rw [ud (by omega),xb (by omega)] at h2
   exact nE2 h2
 refine ⟨⟨nb,by rw [xD];exact h.wb.three,λ x hx=>?_⟩,λ x row e=>?_,by rw [xD];exact h.len,?_,λ t ht=>?_,λ x r0 r e0 e=>?_⟩
 ·rw [xD] at hx
  exact (h.wb.con x hx).sub sub
 ·rw [vP lp lq pq] at e
  split at e
  ·cases e;exact cb
  ·split at e
   ·cases e;exact ca
   ·exact h.can _ _ e
 ·rw [iT]
  exact ⟨h.nd,by simp,λ x hx y hy=>by rw [fw.mp hy];exact λ z=>notin (z ▸ hx)⟩
 ·rcases eY.mp ht with m | m
  ·obtain ⟨h1,h2⟩:=h.tie t m
   exact ⟨h1,sub _ _ h2⟩
  ·rw [fw.mp m]
   refine ⟨by simp only [key];omega,?_⟩;simp only [key];rcases iU p q with l | l
   ·rw [iG (by omega),ue (by omega)]
    exact (ee p q).mpr (.inr ⟨trivial,.inl ⟨rfl,rfl⟩⟩)
   ·rw [ud (by omega),xb (by omega)]
    exact (ee q p).mpr (.inr ⟨trivial,.inr ⟨rfl,rfl⟩⟩)
 ·have same:∀ (x y:Nat),key x y≠key p q->decide (key x y∉T++[key p q])=decide (key x y∉T):=λ x y n=>by
   simp [n]
  have gone:∀ (x y:Nat),key x y=key p q->decide (key x y∉T++[key p q])=false:=λ x y n=>by
   simp [n]
  rw [vP lp lq pq] at e
  split at e
  ·rename_i hx
   subst hx;cases e
   refine (hb.symm.filter _).trans ?_;rw [lM hw (gone x p (kGR _ _)),vA (g:=λ y=>decide (key x y∉T)) λ y hy=>same x y λ z=>?_]
   ·exact h.row x r0 rq e0 hq
   ·rcases kAV z with ⟨z1,z2⟩ | ⟨z1,z2⟩
    ·exact pq z1.symm
    ·rw [z2] at hy;exact nE' hy
  ·split at e
   ·rename_i n1 hx
    subst hx;cases e
    refine (ha.symm.filter _).trans ?_;rw [lM hv (gone x q rfl),vA (g:=λ y=>decide (key x y∉T)) λ y hy=>same x y λ z=>?_]
    ·exact h.row x r0 rp e0 hp
    ·rcases kAV z with ⟨z1,z2⟩ | ⟨z1,z2⟩
     ·rw [z2] at hy;exact nE hy
     ·exact pq z1
   ·rename_i n1 n2
    rw [vA (g:=λ y=>decide (key x y∉T)) λ y hy=>same x y λ z=>?_]
    ·exact h.row x r0 r e0 e
    ·rcases kAV z with ⟨z1,z2⟩ | ⟨z1,z2⟩
     ·exact n2 z1
     ·exact n1 z1
theorem wU {W:Rows} (S:Nb W) {x y:Nat} (h:E W x y):∃ z,R W y z x/\nxt W (x,y)=(y,z)/\E W y z:=by
 obtain ⟨row,e,m⟩:=S.sym _ _ h;obtain ⟨z,n⟩:=kOM m;exact ⟨z,⟨row,e,n⟩,uL S.nd ⟨row,e,n⟩,⟨row,e,(kX n).1⟩⟩
theorem bV {W:Rows} (S:Nb W) {x y:Nat} (h:E W x y) (n:Nat):E W (it (nxt W) n (x,y)).1 (it (nxt W) n (x,y)).2:=by
 have:=(uK S.nd S.sym).it n (mem_steps.mpr h);exact mem_steps.mp this
theorem kMP {α:Type} [DecidableEq α] (f:α->α) (x:α) {k:Nat} (h:it f k x=x) (n:Nat):it f (k*n) x=x:=by
 induction n with
 | zero=>rfl
 | succ n ih=>rw [Nat.mul_succ,yB,h,ih]
theorem aS {α:Type} [DecidableEq α] (f:α->α) (x:α) {k:Nat} (h:it f k x=x) (n:Nat):it f n x=it f (n % k) x:=by
 conv=>lhs;rw [<-Nat.mod_add_div n k]
 rw [yB,kMP f x h]
structure Ins (W W':Rows) (p v q u:Nat):Prop where
 nb:Nb W
 nb':Nb W'
 pq:p≠q
 ne:¬ E W p q
 ep:E W p v
 eq:E W q u
 rp:∃ r r',W[p]?=some r/\W'[p]?=some r'/\Ro (qF r v q) r'
 rq:∃ r r',W[q]?=some r/\W'[q]?=some r'/\Ro (qF r u p) r'
 ro:∀ x,x≠p->x≠q->W'[x]?=W[x]?
theorem Ins.flip {W W':Rows} {p v q u:Nat} (h:Ins W W' p v q u):Ins W W' q u p v:=⟨h.nb,h.nb',h.pq.symm,λ z=>h.ne (h.nb.sym _ _ z),h.eq,h.ep,h.rq,h.rp,λ x a b=>h.ro x b a⟩
theorem Ins.rp' {W W':Rows} {p v q u:Nat} (h:Ins W W' p v q u) (z x:Nat):R W' p z x↔(z=v/\x=q)\/(z=q/\R W p v x)\/(z≠v/\R W p z x):=by
 obtain ⟨r,r',e1,e2,ro⟩:=h.rp
 have hv:v∈r:=by
  obtain ⟨r2,e,m⟩:=h.ep;rw [e1] at e;cases e
  exact m
 have hq:q∉r:=λ m=>h.ne ⟨r,e1,m⟩;have key:=aI hv (h.nb.nd _ _ e1) hq z x;have up:∀ a,R W p a x↔Nx r a x:=λ a=>⟨λ ⟨r2,e,n⟩=>by rw [e1] at e;cases e;exact n,λ n=>⟨r,e1,n⟩⟩;rw [up,up,<-key,ro.nx];exact ⟨λ ⟨r2,e,n⟩=>by rw [e2] at e;cases e;exact n,λ n=>⟨r',e2,n⟩⟩
theorem Ins.at_p {W W':Rows} {p v q u:Nat} (h:Ins W W' p v q u):nxt W' (q,p)=(p,v):=uL h.nb'.nd ((h.rp' v q).mpr (.inl ⟨rfl,rfl⟩))
theorem Ins.to_p {W W':Rows} {p v q u:Nat} (h:Ins W W' p v q u) {x y:Nat} (e:E W x y) (n:nxt W (x,y)=(p,v)):nxt W' (x,y)=(p,q):=by
 obtain ⟨z,r,n',_⟩:=wU h.nb e;rw [n'] at n;cases n
 exact uL h.nb'.nd ((h.rp' q x).mpr (.inr (.inl ⟨rfl,r⟩)))
theorem Ins.other {W W':Rows} {p v q u:Nat} (h:Ins W W' p v q u) {x y:Nat} (e:E W x y) (n1:nxt W (x,y)≠(p,v)) (n2:nxt W (x,y)≠(q,u)):nxt W' (x,y)=nxt W (x,y):=by
 obtain ⟨z,r,n',_⟩:=wU h.nb e;rw [n'] at n1 n2 ⊢;by_cases c:y=p
 ·subst c
  exact uL h.nb'.nd ((h.rp' z x).mpr (.inr (.inr ⟨λ c=>n1 (by rw [c]),r⟩)))
 by_cases c2:y=q
 ·subst c2
  exact uL h.nb'.nd ((h.flip.rp' z x).mpr (.inr (.inr ⟨λ c=>n2 (by rw [c]),r⟩)))
 obtain ⟨r1,e1,x1⟩:=r;exact uL h.nb'.nd ⟨r1,by rw [h.ro y c c2];exact e1,x1⟩
theorem Ins.walk {W W':Rows} {p v q u:Nat} (h:Ins W W' p v q u) {m:Nat} (n1:∀ j,0<j->j<m->it (nxt W) j (p,v)≠(p,v)) (n2:∀ j,j<m->it (nxt W) j (p,v)≠(q,u)):∀ i,i<m->it (nxt W') (i+1) (q,p)=it (nxt W) i (p,v)
 | 0,_=>h.at_p
 | i+1,hi=>by
  have ih:=h.walk n1 n2 i (by omega);show nxt W' (it (nxt W') (i+1) (q,p))=nxt W (it (nxt W) i (p,v));rw [ih];exact h.other (bV h.nb h.ep i) (n1 (i+1) (by omega) hi) (n2 (i+1) hi)
theorem kMQ {W:Rows} (S:Nb W) {p v:Nat} (e:E W p v) {k:Nat} (first:∀ j,0<j->j<k->it (nxt W) j (p,v)≠(p,v)) {i j:Nat} (hi:i<k) (hj:j<k) (z:it (nxt W) i (p,v)=it (nxt W) j (p,v)):i=j:=by
 have lem:∀ i j,i<j->j<k->it (nxt W) i (p,v)≠it (nxt W) j (p,v):=λ i j ij jk z=>by
  refine first (j-i) (by omega) (by omega) ?_
  have e2:it (nxt W) i (it (nxt W) (j-i) (p,v))=it (nxt W) i (p,v):=by
   rw [<-yB,show i+(j-i)=j by omega];exact z.symm
  exact (uK S.nd S.sym).back i ((uK S.nd S.sym).it _ (mem_steps.mpr e)) (mem_steps.mpr e) e2
 rcases yb i j with l | l | l
 ·exact absurd z (lem i j l hj)
 ·exact l
 ·exact absurd z.symm (lem j i l hi)
theorem Ins.faces {W W':Rows} {p v q u k m:Nat} (h:Ins W W' p v q u) (back:it (nxt W) k (p,v)=(p,v)) (first:∀ j,0<j->j<k->it (nxt W) j (p,v)≠(p,v)) (hm:m<k) (em:it (nxt W) m (p,v)=(q,u)) :
  0<m/\(∀ i,i<m->it (nxt W') (i+1) (q,p)=it (nxt W) i (p,v))/\it (nxt W') (m+1) (q,p)=(q,p) /\
  (∀ i,i<k-m->it (nxt W') (i+1) (p,q)=it (nxt W) (m+i) (p,v))/\it (nxt W') (k-m+1) (p,q)=(p,q):=by
 have m0:0<m:=by
  rcases xh m with z | z
  ·subst z
   exact absurd (congrArg wu em) h.pq
  ·exact z
 have inj:=λ {i j:Nat}=>kMQ h.nb h.ep first (i:=i) (j:=j);have w1:=h.walk (m:=m) (λ j a b=>first j a (by omega)) (λ j b z=>by have:=inj (by omega) hm (z.trans em.symm);omega);have sh:∀ i,it (nxt W) i (q,u)=it (nxt W) (i+m) (p,v):=λ i=>by rw [yB,em]
 have w2:=h.flip.walk (m:=k-m) (λ j a b z=>by rw [sh,<-em] at z;have:=inj (by omega) hm z;omega) (λ j b z=>by
  rw [sh] at z;rcases iU (j+m) k with l | l
  ·exact first (j+m) (by omega) l z
  ·omega)
 refine ⟨m0,w1,?_,λ i hi=>by rw [w2 i hi,sh,BM],?_⟩
 ·show nxt W' (it (nxt W') m (q,p))=(q,p)
  rw [show m=(m-1)+1 by omega,w1 (m-1) (by omega)];refine h.flip.to_p (bV h.nb h.ep (m-1)) ?_;have:it (nxt W) ((m-1)+1) (p,v)=(q,u):=by rw [show m-1+1=m by omega];exact em
  exact this
 ·show nxt W' (it (nxt W') (k-m) (p,q))=(p,q)
  rw [show k-m=(k-m-1)+1 by omega,w2 (k-m-1) (by omega),sh];refine h.to_p (bV h.nb h.ep _) ?_;have:it (nxt W) ((k-m-1+m)+1) (p,v)=(p,v):=by rw [show k-m-1+m+1=k by omega];exact back
  exact this
theorem kMS {W:Rows} (S:Nb W) {p v q u:Nat} {rp rq a b:List Nat} (hp:W[p]?=some rp) (hq:W[q]?=some rq) (pq:p≠q) (hv:v∈rp) (hu:u∈rq) (nE:q∉rp) (ha:Ro (qF rp v q) a) (hb:Ro (qF rq u p) b):Ins W (zQ W p q a b) p v q u:=by
 have lp:=(ag.mp hp).1;have lq:=(ag.mp hq).1
 have nE2:p∉rq:=λ z=>by
  obtain ⟨r,e,m⟩:=S.sym q p ⟨rq,hq,z⟩;rw [hp] at e;cases e
  exact nE m
 have N:Nb (zQ W p q a b):=fP (c:=True) S hp hq pq (fU (S.nd _ _ hp) hv nE ha) (fU (S.nd _ _ hq) hu nE2 hb) (ha.nd.mp (yU hv (S.nd _ _ hp) nE)) (hb.nd.mp (yU hu (S.nd _ _ hq) nE2));refine ⟨S,N,pq,λ z=>?_,⟨rp,hp,hv⟩,⟨rq,hq,hu⟩,⟨rp,a,hp,?_,ha⟩,⟨rq,b,hq,?_,hb⟩,λ x n1 n2=>?_⟩
 ·obtain ⟨r,e,m⟩:=z
  rw [hp] at e;cases e
  exact nE m
 ·rw [vP lp lq pq,if_neg pq,if_pos rfl]
 ·rw [vP lp lq pq,if_pos rfl]
 ·rw [vP lp lq pq,if_neg n2,if_neg n1]
end Tri
local macro_rules | `(tactic| walk_at "sort_open gallop")=>`(tactic| delta $(Lean.mkIdent (Lean.mkPrivateNameCore `PySem.Builtin.List.W1All `PySem.Builtin.gallop)):ident)
namespace Srt
set_option autoImplicit false
open PySem PyProof.Rows
def vU:Bool->ay->Array ay->Nat->Nat->Nat->StateT eJ Sem (Option Nat):=sortPriv% PySem.Builtin.gallop
def cJ (left:Bool) (key:ay) (arr:Array ay) (base:Nat) (i:Nat):StateT eJ Sem (Option Bool):=do
 let x <-elem' arr (base+i)
 if left then lt' x key else return (<-lt' key x).map (!·)
section
variable {M:tw} {A:eV} {E:af->ak->Prop} {s:ak}
def kKK (left:Bool) (key:ay) (arr:Array ay) (base n lo0 hi0:Nat):StateT eJ Sem (Option Nat):=do
 let mut lo:=lo0
 let mut hi:=hi0
 for _ in [0:n] do
  if lo >= hi then break
  let m:=lo+(hi-lo) / 2
  let some more <-cJ left key arr base m | return none
  if more then lo:=m+1 else hi:=m
 return some hi
variable {left:Bool} {key:ay} {arr:Array ay} {base n hint:Nat} {Q:Option Nat->eJ->Prop} {st:eJ}
theorem mL (b:Nat->Bool) {lo hi:Nat}
  (hb:∀ i,i<n->∀ Q:Option Bool->eJ->Prop,Q (some (b i)) st->wpS M A E s (cJ left key arr base i) Q st)
  (mono:∀ i j,i<=j->j<n->b j=true->b i=true) (hlh:lo<=hi) (hn:hi<=n) (h1:∀ i,i<lo->b i=true) (h2:∀ i,hi<=i->i<n->b i=false)
  (h:∀ k,k<=n->(∀ i,i<k->b i=true)->(∀ i,k<=i->i<n->b i=false)->Q (some k) st):wpS M A E s (kKK left key arr base n lo hi) Q st:=by
 unfold kKK
 refine bu (qz (iq (I:=λ x c st'=>st'=st/\∃ l r,c=(none,l,r)/\l<=r/\r<=n/\r-l<=n-x/\(∀ i,i<l->b i=true)/\∀ i,r<=i->i<n->b i=false)
  (Q:=λ c st'=>st'=st/\∃ l,c=(none,l,l)/\l<=n/\(∀ i,i<l->b i=true)/\∀ i,l<=i->i<n->b i=false) ?step ?fin ⟨rfl,lo,hi,rfl,hlh,hn,by omega,h1,h2⟩) ?post)
 case post =>
  rintro c st' ⟨rfl,l,rfl,ln,a1,a2⟩;exact cy (h l ln a1 a2)
 case fin =>
  rintro c st' ⟨rfl,l,r,rfl,lr,rn,d,a1,a2⟩;have:l=r:=by omega
  subst this;exact ⟨rfl,l,rfl,rn,a1,a2⟩
 case step =>
  rintro x c st' _ hx ⟨rfl,l,r,rfl,lr,rn,d,a1,a2⟩;dsimp only;by_cases hge:l >= r
  ·rw [if_pos hge]
   have:l=r:=by omega
   subst this;exact cy ⟨rfl,l,rfl,rn,a1,a2⟩
  ·rw [if_neg hge]
   refine bu (hb _ (by omega) _ ?_)
   cases e:b (l+(r-l) / 2)
   case true =>
    simp only [if_true];exact cy ⟨rfl,_,r,rfl,by omega,rn,by omega,λ i hi=>mono i _ (by omega) (by omega) e,a2⟩
   case false =>
    simp only [eD,if_false];refine cy ⟨rfl,l,_,rfl,by omega,by omega,by omega,a1,λ i i1 i2=>?_⟩
    cases z:b i with
    | false=>rfl
    | true=>rw [mono _ i i1 i2 z] at e;cases e
theorem tE (b:Nat->Bool)
  (hb:∀ i,i<n->∀ Q:Option Bool->eJ->Prop,Q (some (b i)) st->wpS M A E s (cJ left key arr base i) Q st)
  (mono:∀ i j,i<=j->j<n->b j=true->b i=true) (hh:hint<n)
  (h:∀ k,k<=n->(∀ i,i<k->b i=true)->(∀ i,k<=i->i<n->b i=false)->Q (some k) st):wpS M A E s (vU left key arr base n hint) Q st:=by
 unfold vU
 walk_at "sort_open gallop"
 dsimp only
 have nf:∀ {i j:Nat},i<=j->j<n->b i=false->b j=false:=λ {i j} h1 h2 e=>by
  cases z:b j with
  | false=>rfl
  | true=>rw [mono i j h1 h2 z] at e;cases e
 refine bu (hb hint hh _ ?_)
 cases e:b hint
 case true =>
  simp only [if_true]
  refine bu (qz (iq (I:=λ x c st'=>st'=st/\∃ l o,c=(none,l,o)/\l<o/\x+1<=o/\hint+l<n/\b (hint+l)=true)
   (Q:=λ c st'=>st'=st/\∃ l o,c=(none,l,o)/\l<o/\hint+l<n/\b (hint+l)=true/\(n-hint<=o\/(hint+o<n/\b (hint+o)=false))) ?step ?fin ⟨rfl,0,1,rfl,by omega,by omega,by omega,e⟩) ?post)
  case fin =>
   rintro c st' ⟨rfl,l,o,rfl,lo,xo,ln,bl⟩;exact ⟨rfl,l,o,rfl,lo,ln,bl,.inl (by omega)⟩
  case step =>
   rintro x c st' _ hx ⟨rfl,l,o,rfl,lo,xo,ln,bl⟩;dsimp only;by_cases hge:o >= n-hint
   ·rw [if_pos hge]
    exact cy ⟨rfl,l,o,rfl,lo,ln,bl,.inl hge⟩
   ·rw [if_neg hge]
    refine bu (hb _ (by omega) _ ?_)
    cases z:b (hint+o)
    case true =>
     simp only [wx,eD,if_false];exact cy ⟨rfl,o,_,rfl,by omega,by omega,by omega,z⟩
    case false =>
     simp only [EC,if_true];exact cy ⟨rfl,l,o,rfl,lo,ln,bl,.inr ⟨by omega,z⟩⟩
  case post =>
   rintro c st' ⟨rfl,l,o,rfl,lo,ln,bl,bo⟩;refine mL (lo:=hint+l+1) (hi:=hint+min o (n-hint)) b hb mono (by omega) (by omega) (λ i hi=>mono i (hint+l) (by omega) ln bl) (λ i i1 i2=>?_) h;rcases bo with z | ⟨z1,z2⟩
   ·omega
   ·exact nf (i:=hint+o) (by omega) i2 z2
 case false =>
  simp only [eD,if_false]
  refine bu (qz (iq (I:=λ x c st'=>st'=st/\∃ l o,c=(none,l,o)/\l<o/\x+1<=o/\l<=hint/\b (hint-l)=false)
   (Q:=λ c st'=>st'=st/\∃ l o,c=(none,l,o)/\l<o/\l<=hint/\b (hint-l)=false/\(hint+1<=o\/(o<=hint/\b (hint-o)=true))) ?step ?fin ⟨rfl,0,1,rfl,by omega,by omega,by omega,e⟩) ?post)
  case fin =>
   rintro c st' ⟨rfl,l,o,rfl,lo,xo,ln,bl⟩;exact ⟨rfl,l,o,rfl,lo,ln,bl,.inl (by omega)⟩
  case step =>
   rintro x c st' _ hx ⟨rfl,l,o,rfl,lo,xo,ln,bl⟩;dsimp only;by_cases hge:o >= hint+1
   ·rw [if_pos hge]
    exact cy ⟨rfl,l,o,rfl,lo,ln,bl,.inl hge⟩
   ·rw [if_neg hge]
    refine bu (hb _ (by omega) _ ?_)
    cases z:b (hint-o)
    case false =>
     simp only [eD,if_false];exact cy ⟨rfl,o,_,rfl,by omega,by omega,by omega,z⟩
    case true =>
     simp only [if_true];exact cy ⟨rfl,l,o,rfl,lo,ln,bl,.inr ⟨by omega,z⟩⟩
  case post =>
   rintro c st' ⟨rfl,l,o,rfl,lo,ln,bl,bo⟩;refine mL (lo:=hint+1-min o (hint+1)) (hi:=hint-l) b hb mono (by omega) (by omega) (λ i hi=>?_) (λ i i1 i2=>nf (i:=hint-l) i1 i2 bl) h;rcases bo with z | ⟨z1,z2⟩
   ·omega
   ·exact mono i (hint-o) (by omega) (by omega) z2
end
end Srt
namespace Srt
set_option autoImplicit false
open PySem PyProof.Rows
section
variable {α:Type}
structure Wk (lb:α->α->Bool):Prop where
 irr:∀ a,lb a a=false
 neg:∀ a b c,lb a c=true->lb a b=true\/lb b c=true
 tr:∀ a b c,lb a b=true->lb b c=true->lb a c=true
variable {lb:α->α->Bool}
def le (lb:α->α->Bool) (a b:α):Prop:=lb b a=false
theorem Wk.refl (W:Wk lb) (a:α):le lb a a:=W.irr a
theorem Wk.of_lt (W:Wk lb) {a b:α} (h:lb a b=true):le lb a b:=by
 unfold le
 cases e:lb b a with
 | false=>rfl
 | true=>have:=W.tr _ _ _ h e;rw [W.irr] at this;cases this
theorem Wk.trans (W:Wk lb) {a b c:α} (h:le lb a b) (k:le lb b c):le lb a c:=by
 unfold le at *
 cases e:lb c a with
 | false=>rfl
 | true =>
  rcases W.neg c b a e with z | z
  ·rw [k] at z;cases z
  ·rw [h] at z;cases z
def qY (lb:α->α->Bool) (l:List α):Prop:=l.Pairwise (le lb)
structure Mg (lb:α->α->Bool) (A B:List α) (out ra rb:List α):Prop where
 sa:qY lb (out++ra)
 sb:qY lb (out++rb)
 pm:(out++(ra++rb)).Perm (A++B)
theorem Mg.moveA {A B out c ra rb:List α} (h:Mg lb A B out (c++ra) rb) (hc:∀ x∈c,∀ y∈rb,le lb x y):Mg lb A B (out++c) ra rb:=by
 refine ⟨by rw [eh];exact h.sa,?_,?_⟩
 ·have h1:=eE.mp h.sa
  have h2:=eE.mp h.sb;have h3:=eE.mp h1.2.1;rw [qY,eh];refine eE.mpr ⟨h1.1,eE.mpr ⟨h3.1,h2.2.1,hc⟩,λ x hx y hy=>?_⟩;rcases eY.mp hy with z | z
  ·exact h1.2.2 x hx y (iJ _ z)
  ·exact h2.2.2 x hx y z
 ·refine ql ?_ h.pm
  simp only [eh];exact yd _
theorem Mg.swap {A B out ra rb:List α} (h:Mg lb A B out ra rb):Mg lb B A out rb ra :=
 ⟨h.sb,h.sa,((jb).append_left out).trans (h.pm.trans jb)⟩
theorem Mg.moveB {A B out c ra rb:List α} (h:Mg lb A B out ra (c++rb)) (hc:∀ x∈c,∀ y∈ra,le lb x y):Mg lb A B (out++c) ra rb:=(h.swap.moveA hc).swap
def Res (lb:α->α->Bool) (A B r:List α):Prop:=qY lb r/\r.Perm (A++B)
theorem Mg.endA {A B out ra:List α} (h:Mg lb A B out ra []):Res lb A B (out++ra++[]):=⟨by simpa using h.sa,by simpa using h.pm⟩
theorem Mg.endB {A B out rb:List α} (h:Mg lb A B out [] rb):Res lb A B (out++[]++rb):=⟨by simpa using h.sb,by simpa using h.pm⟩
theorem Mg.last {A B out rb:List α} {z:α} (h:Mg lb A B out [z] rb) (hz:∀ y∈rb,le lb y z):Res lb A B (out++rb++[z]):=by
 refine ⟨?_,?_⟩
 ·have h1:=eE.mp h.sa
  have h2:=eE.mp h.sb;refine eE.mpr ⟨h.sb,ki _ _,λ x hx y hy=>?_⟩;have:y=z:=by simpa using hy
  subst this;rcases eY.mp hx with w | w
  ·exact h1.2.2 x w y (by simp)
  ·exact hz x w
 ·refine ql ?_ h.pm
  rw [eh];exact jb.append_left out
end
def lH:Array ay->Array ay->StateT eJ Sem (Array ay):=sortPriv% PySem.Builtin.mergeLo
def xS:Nat->StateT eJ Sem Unit:=sortPriv% PySem.Builtin.setMinGallop
abbrev wW (st:eJ) (g:Nat):eJ:=BP (kindOf st) (cw st) (cv st) g (rf st)
theorem setMinGallop'_eq (g:Nat):xS g=modify λ s=>wW s g:=rfl
end Srt
local macro_rules | `(tactic| walk_at "sort_open mergeLo")=>`(tactic| delta $(Lean.mkIdent (Lean.mkPrivateNameCore `PySem.Builtin.List.W1All `PySem.Builtin.mergeLo)):ident)
namespace Srt
set_option autoImplicit false
open PySem PyProof.Rows
section
variable {M:tw} {A:eV} {E:af->ak->Prop} {s:ak} {lb:ay->ay->Bool} {D:ay->Prop} {kd:jx}
def uY (M:tw) (A:eV) (E:af->ak->Prop) (s:ak) (lb:ay->ay->Bool) (D:ay->Prop) (kd:jx):Prop :=
 ∀ x y,D x->D y->∀ (st:eJ) (Q:Option Bool->eJ->Prop),kindOf st=kd->Q (some (lb x y)) st->wpS M A E s (lt' x y) Q st
theorem qD {arr:Array ay} {i:Nat} {p:ay} {Q:ay->eJ->Prop} {st:eJ} (h:arr[i]?=some p) (q:Q p st):wpS M A E s (elem' arr i) Q st:=by
 rw [elem'_eq,h];exact cy q
def Sm (st st':eJ):Prop:=kindOf st'=kindOf st/\cw st'=cw st/\cv st'=cv st/\rf st'=rf st
theorem Sm.refl (st:eJ):Sm st st:=⟨rfl,rfl,rfl,rfl⟩
theorem Sm.gal {st st':eJ} (h:Sm st st') (g:Nat):Sm st (wW st' g):=h
theorem vC {x:String} {Q:Unit->eJ->Prop} {st:eJ} (q:Q () st):wpS M A E s (liftM (rule x):StateT eJ Sem Unit) Q st:=wpS_lift (yo ⟨rfl,q⟩)
theorem tG (hL:uY M A E s lb D kd) {left:Bool} {key x:ay} {arr:Array ay} {base i:Nat} {Q:Option Bool->eJ->Prop} {st:eJ} (hk:kindOf st=kd) (hx:arr[base+i]?=some x) (dk:D key) (dx:D x)
  (q:Q (some (if left then lb x key else !lb key x)) st):wpS M A E s (cJ left key arr base i) Q st:=by
 unfold cJ;refine bu (qD hx ?_)
 cases left with
 | true =>
  simp only [if_true] at q ⊢;exact hL _ _ dx dk st _ hk q
 | false =>
  simp only [eD,if_false] at q ⊢;exact bu (hL _ _ dk dx st _ hk (cy q))
theorem uZ (W:Wk lb) (hL:uY M A E s lb D kd) {left:Bool} {key:ay} {arr:Array ay} {base n hint:Nat} {Q:Option Nat->eJ->Prop} {st:eJ} (hk:kindOf st=kd) (dk:D key) (da:∀ x∈arr.toList,D x)
  (hn:base+n<=arr.size) (hs:∀ i j (hi:i<=j) (hj:j<n),le lb (arr[base+i]'(by omega)) (arr[base+j]'(by omega))) (hh:hint<n)
  (h:∀ k,k<=n->(∀ i (hi:i<k) (hin:i<n),if left then lb (arr[base+i]'(by omega)) key=true else le lb (arr[base+i]'(by omega)) key) ->
   (∀ i (hi:k<=i) (hin:i<n),if left then le lb key (arr[base+i]'(by omega)) else lb key (arr[base+i]'(by omega))=true)->Q (some k) st):wpS M A E s (vU left key arr base n hint) Q st:=by
 have g:∀ i,i<n->arr[base+i]?=some (arr.getD (base+i) key):=λ i hi=>by
  rw [getElem?_pos arr (base+i) (by omega)]
  congr 1
  simp [Fi,show base+i<arr.size by omega]
 have ge:∀ i (hi:i<n),arr.getD (base+i) key=arr[base+i]'(by omega):=λ i hi=>by simp [Fi,show base+i<arr.size by omega]
 refine tE (λ i=>if left then lb (arr.getD (base+i) key) key else !lb key (arr.getD (base+i) key)) (λ i hi Q q=>tG hL hk (g i hi) dk (by rw [ge i hi];exact da _ (by simp)) q) (λ i j hi hj e=>?_) hh (λ k kn h1 h2=>h k kn (λ i hi hin=>?_) (λ i hi hin=>?_))
 ·have:=hs i j hi hj
  rw [ge i (by omega)];rw [ge j hj] at e
  cases left with
  | true =>
   simp only [if_true] at e ⊢;rcases W.neg _ (arr[base+i]'(by omega)) _ e with z | z
   ·rw [show lb _ _=false from this] at z;cases z
   ·exact z
  | false =>
   simp only [eD,if_false,Ao] at e ⊢;exact W.trans (lb:=lb) this (show le lb _ _ from e)
 ·have:=h1 i hi
  rw [ge i hin] at this
  cases left with
  | true=>simpa using this
  | false=>simp only [eD,if_false,Ao] at this ⊢;exact this
 ·have:=h2 i hi hin
  rw [ge i hin] at this
  cases left with
  | true=>simp only [if_true] at this ⊢;exact this
  | false=>simp only [eD,if_false,Bool.not_eq_false'] at this ⊢;exact this
abbrev LS:=Option (Array ay)×Array ay×Nat×Nat×Nat×Nat×Nat
section
variable (a b:Array ay)
def pC (out:Array ay) (ia ib g k k1:Nat):StateT eJ Sem (ForInStep LS):=do
 let x <-elem' a ia
 if (ia+1+1 == a.size)=true then pure (.done (some (out.push x++b.extract ib++a.extract (ia+1)),out.push x,ia+1,ib,g,k,k1))
 else if (decide (k<7) && decide (k1<7))=true then pure (.done (none,out.push x,ia+1,ib,g,k,k1)) else pure (.yield (none,out.push x,ia+1,ib,g,k,k1))
def pB (out:Array ay) (ia ib g k ob:Nat):StateT eJ Sem (ForInStep LS):=do
 let y <-elem' b ib
 if (ib+1 == b.size)=true then pure (.done (some (out.push y++a.extract ia++b.extract (ib+1)),out.push y,ia,ib+1,g,k,ob))
 else do
  let x <-elem' a ia
  let r <-vU true x b (ib+1) (b.size-(ib+1)) 0
  match r with
  | some k1 =>
   if k1>0 then
    if (ib+1+k1 == b.size)=true then pure (.done (some (out.push y++b.extract (ib+1) (ib+1+k1)++a.extract ia++b.extract (ib+1+k1)),out.push y++b.extract (ib+1) (ib+1+k1),ia,ib+1+k1,g,k,k1))
    else pC a b (out.push y++b.extract (ib+1) (ib+1+k1)) ia (ib+1+k1) g k k1
   else pC a b (out.push y) ia (ib+1) g k k1
  | x=>pure (.done (some (out.push y++a.extract ia++b.extract (ib+1)),out.push y,ia,ib+1,g,k,ob))
def pA (out:Array ay) (ia ib g oa ob:Nat):StateT eJ Sem (ForInStep LS):=do
 xS g
 let y <-elem' b ib
 let r <-vU false y a ia (a.size-ia) 0
 match r with
 | some k =>
  if k>0 then
   if (ia+k+1 == a.size)=true then pure (.done (some (out++a.extract ia (ia+k)++b.extract ib++a.extract (ia+k)),out++a.extract ia (ia+k),ia+k,ib,g,k,ob))
   else if (ia+k == a.size)=true then pure (.done (some (out++a.extract ia (ia+k)++a.extract (ia+k)++b.extract ib),out++a.extract ia (ia+k),ia+k,ib,g,k,ob))
   else pB a b (out++a.extract ia (ia+k)) (ia+k) ib g k ob
  else pB a b out ia ib g k ob
 | x=>pure (.done (some (out++a.extract ia++b.extract ib),out,ia,ib,g,oa,ob))
abbrev LS1:=Option (Array ay)×Array ay×Nat×Nat×Nat×Nat
def p1 (mg:Nat) (c:LS1):StateT eJ Sem (ForInStep LS1):=do
 let y <-elem' b c.2.2.2.1
 let x <-elem' a c.2.2.1
 let r <-lt' y x
 match r with
 | some bw =>
  if bw=true then do
   let y <-elem' b c.2.2.2.1
   if (c.2.2.2.1+1 == b.size)=true then pure (.done (some (c.2.1.push y++a.extract c.2.2.1++b.extract (c.2.2.2.1+1)),c.2.1.push y,c.2.2.1,c.2.2.2.1+1,0,c.2.2.2.2.2+1))
   else if c.2.2.2.2.2+1 >= mg then pure (.done (none,c.2.1.push y,c.2.2.1,c.2.2.2.1+1,0,c.2.2.2.2.2+1))
   else pure (.yield (none,c.2.1.push y,c.2.2.1,c.2.2.2.1+1,0,c.2.2.2.2.2+1))
  else do
   let x <-elem' a c.2.2.1
   if (c.2.2.1+1+1 == a.size)=true then pure (.done (some (c.2.1.push x++b.extract c.2.2.2.1++a.extract (c.2.2.1+1)),c.2.1.push x,c.2.2.1+1,c.2.2.2.1,c.2.2.2.2.1+1,0))
   else if c.2.2.2.2.1+1 >= mg then pure (.done (none,c.2.1.push x,c.2.2.1+1,c.2.2.2.1,c.2.2.2.2.1+1,0))
   else pure (.yield (none,c.2.1.push x,c.2.2.1+1,c.2.2.2.1,c.2.2.2.2.1+1,0))
 | x=>pure (.done (some (c.2.1++a.extract c.2.2.1++b.extract c.2.2.2.1),c.2.1,c.2.2.1,c.2.2.2.1,c.2.2.2.2.1,c.2.2.2.2.2))
abbrev LS0:=Option (Array ay)×Array ay×Nat×Nat×Nat
def p0 (c:LS0):StateT eJ Sem (ForInStep LS0):=do
 let d <-forIn [:a.size+b.size] ((none,c.2.1,c.2.2.1,c.2.2.2.1,0,0):LS1) λ x d=>p1 a b c.2.2.2.2 d
 match d.1 with
 | some r=>pure (.done (some r,d.2.1,d.2.2.1,d.2.2.2.1,c.2.2.2.2))
 | none=>do
  liftM (rule "list.sort.gallop")
  let f <-forIn [:a.size+b.size] ((none,d.2.1,d.2.2.1,d.2.2.2.1,c.2.2.2.2+1,d.2.2.2.2.1,d.2.2.2.2.2):LS) λ x f =>
   if f.2.2.2.2.1>1 then pA a b f.2.1 f.2.2.1 f.2.2.2.1 (f.2.2.2.2.1-1) f.2.2.2.2.2.1 f.2.2.2.2.2.2 else pA a b f.2.1 f.2.2.1 f.2.2.2.1 f.2.2.2.2.1 f.2.2.2.2.2.1 f.2.2.2.2.2.2
  match f.1 with
  | some r=>pure (.done (some r,f.2.1,f.2.2.1,f.2.2.2.1,f.2.2.2.2.1))
  | none=>do
   xS (f.2.2.2.2.1+1)
   pure (.yield (none,f.2.1,f.2.2.1,f.2.2.2.1,f.2.2.2.2.1+1))
theorem mergeLo'_parts:lH a b=(do
  liftM (rule "list.sort.merge-lo")
  let y <-elem' b 0
  if (1 == b.size)=true then pure (#[y]++a.extract 0++b.extract 1)
  else if (0+1 == a.size)=true then pure (#[y]++b.extract 1++a.extract 0)
  else do
   let st <-get
   let c <-forIn [:a.size+b.size] ((none,#[y],0,1,gallopOf st):LS0) λ x c=>p0 a b c
   match c.1 with
   | some r=>pure r
   | none=>unsupported "internal:list.sort.merge-bound"):=by
 unfold lH
 walk_at "sort_open mergeLo"
 dsimp only;refine congrArg _ (funext λ _=>?_);refine congrArg _ (funext λ y=>?_);refine congrArg _ ?_;refine congrArg _ ?_;refine congrArg _ (funext λ st=>?_);refine congr (congrArg _ (congrArg _ (funext λ x=>funext λ c=>?_))) (funext λ c=>by cases c.1<;>rfl);unfold p0;refine congr (congrArg _ (congrArg _ (funext λ x=>funext λ d=>?_))) (funext λ d=>?_)
 ·unfold p1
  refine congrArg _ (funext λ _=>?_);refine congrArg _ (funext λ _=>?_);refine congrArg _ (funext λ r=>?_);cases r<;>rfl
 ·cases d.1 with
  | some r=>rfl
  | none =>
   dsimp only;refine congrArg _ (funext λ _=>?_);refine congr (congrArg _ (congrArg _ (funext λ x=>funext λ f=>?_))) (funext λ f=>by cases f.1<;>rfl);have tail:∀ (out:Array ay) (ia ib g k ob:Nat),True:=λ _ _ _ _ _ _=>trivial;refine ite_congr rfl (λ _=>?_) (λ _=>?_)
   all_goals
    unfold pA;refine congrArg _ (funext λ _=>?_);refine congrArg _ (funext λ y=>?_);refine congrArg _ (funext λ r=>?_)
    cases r with
    | none=>rfl
    | some k =>
     dsimp only;refine ite_congr rfl (λ _=>ite_congr rfl (λ _=>rfl) (λ _=>ite_congr rfl (λ _=>rfl) (λ _=>?_))) (λ _=>?_)
     all_goals
      unfold pB;refine congrArg _ (funext λ y=>?_);refine ite_congr rfl (λ _=>rfl) (λ _=>?_);refine congrArg _ (funext λ x=>?_);refine congrArg _ (funext λ r=>?_);cases r<;>rfl
end
end
end Srt
namespace Srt
set_option autoImplicit false
open PySem PyProof.Rows
section
variable {α:Type}
theorem vK (a:Array α) (i:Nat):(a.extract i).toList=a.toList.drop i:=by
 rw [rg,ky];exact jt (by simp)
theorem xM (a:Array α) (i k:Nat):(a.extract i (i+k)).toList=(a.toList.drop i).take k:=by
 rw [rg,ky]
 congr 1
 omega
theorem xV {a:Array α} {i:Nat} (h:i<a.size):a.toList.drop i=[a[i]]++a.toList.drop (i+1):=by
 rw [kr (by simpa using h)]
 rfl
theorem kBE (l:List α) (i k:Nat):l.drop i=(l.drop i).take k++l.drop (i+k):=by
 conv=>lhs;rw [<-iF k (l.drop i)]
 rw [AX]
end
section
variable {M:tw} {A:eV} {E:af->ak->Prop} {s:ak} {lb:ay->ay->Bool} {D:ay->Prop} {kd:jx} {a b:Array ay}
structure Hy (M:tw) (A:eV) (E:af->ak->Prop) (s:ak) (lb:ay->ay->Bool) (D:ay->Prop) (kd:jx) (a b:Array ay):Prop where
 W:Wk lb
 L:uY M A E s lb D kd
 da:∀ x∈a.toList,D x
 db:∀ x∈b.toList,D x
 sa:qY lb a.toList
 sb:qY lb b.toList
 last:∀ (h:0<a.size),∀ y∈b.toList,le lb y a[a.size-1]
def MI (lb:ay->ay->Bool) (a b:Array ay) (out:Array ay) (ia ib:Nat):Prop :=
 Mg lb a.toList b.toList out.toList (a.toList.drop ia) (b.toList.drop ib)/\ia+1<a.size/\ib<b.size/\out.size=ia+ib
def Yd (lb:ay->ay->Bool) (a b:Array ay) (n:Nat) {γ:Type} (c:Option (Array ay)×Array ay×Nat×Nat×γ):Prop:=c.1=none/\MI lb a b c.2.1 c.2.2.1 c.2.2.2.1/\n<=c.2.1.size
def Dn (lb:ay->ay->Bool) (a b:Array ay) (n:Nat) {γ:Type} (c:Option (Array ay)×Array ay×Nat×Nat×γ):Prop:=(∃ r,c.1=some r/\Res lb a.toList b.toList r.toList)\/Yd lb a b n c
def RR (lb:ay->ay->Bool) (a b:Array ay) (n:Nat) {γ:Type}:ForInStep (Option (Array ay)×Array ay×Nat×Nat×γ)->Prop
 | .done c=>Dn lb a b n c
 | .yield c=>Yd lb a b n c
theorem wV (W:Wk lb) {a:Array ay} (h:qY lb a.toList) {i j:Nat} (hij:i<=j) (hj:j<a.size):le lb (a[i]'(by omega)) a[j]:=by
 by_cases e:i=j
 ·subst e;exact W.refl _
 ·have:=kl.mp h i j (by simp;omega) (by simp;omega) (by omega)
  simpa using this
theorem zL {a:Array ay} {i:Nat} {x:ay} (h:x∈a.toList.drop i):∃ j,∃ hj:j<a.size,i<=j/\x=a[j]:=by
 obtain ⟨k,hk,e⟩:=ft.mp h;rw [iV] at hk;refine ⟨i+k,by simp at hk;omega,by omega,?_⟩;rw [<-e,Ap];simp
theorem kCN {out:Array ay} {ia ib:Nat} (h:Mg lb a.toList b.toList out.toList (a.toList.drop ia) (b.toList.drop ib)) (e:ib=b.size):Res lb a.toList b.toList (out++a.extract ia++b.extract ib).toList:=by
 rw [gn,gn,vK,vK];have z:b.toList.drop ib=[]:=ju (by simp;omega);rw [z] at h ⊢;exact h.endA
theorem kOW {out:Array ay} {ia ib:Nat} (h:Mg lb a.toList b.toList out.toList (a.toList.drop ia) (b.toList.drop ib)) (e:ia=a.size):Res lb a.toList b.toList (out++a.extract ia++b.extract ib).toList:=by
 rw [gn,gn,vK,vK];have z:a.toList.drop ia=[]:=ju (by simp;omega);rw [z] at h ⊢;exact h.endB
theorem cH (H:Hy M A E s lb D kd a b) {out:Array ay} {ia ib:Nat} (h:Mg lb a.toList b.toList out.toList (a.toList.drop ia) (b.toList.drop ib)) (e:ia+1=a.size):Res lb a.toList b.toList (out++b.extract ib++a.extract ia).toList:=by
 rw [gn,gn,vK,vK]
 have z:a.toList.drop ia=[a[a.size-1]'(by omega)]:=by
  rw [xV (show ia<a.size by omega),ju (by simp;omega)];simp only [ir]
  congr 2
  omega
 rw [z] at h ⊢;exact h.last λ y hy=>H.last (by omega) y (List.mem_of_mem_drop hy)
theorem tR (H:Hy M A E s lb D kd a b) {out:Array ay} {ia ib:Nat} (ha:ia<a.size) (hb:ib<b.size) (h:Mg lb a.toList b.toList out.toList (a.toList.drop ia) (b.toList.drop ib)) (c:le lb b[ib] a[ia]):Mg lb a.toList b.toList (out.push b[ib]).toList (a.toList.drop ia) (b.toList.drop (ib+1)):=by
 rw [xV hb] at h;rw [rh];refine h.moveB λ x hx y hy=>?_;have:x=b[ib]:=by simpa using hx
 subst this;obtain ⟨j,hj,ij,rfl⟩:=zL hy;exact H.W.trans c (wV H.W H.sa ij hj)
theorem kFK (H:Hy M A E s lb D kd a b) {out:Array ay} {ia ib:Nat} (ha:ia<a.size) (h:Mg lb a.toList b.toList out.toList (a.toList.drop ia) (b.toList.drop ib)) (c:∀ y∈b.toList.drop ib,le lb a[ia] y):Mg lb a.toList b.toList (out.push a[ia]).toList (a.toList.drop (ia+1)) (b.toList.drop ib):=by
 rw [xV ha] at h;rw [rh];refine h.moveA λ x hx y hy=>?_;have:x=a[ia]:=by simpa using hx
 subst this;exact c y hy
theorem kPA (H:Hy M A E s lb D kd a b) {ib:Nat} {x:ay} (hb:ib<b.size) (c:le lb x b[ib]):∀ y∈b.toList.drop ib,le lb x y:=λ y hy=>by
 obtain ⟨j,hj,ij,rfl⟩:=zL hy;exact H.W.trans c (wV H.W H.sb ij hj)
theorem kKS (H:Hy M A E s lb D kd a b) {st:eJ} (hk:kindOf st=kd) {out:Array ay} {ia ib u v mg:Nat} (h:MI lb a b out ia ib) {Q:ForInStep LS1->eJ->Prop}
  (q:∀ r,RR lb a b (out.size+1) r->Q r st):wpS M A E s (p1 a b mg (none,out,ia,ib,u,v)) Q st:=by
 obtain ⟨m,h1,h2,h3⟩:=h;have ha:ia<a.size:=by omega
 unfold p1;dsimp only;refine bu (qD (getElem?_pos b ib h2) ?_);refine bu (qD (getElem?_pos a ia ha) ?_);refine bu (H.L _ _ (H.db _ (by simp)) (H.da _ (by simp)) st _ hk ?_)
 cases e:lb b[ib] a[ia]
 case true =>
  simp only [if_true];refine bu (qD (getElem?_pos b ib h2) ?_);have m':=tR H ha h2 m (H.W.of_lt e);by_cases c:ib+1=b.size
  ·rw [if_pos (by simpa using c)]
   exact cy (q _ (.inl ⟨_,rfl,kCN m' c⟩))
  ·rw [if_neg (by simpa using c)]
   have y:Yd lb a b (out.size+1) (none,out.push b[ib],ia,ib+1,(0,v+1)):=⟨rfl,⟨m',h1,by show ib+1<b.size;omega,by show (out.push b[ib]).size=ia+(ib+1);rw [iS];omega⟩,by show out.size+1<=(out.push b[ib]).size;rw [iS];omega⟩
   split
   ·exact cy (q _ (.inr y))
   ·exact cy (q _ y)
 case false =>
  simp only [eD,if_false];refine bu (qD (getElem?_pos a ia ha) ?_);have m':=kFK H ha m (kPA H h2 e);by_cases c:ia+1+1=a.size
  ·rw [if_pos (by simpa using c)]
   exact cy (q _ (.inl ⟨_,rfl,cH H m' c⟩))
  ·rw [if_neg (by simpa using c)]
   have y:Yd lb a b (out.size+1) (none,out.push a[ia],ia+1,ib,(u+1,0)):=⟨rfl,⟨m',by show ia+1+1<a.size;omega,h2,by show (out.push a[ia]).size=ia+1+ib;rw [iS];omega⟩,by show out.size+1<=(out.push a[ia]).size;rw [iS];omega⟩
   split
   ·exact cy (q _ (.inr y))
   ·exact cy (q _ y)
end
end Srt
namespace Srt
set_option autoImplicit false
open PySem PyProof.Rows
section
variable {M:tw} {A:eV} {E:af->ak->Prop} {s:ak} {lb:ay->ay->Bool} {D:ay->Prop} {kd:jx} {a b:Array ay}
theorem wQ {a:Array ay} {i k:Nat} {x:ay} (h:x∈(a.toList.drop i).take k):∃ j,∃ hj:i+j<a.size,j<k/\x=a[i+j]:=by
 obtain ⟨j,hj,e⟩:=ft.mp h;rw [fb,iV] at hj;refine ⟨j,by simp at hj;omega,by omega,?_⟩;rw [<-e,An,Ap];simp
theorem kJS {out:Array ay} {ia ib k:Nat} (h:Mg lb a.toList b.toList out.toList (a.toList.drop ia) (b.toList.drop ib)) (c:∀ x∈(b.toList.drop ib).take k,∀ y∈a.toList.drop ia,le lb x y):Mg lb a.toList b.toList (out++b.extract ib (ib+k)).toList (a.toList.drop ia) (b.toList.drop (ib+k)):=by
 rw [gn,xM];rw [kBE b.toList ib k] at h;exact h.moveB c
theorem kJT {out:Array ay} {ia ib k:Nat} (h:Mg lb a.toList b.toList out.toList (a.toList.drop ia) (b.toList.drop ib)) (c:∀ x∈(a.toList.drop ia).take k,∀ y∈b.toList.drop ib,le lb x y):Mg lb a.toList b.toList (out++a.extract ia (ia+k)).toList (a.toList.drop (ia+k)) (b.toList.drop ib):=by
 rw [gn,xM];rw [kBE a.toList ia k] at h;exact h.moveA c
theorem kEV (H:Hy M A E s lb D kd a b) {st:eJ} {out:Array ay} {ia ib g k k1 n:Nat} (h:MI lb a b out ia ib) (hn:n<=out.size+1) (c:∀ (hh:ia<a.size),∀ y∈b.toList.drop ib,le lb a[ia] y) {Q:ForInStep LS->eJ->Prop}
  (q:∀ r,RR lb a b n r->Q r st):wpS M A E s (pC a b out ia ib g k k1) Q st:=by
 obtain ⟨m,h1,h2,h3⟩:=h;have ha:ia<a.size:=by omega
 unfold pC;refine bu (qD (getElem?_pos a ia ha) ?_);have m':=kFK H ha m (c ha);by_cases e:ia+1+1=a.size
 ·rw [if_pos (by simpa using e)]
  exact cy (q _ (.inl ⟨_,rfl,cH H m' e⟩))
 ·rw [if_neg (by simpa using e)]
  have y:Yd lb a b n (none,out.push a[ia],ia+1,ib,(g,k,k1)):=⟨rfl,⟨m',by show ia+1+1<a.size;omega,h2,by show (out.push a[ia]).size=ia+1+ib;rw [iS];omega⟩,by show n<=(out.push a[ia]).size;rw [iS];omega⟩
  split
  ·exact cy (q _ (.inr y))
  ·exact cy (q _ y)
theorem kEW (H:Hy M A E s lb D kd a b) {st:eJ} (hk:kindOf st=kd) {out:Array ay} {ia ib g k ob n:Nat} (h:MI lb a b out ia ib) (hn:n<=out.size+1) (c:∀ (ha:ia<a.size) (hb:ib<b.size),le lb b[ib] a[ia]) {Q:ForInStep LS->eJ->Prop}
  (q:∀ r,RR lb a b n r->Q r st):wpS M A E s (pB a b out ia ib g k ob) Q st:=by
 obtain ⟨m,h1,h2,h3⟩:=h;have ha:ia<a.size:=by omega
 unfold pB;refine bu (qD (getElem?_pos b ib h2) ?_);have m':=tR H ha h2 m (c ha h2);have sz:(out.push b[ib]).size=ia+(ib+1):=by rw [iS];omega
 by_cases e:ib+1=b.size
 ·rw [if_pos (by simpa using e)]
  exact cy (q _ (.inl ⟨_,rfl,kCN m' e⟩))
 ·rw [if_neg (by simpa using e)]
  refine bu (qD (getElem?_pos a ia ha) ?_);refine bu (uZ H.W H.L hk (H.da _ (by simp)) H.db (by omega) (λ i j hi hj=>wV H.W H.sb (by omega) (by omega)) (by omega) λ k1 kn g1 g2=>?_);simp only [if_true] at g1 g2
  have rest:∀ y∈b.toList.drop (ib+1+k1),le lb a[ia] y:=λ y hy=>by
   obtain ⟨j,hj,ij,rfl⟩:=zL hy;have:=g2 (j-(ib+1)) (by omega) (by omega);simp only [show ib+1+(j-(ib+1))=j by omega] at this;exact this
  dsimp only;by_cases k0:k1>0
  ·rw [if_pos k0]
   have m2:=kJS (k:=k1) m' λ x hx y hy=>by
    obtain ⟨j,hj,jk,rfl⟩:=wQ hx;obtain ⟨i,hi,ii,rfl⟩:=zL hy;exact H.W.trans (H.W.of_lt (g1 j jk (by omega))) (wV H.W H.sa ii hi)
   have sz2:(out.push b[ib]++b.extract (ib+1) (ib+1+k1)).size=ia+(ib+1+k1):=by
    rw [vg,sz,iz];omega
   by_cases e2:ib+1+k1=b.size
   ·rw [if_pos (by simpa using e2)]
    exact cy (q _ (.inl ⟨_,rfl,kCN m2 e2⟩))
   ·rw [if_neg (by simpa using e2)]
    exact kEV H ⟨m2,h1,by omega,sz2⟩ (by omega) (λ _=>rest) q
  ·rw [if_neg k0]
   have:k1=0:=by omega
   subst this;exact kEV H ⟨m',h1,by omega,sz⟩ (by omega) (λ _=>rest) q
theorem kKR (H:Hy M A E s lb D kd a b) {st:eJ} (hk:kindOf st=kd) {out:Array ay} {ia ib g oa ob n:Nat} (h:MI lb a b out ia ib) (hn:n<=out.size+1) {Q:ForInStep LS->eJ->Prop}
  (q:∀ r,RR lb a b n r->Q r (wW st g)):wpS M A E s (pA a b out ia ib g oa ob) Q st:=by
 obtain ⟨m,h1,h2,h3⟩:=id h;have ha:ia<a.size:=by omega
 unfold pA;rw [setMinGallop'_eq];refine bu (kj ?_);refine bu (qD (getElem?_pos b ib h2) ?_);refine bu (uZ (st:=wW st g) H.W H.L hk (H.db _ (by simp)) H.da (by omega) (λ i j hi hj=>wV H.W H.sa (by omega) (by omega)) (by omega) λ k kn g1 g2=>?_);simp only [eD,if_false] at g1 g2;dsimp only;by_cases k0:k>0
 ·rw [if_pos k0]
  have m2:=kJT (k:=k) m λ x hx y hy=>by
   obtain ⟨j,hj,jk,rfl⟩:=wQ hx;obtain ⟨i,hi,ii,rfl⟩:=zL hy;exact H.W.trans (g1 j jk (by omega)) (wV H.W H.sb ii hi)
  have sz2:(out++a.extract ia (ia+k)).size=ia+k+ib:=by
   rw [vg,iz];omega
  by_cases e1:ia+k+1=a.size
  ·rw [if_pos (by simpa using e1)]
   exact cy (q _ (.inl ⟨_,rfl,cH H m2 e1⟩))
  ·rw [if_neg (by simpa using e1)]
   by_cases e2:ia+k=a.size
   ·rw [if_pos (by simpa using e2)]
    exact cy (q _ (.inl ⟨_,rfl,kOW m2 e2⟩))
   ·rw [if_neg (by simpa using e2)]
    exact kEW (st:=wW st g) H hk ⟨m2,by omega,h2,sz2⟩ (by omega) (λ _ _=>H.W.of_lt (g2 k (by omega) (by omega))) q
 ·rw [if_neg k0]
  have:k=0:=by omega
  subst this;exact kEW (st:=wW st g) H hk h hn (λ _ _=>H.W.of_lt (g2 0 (by omega) (by omega))) q
end
end Srt
namespace Srt
set_option autoImplicit false
open PySem PyProof.Rows
section
variable {M:tw} {A:eV} {E:af->ak->Prop} {s:ak} {lb:ay->ay->Bool} {D:ay->Prop} {kd:jx} {a b:Array ay}
theorem Yd.mono {n n':Nat} {γ:Type} {c:Option (Array ay)×Array ay×Nat×Nat×γ} (h:Yd lb a b n c) (k:n'<=n):Yd lb a b n' c:=⟨h.1,h.2.1,je k h.2.2⟩
theorem Dn.mono {n n':Nat} {γ:Type} {c:Option (Array ay)×Array ay×Nat×Nat×γ} (h:Dn lb a b n c) (k:n'<=n):Dn lb a b n' c:=h.imp id λ z=>z.mono k
theorem kKT (H:Hy M A E s lb D kd a b) {st:eJ} (hk:kindOf st=kd) {out:Array ay} {ia ib g:Nat} (h:MI lb a b out ia ib) {Q:ForInStep LS0->eJ->Prop}
  (qd:∀ r c st',Sm st st'->Res lb a.toList b.toList r.toList->Q (.done (some r,c)) st') (qy:∀ c st',Sm st st'->Yd lb a b (out.size+1) c->Q (.yield c) st'):wpS M A E s (p0 a b (none,out,ia,ib,g)) Q st:=by
 unfold p0;dsimp only;have tot:0<a.size+b.size:=by have:=h.2.2.1;omega
 refine bu (qz (iq (I:=λ x d st'=>st'=st/\Yd lb a b (out.size+x) d) (Q:=λ d st'=>st'=st/\Dn lb a b (out.size+1) d) ?step ?fin ⟨rfl,rfl,h,be _⟩) ?post)
 case fin =>
  rintro d st' ⟨rfl,y⟩;exact ⟨rfl,.inr (y.mono (by omega))⟩
 case step =>
  rintro x ⟨r,o,i,j,u,v⟩ st' _ _ ⟨rfl,e,mi,le⟩
  cases (show r=none from e)
  have le:out.size+x<=o.size:=le;refine kKS H hk mi λ r hr=>?_
  cases r with
  | done c=>exact ⟨rfl,Dn.mono hr (by omega)⟩
  | yield c=>exact ⟨rfl,Yd.mono hr (by omega)⟩
 case post =>
  rintro ⟨r,o,i,j,u,v⟩ st' ⟨rfl,hd⟩
  cases r with
  | some r =>
   dsimp only;rcases hd with ⟨r',e,res⟩ | ⟨e,_⟩
   ·cases e
    exact cy (qd _ _ _ (Sm.refl _) res)
   ·cases e
  | none =>
   dsimp only
   have y:Yd lb a b (out.size+1) (none,o,i,j,(u,v)):=by
    rcases hd with ⟨r',e,res⟩ | y
    ·cases e
    ·exact y
   refine bu (vC ?_);refine bu (qz (iq (I:=λ x f st2=>Sm st' st2/\Yd lb a b (out.size+1) f) (Q:=λ f st2=>Sm st' st2/\Dn lb a b (out.size+1) f) ?step2 ?fin2 ⟨Sm.refl _,y⟩) ?post2)
   case fin2 =>
    rintro f st2 ⟨sm,y⟩;exact ⟨sm,.inr y⟩
   case step2 =>
    rintro x ⟨r,o,i,j,g2,u,v⟩ st2 _ _ ⟨sm,e,mi,le⟩
    cases (show r=none from e)
    have le:out.size+1<=o.size:=le;dsimp only
    split
    all_goals
     refine kKR (n:=out.size+1) H (sm.1.trans hk) mi (by omega) λ r hr=>?_
     cases r with
     | done c=>exact ⟨sm.gal _,hr⟩
     | yield c=>exact ⟨sm.gal _,hr⟩
   case post2 =>
    rintro ⟨r,o,i,j,g2,u,v⟩ st2 ⟨sm,hd⟩
    cases r with
    | some r =>
     dsimp only;rcases hd with ⟨r',e,res⟩ | ⟨e,_⟩
     ·cases e
      exact cy (qd _ _ _ sm res)
     ·cases e
    | none =>
     dsimp only;rcases hd with ⟨r',e,res⟩ | y
     ·cases e
     ·rw [setMinGallop'_eq]
      exact bu (kj (cy (qy _ _ (sm.gal _) y)))
theorem rG (H:Hy M A E s lb D kd a b) {st:eJ} (hk:kindOf st=kd) (a0:0<a.size) (b0:0<b.size) (first:le lb b[0] a[0]) {Q:Array ay->eJ->Prop}
  (q:∀ r st',Sm st st'->Res lb a.toList b.toList r.toList->Q r st'):wpS M A E s (lH a b) Q st:=by
 rw [mergeLo'_parts];refine bu (vC ?_);refine bu (qD (getElem?_pos b 0 b0) ?_);have m0:Mg lb a.toList b.toList (#[]:Array ay).toList (a.toList.drop 0) (b.toList.drop 0):=⟨H.sa,H.sb,yd _⟩;have m1:Mg lb a.toList b.toList (#[b[0]]:Array ay).toList (a.toList.drop 0) (b.toList.drop 1):=tR H a0 b0 m0 first;by_cases e1:1=b.size
 ·rw [if_pos (by simpa using e1)]
  exact cy (q _ _ (Sm.refl _) (kCN m1 e1))
 rw [if_neg (by simpa using e1)];by_cases e2:0+1=a.size
 ·rw [if_pos (by simpa using e2)]
  exact cy (q _ _ (Sm.refl _) (cH H m1 e2))
 rw [if_neg (by simpa using e2)];refine bu (ye ?_);refine bu (qz (iq (I:=λ x c st'=>Sm st st'/\Yd lb a b (1+x) c) (Q:=λ c st'=>Sm st st'/\∃ r,c.1=some r/\Res lb a.toList b.toList r.toList) ?step ?fin ⟨Sm.refl _,rfl,⟨m1,by show 0+1<a.size;omega,by show 1<b.size;omega,rfl⟩,be _⟩) ?post)
 case post =>
  rintro ⟨r,c⟩ st' ⟨sm,r',e,res⟩;cases e
  exact cy (q _ _ sm res)
 case fin =>
  rintro ⟨r,o,i,j,g⟩ st' ⟨sm,e,⟨_,h1,h2,h3⟩,le⟩;have h3:o.size=i+j:=h3;have le:1+max 0 (a.size+b.size)<=o.size:=le;have h1:i+1<a.size:=h1;have h2:j<b.size:=h2;omega
 case step =>
  rintro x ⟨r,o,i,j,g⟩ st' _ _ ⟨sm,e,mi,le⟩
  cases (show r=none from e)
  have le:1+x<=o.size:=le;exact kKT H (sm.1.trans hk) mi (λ r c st2 sm2 res=>⟨⟨sm2.1.trans sm.1,sm2.2.1.trans sm.2.1,sm2.2.2.1.trans sm.2.2.1,sm2.2.2.2.trans sm.2.2.2⟩,r,rfl,res⟩) λ c st2 sm2 y=>⟨⟨sm2.1.trans sm.1,sm2.2.1.trans sm.2.1,sm2.2.2.1.trans sm.2.2.1,sm2.2.2.2.trans sm.2.2.2⟩,y.mono (by omega)⟩
end
end Srt
local macro_rules | `(tactic| walk_at "sort_open mergeHi")=>`(tactic| delta $(Lean.mkIdent (Lean.mkPrivateNameCore `PySem.Builtin.List.W1All `PySem.Builtin.mergeHi)):ident)
namespace Srt
set_option autoImplicit false
open PySem PyProof.Rows
def lI:Array ay->Array ay->StateT eJ Sem (Array ay):=sortPriv% PySem.Builtin.mergeHi
abbrev KS:=Option (Array ay)×Nat×Nat×Array ay×Nat×Nat×Nat
abbrev KS1:=Option (Array ay)×Nat×Nat×Array ay×Nat×Nat
abbrev KS0:=Option (Array ay)×Nat×Nat×Array ay×Nat
section
variable (a b:Array ay)
def hDn (na nb:Nat) (out:Array ay):Array ay:=a.extract 0 na++b.extract 0 nb++out.reverse
def hFb (na nb:Nat) (out:Array ay):Array ay:=b.extract 0 nb++a.extract 0 na++out.reverse
def hC (na nb:Nat) (out:Array ay) (g k k1:Nat):StateT eJ Sem (ForInStep KS):=do
 let x <-elem' a (na-1)
 if (na-1 == 0)=true then pure (.done (some (hDn a b (na-1) nb (out.push x)),na-1,nb,out.push x,g,k,k1))
 else if (decide (k<7) && decide (k1<7))=true then pure (.done (none,na-1,nb,out.push x,g,k,k1)) else pure (.yield (none,na-1,nb,out.push x,g,k,k1))
def hB (na nb:Nat) (out:Array ay) (g k ob:Nat):StateT eJ Sem (ForInStep KS):=do
 let y <-elem' b (nb-1)
 if (nb-1 == 1)=true then pure (.done (some (hFb a b na (nb-1) (out.push y)),na,nb-1,out.push y,g,k,ob))
 else do
  let x <-elem' a (na-1)
  let r <-vU true x b 0 (nb-1) (nb-1-1)
  match r with
  | some p =>
   if nb-1-p>0 then
    if (p == 1)=true then pure (.done (some (hFb a b na p (out.push y++(b.extract p (nb-1)).reverse)),na,p,out.push y++(b.extract p (nb-1)).reverse,g,k,nb-1-p))
    else if (p == 0)=true then pure (.done (some (hDn a b na p (out.push y++(b.extract p (nb-1)).reverse)),na,p,out.push y++(b.extract p (nb-1)).reverse,g,k,nb-1-p))
    else hC a b na p (out.push y++(b.extract p (nb-1)).reverse) g k (nb-1-p)
   else hC a b na (nb-1) (out.push y) g k (nb-1-p)
  | x=>pure (.done (some (hDn a b na (nb-1) (out.push y)),na,nb-1,out.push y,g,k,ob))
def hA (na nb:Nat) (out:Array ay) (g oa ob:Nat):StateT eJ Sem (ForInStep KS):=do
 xS g
 let y <-elem' b (nb-1)
 let r <-vU false y a 0 na (na-1)
 match r with
 | some p =>
  if na-p>0 then
   if (p == 0)=true then pure (.done (some (hDn a b p nb (out++(a.extract p na).reverse)),p,nb,out++(a.extract p na).reverse,g,na-p,ob))
   else hB a b p nb (out++(a.extract p na).reverse) g (na-p) ob
  else hB a b na nb out g (na-p) ob
 | x=>pure (.done (some (hDn a b na nb out),na,nb,out,g,oa,ob))
def h1 (mg:Nat) (c:KS1):StateT eJ Sem (ForInStep KS1):=do
 let y <-elem' b (c.2.2.1-1)
 let x <-elem' a (c.2.1-1)
 let r <-lt' y x
 match r with
 | some aw =>
  if aw=true then do
   let x <-elem' a (c.2.1-1)
   if (c.2.1-1 == 0)=true then pure (.done (some (hDn a b (c.2.1-1) c.2.2.1 (c.2.2.2.1.push x)),c.2.1-1,c.2.2.1,c.2.2.2.1.push x,c.2.2.2.2.1+1,0))
   else if c.2.2.2.2.1+1 >= mg then pure (.done (none,c.2.1-1,c.2.2.1,c.2.2.2.1.push x,c.2.2.2.2.1+1,0))
   else pure (.yield (none,c.2.1-1,c.2.2.1,c.2.2.2.1.push x,c.2.2.2.2.1+1,0))
  else do
   let y <-elem' b (c.2.2.1-1)
   if (c.2.2.1-1 == 1)=true then pure (.done (some (hFb a b c.2.1 (c.2.2.1-1) (c.2.2.2.1.push y)),c.2.1,c.2.2.1-1,c.2.2.2.1.push y,0,c.2.2.2.2.2+1))
   else if c.2.2.2.2.2+1 >= mg then pure (.done (none,c.2.1,c.2.2.1-1,c.2.2.2.1.push y,0,c.2.2.2.2.2+1))
   else pure (.yield (none,c.2.1,c.2.2.1-1,c.2.2.2.1.push y,0,c.2.2.2.2.2+1))
 | x=>pure (.done (some (hDn a b c.2.1 c.2.2.1 c.2.2.2.1),c.2.1,c.2.2.1,c.2.2.2.1,c.2.2.2.2.1,c.2.2.2.2.2))
def h0 (c:KS0):StateT eJ Sem (ForInStep KS0):=do
 let d <-forIn [:a.size+b.size] ((none,c.2.1,c.2.2.1,c.2.2.2.1,0,0):KS1) λ x d=>h1 a b c.2.2.2.2 d
 match d.1 with
 | some r=>pure (.done (some r,d.2.1,d.2.2.1,d.2.2.2.1,c.2.2.2.2))
 | none=>do
  liftM (rule "list.sort.gallop")
  let f <-forIn [:a.size+b.size] ((none,d.2.1,d.2.2.1,d.2.2.2.1,c.2.2.2.2+1,d.2.2.2.2.1,d.2.2.2.2.2):KS) λ x f =>
   if f.2.2.2.2.1>1 then hA a b f.2.1 f.2.2.1 f.2.2.2.1 (f.2.2.2.2.1-1) f.2.2.2.2.2.1 f.2.2.2.2.2.2 else hA a b f.2.1 f.2.2.1 f.2.2.2.1 f.2.2.2.2.1 f.2.2.2.2.2.1 f.2.2.2.2.2.2
  match f.1 with
  | some r=>pure (.done (some r,f.2.1,f.2.2.1,f.2.2.2.1,f.2.2.2.2.1))
  | none=>do
   xS (f.2.2.2.2.1+1)
   pure (.yield (none,f.2.1,f.2.2.1,f.2.2.2.1,f.2.2.2.2.1+1))
theorem mergeHi'_parts:lI a b=(do
  liftM (rule "list.sort.merge-hi")
  let y <-elem' a (a.size-1)
  if (a.size-1 == 0)=true then pure (hDn a b (a.size-1) b.size #[y])
  else if (b.size == 1)=true then pure (hFb a b (a.size-1) b.size #[y])
  else do
   let st <-get
   let c <-forIn [:a.size+b.size] ((none,a.size-1,b.size,#[y],gallopOf st):KS0) λ x c=>h0 a b c
   match c.1 with
   | some r=>pure r
   | none=>unsupported "internal:list.sort.merge-bound"):=by
 unfold lI
 walk_at "sort_open mergeHi"
 dsimp only;refine congrArg _ (funext λ _=>?_);refine congrArg _ (funext λ y=>?_);refine ite_congr rfl (λ _=>rfl) (λ _=>ite_congr rfl (λ _=>rfl) (λ _=>?_));refine congrArg _ (funext λ st=>?_);refine congr (congrArg _ (congrArg _ (funext λ x=>funext λ c=>?_))) (funext λ c=>by cases c.1<;>rfl);unfold h0;refine congr (congrArg _ (congrArg _ (funext λ x=>funext λ d=>?_))) (funext λ d=>?_)
 ·unfold h1
  refine congrArg _ (funext λ _=>?_);refine congrArg _ (funext λ _=>?_);refine congrArg _ (funext λ r=>?_);cases r<;>rfl
 ·cases d.1 with
  | some r=>rfl
  | none =>
   dsimp only;refine congrArg _ (funext λ _=>?_);refine congr (congrArg _ (congrArg _ (funext λ x=>funext λ f=>?_))) (funext λ f=>by cases f.1<;>rfl);refine ite_congr rfl (λ _=>?_) (λ _=>?_)
   all_goals
    unfold hA;refine congrArg _ (funext λ _=>?_);refine congrArg _ (funext λ y=>?_);refine congrArg _ (funext λ r=>?_)
    cases r with
    | none=>rfl
    | some k =>
     dsimp only;refine ite_congr rfl (λ _=>ite_congr rfl (λ _=>rfl) (λ _=>?_)) (λ _=>?_)
     all_goals
      unfold hB;refine congrArg _ (funext λ y=>?_);refine ite_congr rfl (λ _=>rfl) (λ _=>?_);refine congrArg _ (funext λ x=>?_);refine congrArg _ (funext λ r=>?_);cases r<;>rfl
end
end Srt
namespace Srt
set_option autoImplicit false
open PySem PyProof.Rows
section
variable {α:Type} {lb:α->α->Bool}
structure Mh (lb:α->α->Bool) (A B:List α) (w ra rb:List α):Prop where
 sa:qY lb (ra++w)
 sb:qY lb (rb++w)
 pm:(ra++(rb++w)).Perm (A++B)
theorem Mh.moveA {A B w c ra rb:List α} (h:Mh lb A B w (ra++c) rb) (hc:∀ x∈rb,∀ y∈c,le lb x y):Mh lb A B (c++w) ra rb:=by
 refine ⟨by rw [<-eh];exact h.sa,?_,?_⟩
 ·have h1:=eE.mp h.sa
  have h2:=eE.mp h.sb;have h3:=eE.mp h1.1;refine eE.mpr ⟨h2.1,eE.mpr ⟨h3.2.1,h1.2.1,λ x hx y hy=>h1.2.2 x (fu _ hx) y hy⟩,λ x hx y hy=>?_⟩;rcases eY.mp hy with z | z
  ·exact hc x hx y z
  ·exact h2.2.2 x hx y z
 ·refine ql ?_ h.pm
  rw [eh];refine uz ra ?_;rw [<-eh,<-eh];exact uj w jb
theorem Mh.swap {A B w ra rb:List α} (h:Mh lb A B w ra rb):Mh lb B A w rb ra:=by
 refine ⟨h.sb,h.sa,?_⟩;refine ql ?_ (h.pm.trans jb);rw [<-eh,<-eh];exact uj w jb
theorem Mh.moveB {A B w c ra rb:List α} (h:Mh lb A B w ra (rb++c)) (hc:∀ x∈ra,∀ y∈c,le lb x y):Mh lb A B (c++w) ra rb:=(h.swap.moveA hc).swap
theorem gC {a:Array α} {n:Nat} (h0:0<n) (h:n<=a.size):a.toList.take n=a.toList.take (n-1)++[a[n-1]'(by omega)]:=by
 obtain ⟨m,rfl⟩ : ∃ m,n=m+1:=⟨n-1,by omega⟩;rw [List.take_succ_eq_append_getElem (by simp;omega)];simp
theorem cG (a:Array α) (n:Nat):(a.extract 0 n).toList=a.toList.take n:=by
 rw [rg,ky];simp
theorem tN (a:Array α) {p n:Nat} (h:p<=n):a.toList.take n=a.toList.take p++(a.extract p n).toList:=by
 rw [rg,ky,<-ED]
 conv=>lhs;rw [<-iF p (a.toList.take n)]
 rw [EE,iG h]
end
section
variable {M:tw} {A:eV} {E:af->ak->Prop} {s:ak} {lb:ay->ay->Bool} {D:ay->Prop} {kd:jx} {a b:Array ay}
structure Hz (M:tw) (A:eV) (E:af->ak->Prop) (s:ak) (lb:ay->ay->Bool) (D:ay->Prop) (kd:jx) (a b:Array ay):Prop where
 W:Wk lb
 L:uY M A E s lb D kd
 da:∀ x∈a.toList,D x
 db:∀ x∈b.toList,D x
 sa:qY lb a.toList
 sb:qY lb b.toList
 first:∀ (h:0<b.size),∀ y∈a.toList,le lb b[0] y
abbrev MM (lb:ay->ay->Bool) (a b:Array ay) (na nb:Nat) (out:Array ay):Prop:=Mh lb a.toList b.toList out.toList.reverse (a.toList.take na) (b.toList.take nb)
def MH (lb:ay->ay->Bool) (a b:Array ay) (na nb:Nat) (out:Array ay):Prop:=MM lb a b na nb out/\0<na/\na<=a.size/\1<nb/\nb<=b.size/\out.size+na+nb=a.size+b.size
def Zd (lb:ay->ay->Bool) (a b:Array ay) (n:Nat) {γ:Type} (c:Option (Array ay)×Nat×Nat×Array ay×γ):Prop:=c.1=none/\MH lb a b c.2.1 c.2.2.1 c.2.2.2.1/\n<=c.2.2.2.1.size
def En (lb:ay->ay->Bool) (a b:Array ay) (n:Nat) {γ:Type} (c:Option (Array ay)×Nat×Nat×Array ay×γ):Prop:=(∃ r,c.1=some r/\Res lb a.toList b.toList r.toList)\/Zd lb a b n c
def TT (lb:ay->ay->Bool) (a b:Array ay) (n:Nat) {γ:Type}:ForInStep (Option (Array ay)×Nat×Nat×Array ay×γ)->Prop
 | .done c=>En lb a b n c
 | .yield c=>Zd lb a b n c
theorem Zd.mono {n n':Nat} {γ:Type} {c:Option (Array ay)×Nat×Nat×Array ay×γ} (h:Zd lb a b n c) (k:n'<=n):Zd lb a b n' c:=⟨h.1,h.2.1,je k h.2.2⟩
theorem En.mono {n n':Nat} {γ:Type} {c:Option (Array ay)×Nat×Nat×Array ay×γ} (h:En lb a b n c) (k:n'<=n):En lb a b n' c:=h.imp id λ z=>z.mono k
theorem bS {a:Array ay} {n:Nat} {x:ay} (h:x∈a.toList.take n):∃ j,∃ hj:j<a.size,j<n/\x=a[j]:=by
 have:=wQ (a:=a) (i:=0) (k:=n) (x:=x) (by simpa using h);obtain ⟨j,hj,jk,e⟩:=this;exact ⟨j,by omega,jk,by simpa using e⟩
theorem qW {a:Array ay} {p n:Nat} {x:ay} (h:x∈(a.extract p n).toList):∃ j,∃ hj:j<a.size,p<=j/\j<n/\x=a[j]:=by
 rw [rg,ky] at h;obtain ⟨j,hj,jk,e⟩:=wQ h;exact ⟨p+j,hj,by omega,by omega,e⟩
theorem sL (na nb:Nat) (out:Array ay):(hDn a b na nb out).toList=a.toList.take na++(b.toList.take nb++out.toList.reverse):=by
 unfold hDn;rw [gn,gn,cG,cG,vt,eh]
theorem kGW (na nb:Nat) (out:Array ay):(hFb a b na nb out).toList=b.toList.take nb++(a.toList.take na++out.toList.reverse):=by
 unfold hFb;rw [gn,gn,cG,cG,vt,eh]
theorem pY {na nb:Nat} {out:Array ay} (m:MM lb a b na nb out) (e:na=0):Res lb a.toList b.toList (hDn a b na nb out).toList:=by
 subst e;rw [sL];exact ⟨by simpa using m.sb,m.pm⟩
theorem kMV {na nb:Nat} {out:Array ay} (m:MM lb a b na nb out) (e:nb=0):Res lb a.toList b.toList (hDn a b na nb out).toList:=by
 subst e;rw [sL];exact ⟨by simpa using m.sa,m.pm⟩
theorem pX (H:Hz M A E s lb D kd a b) {na nb:Nat} {out:Array ay} (m:MM lb a b na nb out) (e:nb=1) (hb:0<b.size):Res lb a.toList b.toList (hFb a b na nb out).toList:=by
 subst e;rw [kGW];have t:b.toList.take 1=[b[0]]:=by rw [gC (by decide) hb];simp
 have sb:=m.sb;rw [t] at sb ⊢;refine ⟨?_,?_⟩
 ·refine eE.mpr ⟨ki _ _,m.sa,λ x hx y hy=>?_⟩
  have:x=b[0]:=by simpa using hx
  subst this;rcases eY.mp hy with z | z
  ·exact H.first hb y (rj z)
  ·exact (eE.mp sb).2.2 _ (by simp) y z
 ·have pm:=m.pm
  rw [t] at pm;refine ql ?_ pm;rw [<-eh,<-eh];exact uj _ jb
theorem kFJ (H:Hz M A E s lb D kd a b) {na nb:Nat} {out:Array ay} (m:MM lb a b na nb out) (n0:0<na) (hn:na<=a.size) (c:∀ x∈b.toList.take nb,le lb x (a[na-1]'(by omega))):MM lb a b (na-1) nb (out.push (a[na-1]'(by omega))):=by
 have m:Mh lb a.toList b.toList out.toList.reverse (a.toList.take na) (b.toList.take nb):=m;rw [gC n0 hn] at m;show Mh lb _ _ (out.push _).toList.reverse _ _;rw [rh,wm];refine m.moveA λ x hx y hy=>?_;have:y=a[na-1]'(by omega):=by simpa using hy
 rw [this];exact c x hx
theorem kKB (H:Hz M A E s lb D kd a b) {na nb:Nat} {out:Array ay} (m:MM lb a b na nb out) (n0:0<nb) (hn:nb<=b.size) (c:∀ x∈a.toList.take na,le lb x (b[nb-1]'(by omega))):MM lb a b na (nb-1) (out.push (b[nb-1]'(by omega))):=by
 have m:Mh lb a.toList b.toList out.toList.reverse (a.toList.take na) (b.toList.take nb):=m;rw [gC n0 hn] at m;show Mh lb _ _ (out.push _).toList.reverse _ _;rw [rh,wm];refine m.moveB λ x hx y hy=>?_;have:y=b[nb-1]'(by omega):=by simpa using hy
 rw [this];exact c x hx
theorem kOY {na nb p:Nat} {out:Array ay} (m:MM lb a b na nb out) (hp:p<=na) (c:∀ x∈b.toList.take nb,∀ y∈(a.extract p na).toList,le lb x y):MM lb a b p nb (out++(a.extract p na).reverse):=by
 have m:Mh lb a.toList b.toList out.toList.reverse (a.toList.take na) (b.toList.take nb):=m;rw [tN a hp] at m;show Mh lb _ _ (out++_).toList.reverse _ _;rw [gn,vt,wm,Bo];exact m.moveA c
theorem kOX {na nb p:Nat} {out:Array ay} (m:MM lb a b na nb out) (hp:p<=nb) (c:∀ x∈a.toList.take na,∀ y∈(b.extract p nb).toList,le lb x y):MM lb a b na p (out++(b.extract p nb).reverse):=by
 have m:Mh lb a.toList b.toList out.toList.reverse (a.toList.take na) (b.toList.take nb):=m;rw [tN b hp] at m;show Mh lb _ _ (out++_).toList.reverse _ _;rw [gn,vt,wm,Bo];exact m.moveB c
theorem kDC (W:Wk lb) {a:Array ay} (sa:qY lb a.toList) {n:Nat} {y:ay} (n0:0<n) (hn:n<=a.size) (c:le lb (a[n-1]'(by omega)) y):∀ x∈a.toList.take n,le lb x y:=λ x hx=>by
 obtain ⟨j,hj,jn,rfl⟩:=bS hx;exact W.trans (wV W sa (show j<=n-1 by omega) (by omega)) c
theorem kKV (H:Hz M A E s lb D kd a b) {st:eJ} (hk:kindOf st=kd) {out:Array ay} {na nb u v mg:Nat} (h:MH lb a b na nb out) {Q:ForInStep KS1->eJ->Prop}
  (q:∀ r,TT lb a b (out.size+1) r->Q r st):wpS M A E s (h1 a b mg (none,na,nb,out,u,v)) Q st:=by
 obtain ⟨m,a1,a2,b1,b2,sz⟩:=h;unfold h1;dsimp only;refine bu (qD (getElem?_pos b (nb-1) (by omega)) ?_);refine bu (qD (getElem?_pos a (na-1) (by omega)) ?_);refine bu (H.L _ _ (H.db _ (by simp)) (H.da _ (by simp)) st _ hk ?_)
 cases e:lb (b[nb-1]'(by omega)) (a[na-1]'(by omega))
 case true =>
  simp only [if_true];refine bu (qD (getElem?_pos a (na-1) (by omega)) ?_);have m':=kFJ H m a1 a2 (kDC H.W H.sb (by omega) b2 (H.W.of_lt e));by_cases c:na-1=0
  ·rw [if_pos (by simpa using c)]
   exact cy (q _ (.inl ⟨_,rfl,pY m' c⟩))
  ·rw [if_neg (by simpa using c)]
   have z:Zd lb a b (out.size+1) (none,na-1,nb,out.push (a[na-1]'(by omega)),(u+1,0)):=⟨rfl,⟨m',by show 0<na-1;omega,by show na-1<=a.size;omega,b1,b2,by show (out.push _).size+(na-1)+nb=_;rw [iS];omega⟩,by show out.size+1<=(out.push _).size;rw [iS];omega⟩
   split
   ·exact cy (q _ (.inr z))
   ·exact cy (q _ z)
 case false =>
  simp only [eD,if_false];refine bu (qD (getElem?_pos b (nb-1) (by omega)) ?_);have m':=kKB H m (by omega) b2 (kDC H.W H.sa a1 a2 e);by_cases c:nb-1=1
  ·rw [if_pos (by simpa using c)]
   exact cy (q _ (.inl ⟨_,rfl,pX H m' c (by omega)⟩))
  ·rw [if_neg (by simpa using c)]
   have z:Zd lb a b (out.size+1) (none,na,nb-1,out.push (b[nb-1]'(by omega)),(0,v+1)):=⟨rfl,⟨m',a1,a2,by show 1<nb-1;omega,by show nb-1<=b.size;omega,by show (out.push _).size+na+(nb-1)=_;rw [iS];omega⟩,by show out.size+1<=(out.push _).size;rw [iS];omega⟩
   split
   ·exact cy (q _ (.inr z))
   ·exact cy (q _ z)
end
end Srt
namespace Srt
set_option autoImplicit false
open PySem PyProof.Rows
section
variable {M:tw} {A:eV} {E:af->ak->Prop} {s:ak} {lb:ay->ay->Bool} {D:ay->Prop} {kd:jx} {a b:Array ay}
theorem kEX (H:Hz M A E s lb D kd a b) {st:eJ} {out:Array ay} {na nb g k k1 n:Nat} (m:MM lb a b na nb out) (a1:0<na) (a2:na<=a.size) (b1:1<nb) (b2:nb<=b.size) (sz:out.size+na+nb=a.size+b.size) (hn:n<=out.size+1)
  (c:∀ x∈b.toList.take nb,le lb x (a[na-1]'(by omega))) {Q:ForInStep KS->eJ->Prop} (q:∀ r,TT lb a b n r->Q r st):wpS M A E s (hC a b na nb out g k k1) Q st:=by
 unfold hC;refine bu (qD (getElem?_pos a (na-1) (by omega)) ?_);have m':=kFJ H m a1 a2 c;by_cases e:na-1=0
 ·rw [if_pos (by simpa using e)]
  exact cy (q _ (.inl ⟨_,rfl,pY m' e⟩))
 ·rw [if_neg (by simpa using e)]
  have z:Zd lb a b n (none,na-1,nb,out.push (a[na-1]'(by omega)),(g,k,k1)):=⟨rfl,⟨m',by show 0<na-1;omega,by show na-1<=a.size;omega,b1,b2,by show (out.push _).size+(na-1)+nb=_;rw [iS];omega⟩,by show n<=(out.push _).size;rw [iS];omega⟩
  split
  ·exact cy (q _ (.inr z))
  ·exact cy (q _ z)
theorem kEY (H:Hz M A E s lb D kd a b) {st:eJ} (hk:kindOf st=kd) {out:Array ay} {na nb g k ob n:Nat} (h:MH lb a b na nb out) (hn:n<=out.size+1)
  (c:∀ (ha:na-1<a.size) (hb:nb-1<b.size),le lb a[na-1] b[nb-1]) {Q:ForInStep KS->eJ->Prop} (q:∀ r,TT lb a b n r->Q r st):wpS M A E s (hB a b na nb out g k ob) Q st:=by
 obtain ⟨m,a1,a2,b1,b2,sz⟩:=h;unfold hB;refine bu (qD (getElem?_pos b (nb-1) (by omega)) ?_);have m':=kKB H m (by omega) b2 (kDC H.W H.sa a1 a2 (c (by omega) (by omega)));have sz':(out.push (b[nb-1]'(by omega))).size+na+(nb-1)=a.size+b.size:=by rw [iS];omega
 have gr:out.size+1=(out.push (b[nb-1]'(by omega))).size:=by rw [iS]
 by_cases e:nb-1=1
 ·rw [if_pos (by simpa using e)]
  exact cy (q _ (.inl ⟨_,rfl,pX H m' e (by omega)⟩))
 ·rw [if_neg (by simpa using e)]
  refine bu (qD (getElem?_pos a (na-1) (by omega)) ?_);refine bu (uZ H.W H.L hk (H.da _ (by simp)) H.db (by omega) (λ i j hi hj=>wV H.W H.sb (by omega) (by omega)) (by omega) λ p kn g1 g2=>?_);simp only [if_true,Cp] at g1 g2
  have rest:∀ x∈b.toList.take p,le lb x (a[na-1]'(by omega)):=λ x hx=>by
   obtain ⟨j,hj,jp,rfl⟩:=bS hx;exact H.W.of_lt (g1 j jp (by omega))
  dsimp only;by_cases k0:nb-1-p>0
  ·rw [if_pos k0]
   have m2:=kOX (p:=p) m' (by omega) λ x hx y hy=>by
    obtain ⟨j,hj,pj,jn,rfl⟩:=qW hy;exact kDC H.W H.sa a1 a2 (g2 j pj jn) x hx
   have sz2:(out.push (b[nb-1]'(by omega))++(b.extract p (nb-1)).reverse).size+na+p=a.size+b.size:=by
    rw [vg,CV,iz];omega
   by_cases e1:p=1
   ·rw [if_pos (by simpa using e1)]
    exact cy (q _ (.inl ⟨_,rfl,pX H m2 e1 (by omega)⟩))
   ·rw [if_neg (by simpa using e1)]
    by_cases e2:p=0
    ·rw [if_pos (by simpa using e2)]
     exact cy (q _ (.inl ⟨_,rfl,kMV m2 e2⟩))
    ·rw [if_neg (by simpa using e2)]
     exact kEX H m2 a1 a2 (by omega) (by omega) sz2 (by omega) rest q
  ·rw [if_neg k0]
   have e3:p=nb-1:=by omega
   rw [e3] at rest;exact kEX H m' a1 a2 (by omega) (by omega) sz' (by omega) rest q
theorem kKU (H:Hz M A E s lb D kd a b) {st:eJ} (hk:kindOf st=kd) {out:Array ay} {na nb g oa ob n:Nat} (h:MH lb a b na nb out) (hn:n<=out.size+1) {Q:ForInStep KS->eJ->Prop}
  (q:∀ r,TT lb a b n r->Q r (wW st g)):wpS M A E s (hA a b na nb out g oa ob) Q st:=by
 obtain ⟨m,a1,a2,b1,b2,sz⟩:=id h;unfold hA;rw [setMinGallop'_eq];refine bu (kj ?_);refine bu (qD (getElem?_pos b (nb-1) (by omega)) ?_);refine bu (uZ (st:=wW st g) H.W H.L hk (H.db _ (by simp)) H.da (by omega) (λ i j hi hj=>wV H.W H.sa (by omega) (by omega)) (by omega) λ p kn g1 g2=>?_);simp only [eD,if_false,Cp] at g1 g2;dsimp only;by_cases k0:na-p>0
 ·rw [if_pos k0]
  have m2:=kOY (p:=p) m (by omega) λ x hx y hy=>by
   obtain ⟨j,hj,pj,jn,rfl⟩:=qW hy;exact kDC H.W H.sb (by omega) b2 (H.W.of_lt (g2 j pj jn)) x hx
  have sz2:(out++(a.extract p na).reverse).size+p+nb=a.size+b.size:=by
   rw [vg,CV,iz];omega
  by_cases e1:p=0
  ·rw [if_pos (by simpa using e1)]
   exact cy (q _ (.inl ⟨_,rfl,pY m2 e1⟩))
  ·rw [if_neg (by simpa using e1)]
   exact kEY (st:=wW st g) H hk ⟨m2,by omega,by omega,b1,b2,sz2⟩ (by omega) (λ _ _=>g1 (p-1) (by omega) (by omega)) q
 ·rw [if_neg k0]
  have e3:p=na:=by omega
  exact kEY (st:=wW st g) H hk h hn (λ _ _=>g1 (na-1) (by omega) (by omega)) q
theorem kKW (H:Hz M A E s lb D kd a b) {st:eJ} (hk:kindOf st=kd) {out:Array ay} {na nb g:Nat} (h:MH lb a b na nb out) {Q:ForInStep KS0->eJ->Prop}
  (qd:∀ r c st',Sm st st'->Res lb a.toList b.toList r.toList->Q (.done (some r,c)) st') (qy:∀ c st',Sm st st'->Zd lb a b (out.size+1) c->Q (.yield c) st'):wpS M A E s (h0 a b (none,na,nb,out,g)) Q st:=by
 unfold h0;dsimp only;have tot:0<a.size+b.size:=by have:=h.2.2.1;have:=h.2.1;omega
 refine bu (qz (iq (I:=λ x d st'=>st'=st/\Zd lb a b (out.size+x) d) (Q:=λ d st'=>st'=st/\En lb a b (out.size+1) d) ?step ?fin ⟨rfl,rfl,h,be _⟩) ?post)
 case fin =>
  rintro d st' ⟨rfl,y⟩;exact ⟨rfl,.inr (y.mono (by omega))⟩
 case step =>
  rintro x ⟨r,i,j,o,u,v⟩ st' _ _ ⟨rfl,e,mi,le⟩
  cases (show r=none from e)
  have le:out.size+x<=o.size:=le;refine kKV H hk mi λ r hr=>?_
  cases r with
  | done c=>exact ⟨rfl,En.mono hr (by omega)⟩
  | yield c=>exact ⟨rfl,Zd.mono hr (by omega)⟩
 case post =>
  rintro ⟨r,i,j,o,u,v⟩ st' ⟨rfl,hd⟩
  cases r with
  | some r =>
   dsimp only;rcases hd with ⟨r',e,res⟩ | ⟨e,_⟩
   ·cases e
    exact cy (qd _ _ _ (Sm.refl _) res)
   ·cases e
  | none =>
   dsimp only
   have y:Zd lb a b (out.size+1) (none,i,j,o,(u,v)):=by
    rcases hd with ⟨r',e,res⟩ | y
    ·cases e
    ·exact y
   refine bu (vC ?_);refine bu (qz (iq (I:=λ x f st2=>Sm st' st2/\Zd lb a b (out.size+1) f) (Q:=λ f st2=>Sm st' st2/\En lb a b (out.size+1) f) ?step2 ?fin2 ⟨Sm.refl _,y⟩) ?post2)
   case fin2 =>
    rintro f st2 ⟨sm,y⟩;exact ⟨sm,.inr y⟩
   case step2 =>
    rintro x ⟨r,i,j,o,g2,u,v⟩ st2 _ _ ⟨sm,e,mi,le⟩
    cases (show r=none from e)
    have le:out.size+1<=o.size:=le;dsimp only
    split
    all_goals
     refine kKU (n:=out.size+1) H (sm.1.trans hk) mi (by omega) λ r hr=>?_
     cases r with
     | done c=>exact ⟨sm.gal _,hr⟩
     | yield c=>exact ⟨sm.gal _,hr⟩
   case post2 =>
    rintro ⟨r,i,j,o,g2,u,v⟩ st2 ⟨sm,hd⟩
    cases r with
    | some r =>
     dsimp only;rcases hd with ⟨r',e,res⟩ | ⟨e,_⟩
     ·cases e
      exact cy (qd _ _ _ sm res)
     ·cases e
    | none =>
     dsimp only;rcases hd with ⟨r',e,res⟩ | y
     ·cases e
     ·rw [setMinGallop'_eq]
      exact bu (kj (cy (qy _ _ (sm.gal _) y)))
theorem rH (H:Hz M A E s lb D kd a b) {st:eJ} (hk:kindOf st=kd) (a0:0<a.size) (b0:0<b.size) (last:le lb (b[b.size-1]'(by omega)) (a[a.size-1]'(by omega))) {Q:Array ay->eJ->Prop}
  (q:∀ r st',Sm st st'->Res lb a.toList b.toList r.toList->Q r st'):wpS M A E s (lI a b) Q st:=by
 rw [mergeHi'_parts];refine bu (vC ?_);refine bu (qD (getElem?_pos a (a.size-1) (by omega)) ?_);have ta:a.toList.take a.size=a.toList:=jt (by simp);have tb:b.toList.take b.size=b.toList:=jt (by simp)
 have m0:MM lb a b a.size b.size #[]:=by
  show Mh lb _ _ (#[]:Array ay).toList.reverse _ _;rw [ta,tb];exact ⟨by simpa using H.sa,by simpa using H.sb,by simp⟩
 have m1:MM lb a b (a.size-1) b.size #[a[a.size-1]'(by omega)]:=kFJ H m0 a0 (be _) (kDC H.W H.sb b0 (be _) last);by_cases e1:a.size-1=0
 ·rw [if_pos (by simpa using e1)]
  exact cy (q _ _ (Sm.refl _) (pY m1 e1))
 rw [if_neg (by simpa using e1)];by_cases e2:b.size=1
 ·rw [if_pos (by simpa using e2)]
  exact cy (q _ _ (Sm.refl _) (pX H m1 e2 b0))
 rw [if_neg (by simpa using e2)];refine bu (ye ?_);refine bu (qz (iq (I:=λ x c st'=>Sm st st'/\Zd lb a b (1+x) c) (Q:=λ c st'=>Sm st st'/\∃ r,c.1=some r/\Res lb a.toList b.toList r.toList) ?step ?fin ⟨Sm.refl _,rfl,⟨m1,by show 0<a.size-1;omega,by show a.size-1<=a.size;omega,by show 1<b.size;omega,be _,by show 1+(a.size-1)+b.size=_;omega⟩,be _⟩) ?post)
 case post =>
  rintro ⟨r,c⟩ st' ⟨sm,r',e,res⟩;cases e
  exact cy (q _ _ sm res)
 case fin =>
  rintro ⟨r,i,j,o,g⟩ st' ⟨sm,e,⟨_,h1,h2,h3,h4,h5⟩,le⟩;have h5:o.size+i+j=a.size+b.size:=h5;have le:1+max 0 (a.size+b.size)<=o.size:=le;omega
 case step =>
  rintro x ⟨r,i,j,o,g⟩ st' _ _ ⟨sm,e,mi,le⟩
  cases (show r=none from e)
  have le:1+x<=o.size:=le;exact kKW H (sm.1.trans hk) mi (λ r c st2 sm2 res=>⟨⟨sm2.1.trans sm.1,sm2.2.1.trans sm.2.1,sm2.2.2.1.trans sm.2.2.1,sm2.2.2.2.trans sm.2.2.2⟩,r,rfl,res⟩) λ c st2 sm2 y=>⟨⟨sm2.1.trans sm.1,sm2.2.1.trans sm.2.1,sm2.2.2.1.trans sm.2.2.1,sm2.2.2.2.trans sm.2.2.2⟩,y.mono (by omega)⟩
end
end Srt
namespace Srt
set_option autoImplicit false
open PySem PyProof.Rows
section
variable {α:Type} {lb:α->α->Bool}
theorem kDH (l:List α) (i:Nat) (x:α) (h:i<l.length):l.set i x=l.take i++x::l.drop (i+1):=by
 rw [List.set_eq_take_append_cons_drop,if_pos h]
theorem wr:∀ (xs:List α) (k:Nat) (arr:Array α) (lo:Nat),lo+k+xs.length<=arr.size->((xs.zipIdx k).foldl (λ a (p:α×Nat)=>a.setIfInBounds (lo+p.2) p.1) arr).toList=arr.toList.take (lo+k)++(xs++arr.toList.drop (lo+k+xs.length))
 | [],k,arr,lo,h=>by simp
 | x::xs,k,arr,lo,h=>by
  rw [iE] at h;rw [List.zipIdx_cons,si];have ih:=wr xs (k+1) (arr.setIfInBounds (lo+k) x) lo (by rw [Au];omega);rw [ih,AY,kDH _ _ _ (by simp;omega)];have e:(arr.toList.take (lo+k)).length=lo+k:=by simp;omega
  have t1:(arr.toList.take (lo+k)++x::arr.toList.drop (lo+k+1)).take (lo+(k+1))=arr.toList.take (lo+k)++[x]:=by
   rw [List.take_append,e,show lo+(k+1)-(lo+k)=1 by omega,jt (by rw [e];omega)]
   rfl
  have t2:(arr.toList.take (lo+k)++x::arr.toList.drop (lo+k+1)).drop (lo+(k+1)+xs.length)=arr.toList.drop (lo+k+(x::xs).length):=by
   rw [yy,e,ju (by rw [e];omega),sj,show lo+(k+1)+xs.length-(lo+k)=xs.length+1 by omega,List.drop_succ_cons,AX,iE]
   congr 1
   omega
  rw [t1,t2];simp
theorem kEC (W:Wk lb) {X1 X2 Y1 Y2 Mm:List α} (sx:qY lb (X1++X2)) (sy:qY lb (Y1++Y2)) (h1:∀ x∈X1,∀ y∈Y1++Y2,le lb x y) (h2:∀ x∈X2,∀ y∈Y2,le lb x y) (r:Res lb X2 Y1 Mm) :
  qY lb (X1++(Mm++Y2))/\(X1++(Mm++Y2)).Perm ((X1++X2)++(Y1++Y2)):=by
 have a1:=eE.mp sx;have a2:=eE.mp sy;have mem:∀ z∈Mm,z∈X2\/z∈Y1:=λ z hz=>eY.mp ((r.2.mem_iff).mp hz);refine ⟨eE.mpr ⟨a1.1,eE.mpr ⟨r.1,a2.2.1,λ x hx y hy=>?_⟩,λ x hx y hy=>?_⟩,?_⟩
 ·rcases mem x hx with z | z
  ·exact h2 x z y hy
  ·exact a2.2.2 x z y hy
 ·rcases eY.mp hy with z | z
  ·rcases mem y z with w | w
   ·exact a1.2.2 x hx y w
   ·exact h1 x hx y (iJ _ w)
  ·exact h1 x hx y (fu _ z)
 ·rw [eh]
  refine uz X1 ?_;rw [<-eh];exact r.2.append_right Y2
end
end Srt
local macro_rules | `(tactic| walk_at "sort_open mergeAt")=>`(tactic| delta $(Lean.mkIdent (Lean.mkPrivateNameCore `PySem.Builtin.List.W1All `PySem.Builtin.mergeAt)):ident)
namespace Srt
set_option autoImplicit false
open PySem PyProof.Rows
section
variable {M:tw} {A:eV} {E:af->ak->Prop} {s:ak} {lb:ay->ay->Bool} {D:ay->Prop} {kd:jx} {arr:Array ay}
theorem kHU {st st':eJ} {Q:PUnit->eJ->Prop} (h:Q ⟨⟩ st'):wpS M A E s (set st':StateT eJ Sem PUnit) Q st:=by
 unfold wpS;rw [StateT.run_set];exact av ⟨rfl,h⟩
theorem vJ {i m j:Nat} (h1:i<=m) (h2:m<=j):(arr.extract i j).toList=(arr.extract i m).toList++(arr.extract m j).toList:=by
 rw [<-gn,Array.extract_append_extract,iG h1,ue h2]
theorem tX (W:Wk lb) {lo n:Nat} (h:qY lb (arr.extract lo (lo+n)).toList) (hn:lo+n<=arr.size) (i j:Nat) (hi:i<=j) (hj:j<n):le lb (arr[lo+i]'(by omega)) (arr[lo+j]'(by omega)):=by
 have:=wV W h hi (show j<(arr.extract lo (lo+n)).size by rw [iz];omega);simpa using this
def Joined (lb:ay->ay->Bool) (arr arr':Array ay) (lo n:Nat):Prop:=∃ m:List ay,arr'.toList=arr.toList.take lo++(m++arr.toList.drop (lo+n))/\qY lb m/\m.Perm (arr.extract lo (lo+n)).toList
theorem vZ {lo n:Nat} (h:lo+n<=arr.size):arr.toList=arr.toList.take lo++((arr.extract lo (lo+n)).toList++arr.toList.drop (lo+n)):=by
 rw [xM,<-AX,iF,iF]
theorem rJ (W:Wk lb) (hL:uY M A E s lb D kd) {st:eJ} (hk:kindOf st=kd) (hf:rf st=none) (dd:∀ x∈(cw st).toList,D x) {i sa na nb pa pb:Nat} (hi:(cv st)[i]?=some (sa,na,pa)) (hj:(cv st)[i+1]?=some (sa+na,nb,pb))
  (na0:0<na) (nb0:0<nb) (hn:sa+na+nb<=(cw st).size) (sx:qY lb ((cw st).extract sa (sa+na)).toList) (sy:qY lb ((cw st).extract (sa+na) (sa+na+nb)).toList) {Q:Bool->eJ->Prop}
  (q:∀ st',kindOf st'=kd->rf st'=none->cv st'=((cv st).setIfInBounds i (sa,na+nb,pa)).eraseIdxIfInBounds (i+1)->Joined lb (cw st) (cw st') sa (na+nb)->Q true st'):wpS M A E s (mergeAt' i) Q st:=by
 unfold mergeAt'
 walk_at "sort_open mergeAt"
 dsimp only;refine bu (ye ?_);rw [hi,hj];dsimp only;refine bu (kHU ?_);generalize hP:((cv st).setIfInBounds i (sa,na+nb,pa)).eraseIdxIfInBounds (i+1)=PP at *;have dx:∀ {j:Nat} (h:j<(cw st).size),D (cw st)[j]:=λ h=>dd _ (by simp);have z1:sa+na<(cw st).size:=by omega
 have z2:sa+na-1<(cw st).size:=by omega
 have z3:sa+na<=(cw st).size:=by omega
 refine bu (qD (arr:=cw st) (getElem?_pos (cw st) (sa+na) z1) ?_);refine bu (uZ (arr:=cw st) (st:=setPending st PP) W hL hk (dx z1) dd z3 (tX (arr:=cw st) W sx z3) na0 λ k kn g1 g2=>?_);simp only [eD,if_false] at g1 g2;dsimp only;have spX:=vJ (arr:=cw st) (i:=sa) (m:=sa+k) (j:=sa+na) (by omega) (by omega);have spW:=vJ (arr:=cw st) (i:=sa) (m:=sa+na) (j:=sa+na+nb) (by omega) (by omega);have iy:=tX W sy (by omega);have ix:=tX W sx (by omega);have same:∀ {X:List ay},X=((cw st).extract sa (sa+(na+nb))).toList->qY lb X->Joined lb (cw st) (cw st) sa (na+nb):=λ {X} e h=>⟨X,by rw [e];exact vZ (by omega),h,by rw [e]⟩
 have low:∀ x∈((cw st).extract sa (sa+k)).toList,∀ y∈((cw st).extract (sa+na) (sa+na+nb)).toList,le lb x y:=λ x hx y hy=>by
  obtain ⟨j,hj,j1,j2,rfl⟩:=qW hx;obtain ⟨j',hj',j1',j2',rfl⟩:=qW hy;have e1:=g1 (j-sa) (by omega) (by omega);have e2:=iy 0 (j'-(sa+na)) (by omega) (by omega);simp only [show sa+(j-sa)=j by omega,show sa+na+(j'-(sa+na))=j' by omega,Cr] at e1 e2;exact W.trans e1 e2
 by_cases e:na-k=0
 ·rw [if_pos (by simpa using e)]
  have ek:sa+k=sa+na:=by omega
  rw [ek] at low;exact cy (q _ hk hf rfl (same (by rw [<-uw];exact spW.symm) (eE.mpr ⟨sx,sy,low⟩)))
 rw [if_neg (by simpa using e)];have eL:sa+k+(na-k)-1=sa+na-1:=by omega
 rw [eL];refine bu (qD (arr:=cw st) (getElem?_pos (cw st) (sa+na-1) z2) ?_);refine bu (uZ (arr:=cw st) (st:=setPending st PP) W hL hk (dx z2) dd hn iy (by omega) λ p pn f1 f2=>?_);simp only [if_true] at f1 f2;dsimp only
 have toLast:∀ x∈((cw st).extract sa (sa+na)).toList,le lb x ((cw st)[sa+na-1]'(by omega)):=λ x hx=>by
  obtain ⟨j,hj,j1,j2,rfl⟩:=qW hx;have e1:=ix (j-sa) (na-1) (by omega) (by omega);simp only [show sa+(j-sa)=j by omega,show sa+(na-1)=sa+na-1 by omega] at e1;exact e1
 have high:∀ y∈((cw st).extract (sa+na+p) (sa+na+nb)).toList,le lb ((cw st)[sa+na-1]'(by omega)) y:=λ y hy=>by
  obtain ⟨j,hj,j1,j2,rfl⟩:=qW hy;have e1:=f2 (j-(sa+na)) (by omega) (by omega);simp only [show sa+na+(j-(sa+na))=j by omega] at e1;exact e1
 by_cases e0:p=0
 ·rw [if_pos (by simpa using e0)]
  rw [e0,Cr] at high;exact cy (q _ hk hf rfl (same (by rw [<-uw];exact spW.symm) (eE.mpr ⟨sx,sy,λ x hx y hy=>W.trans (toLast x hx) (high y hy)⟩)))
 rw [if_neg (by simpa using e0)];have spY:=vJ (arr:=cw st) (i:=sa+na) (m:=sa+na+p) (j:=sa+na+nb) (by omega) (by omega);have sx':=sx;rw [spX] at sx';have sy':=sy;rw [spY] at sy'
 have mx:∀ {u v:Nat},∀ x∈((cw st).extract u v).toList,D x:=λ x hx=>by
  obtain ⟨j,hj,_,_,rfl⟩:=qW hx;exact dx hj
 have szx:((cw st).extract (sa+k) (sa+na)).size=na-k:=by rw [iz];omega
 have szy:((cw st).extract (sa+na) (sa+na+p)).size=p:=by rw [iz];omega
 have x0:∀ (h:0<((cw st).extract (sa+k) (sa+na)).size),((cw st).extract (sa+k) (sa+na))[0]=(cw st)[sa+k]'(by omega):=λ h=>by simp
 have xl:∀ (h:0<((cw st).extract (sa+k) (sa+na)).size),((cw st).extract (sa+k) (sa+na))[((cw st).extract (sa+k) (sa+na)).size-1]'(by omega)=(cw st)[sa+na-1]'(by omega):=λ h=>by
  rw [Array.getElem_extract]
  congr 1
  omega
 have y0:∀ (h:0<((cw st).extract (sa+na) (sa+na+p)).size),((cw st).extract (sa+na) (sa+na+p))[0]=(cw st)[sa+na]'(by omega):=λ h=>by simp
 have below:∀ y∈((cw st).extract (sa+na) (sa+na+p)).toList,le lb y ((cw st)[sa+na-1]'(by omega)):=λ y hy=>by
  obtain ⟨j,hj,j1,j2,rfl⟩:=qW hy;have e1:=f1 (j-(sa+na)) (by omega) (by omega);simp only [show sa+na+(j-(sa+na))=j by omega] at e1;exact W.of_lt e1
 have above:∀ y∈((cw st).extract (sa+k) (sa+na)).toList,le lb ((cw st)[sa+na]'(by omega)) y:=λ y hy=>by
  obtain ⟨j,hj,j1,j2,rfl⟩:=qW hy;have e1:=g2 (j-sa) (by omega) (by omega);simp only [show sa+(j-sa)=j by omega] at e1;exact W.of_lt e1
 have fin:∀ (r:Array ay) (st':eJ),Sm (setPending st PP) st'->Res lb ((cw st).extract (sa+k) (sa+na)).toList ((cw st).extract (sa+na) (sa+na+p)).toList r.toList ->
   wpS M A E s (do modify λ s=>setArr s (r.toList.zipIdx.foldl (λ a (p,j)=>a.setIfInBounds (sa+k+j) p) (cw s));let __do_lift <-get;pure (rf __do_lift).isNone) Q st':=λ r st' sm res=>by
  refine bu (kj (bu (ye ?_)));have ef:rf st'=none:=sm.2.2.2.trans hf;have ea:cw st'=cw st:=sm.2.1;refine cy ?_;show Q (rf st').isNone _;rw [ef];refine q _ (sm.1.trans hk) ef sm.2.2.1 ?_;show Joined lb (cw st) (r.toList.zipIdx.foldl (λ a (p:ay×Nat)=>a.setIfInBounds (sa+k+p.2) p.1) (cw st')) sa (na+nb);rw [ea];obtain ⟨j1,j2⟩:=kEC W sx' sy' (by rw [<-spY];exact low) (λ x hx y hy=>W.trans (toLast x (by rw [spX];exact fu _ hx)) (high y hy)) res;rw [<-spX,<-spY,<-spW] at j2;refine ⟨_,?_,j1,by rw [<-uw];exact j2⟩
  have len:r.toList.length=na-k+p:=by
   have:=res.2.length_eq;rw [eI] at this;simp only [fk,szx,szy] at this;simpa using this
  rw [wr r.toList 0 (cw st) (sa+k) (by rw [len];omega),len];have t1:(cw st).toList.take (sa+k+0)=(cw st).toList.take sa++((cw st).extract sa (sa+k)).toList:=tN (cw st) (by omega)
  have t2:(cw st).toList.drop (sa+k+0+(na-k+p))=((cw st).extract (sa+na+p) (sa+na+nb)).toList++(cw st).toList.drop (sa+(na+nb)):=by
   rw [show sa+k+0+(na-k+p)=sa+na+p by omega,show sa+na+nb=sa+na+p+(nb-p) by omega,xM,show sa+(na+nb)=sa+na+p+(nb-p) by omega];exact kBE _ _ _
  rw [t1,t2];simp only [eh]
 have mx0:(cw st)[sa+k]'(by omega)∈((cw st).extract (sa+k) (sa+na)).toList:=by
  rw [<-x0 (by omega),qv];exact Am _
 have myl:((cw st).extract (sa+na) (sa+na+p))[((cw st).extract (sa+na) (sa+na+p)).size-1]'(by omega)∈((cw st).extract (sa+na) (sa+na+p)).toList:=by
  rw [qv];exact Am _
 by_cases c:na-k<=p
 ·rw [if_pos c]
  refine bu ?_;exact rG (st:=setPending st PP) ⟨W,hL,mx,mx,(eE.mp sx').2.1,(eE.mp sy').1,λ h y hy=>by rw [xl h];exact below y hy⟩ hk (by omega) (by omega) (by rw [x0 (by omega),y0 (by omega)];exact above _ mx0) fin
 ·rw [if_neg c]
  refine bu ?_;exact rH (st:=setPending st PP) ⟨W,hL,mx,mx,(eE.mp sx').2.1,(eE.mp sy').1,λ h y hy=>by rw [y0 h];exact above y hy⟩ hk (by omega) (by omega) (by rw [xl (by omega)];exact below _ myl) fin
end
end Srt
namespace Srt
theorem oW {α:Type} {R:α->α->Prop}:∀ {l:List α},l.length<=1->l.Pairwise R
 | [],_=>Ak
 | [_],_=>ki _ _
set_option autoImplicit false
open PySem PyProof.Rows
section
variable {α:Type}
theorem kFH (arr:Array α) {Q R:List α} {y x:α} (h:arr.toList=Q++y::x::R):(arr.swapIfInBounds (Q.length+1) Q.length).toList=Q++x::y::R:=by
 have sz:arr.size=Q.length+(R.length+2):=by
  have:=congrArg iP h;simpa using this
 have g:∀ k,arr[k]?=(Q++y::x::R)[k]?:=λ k=>by rw [<-h,jd]
 refine Aq λ k=>?_;have e:=getElem?_swapIB (xs:=arr) (i:=Q.length+1) (j:=Q.length) (by omega) (by omega) k;rw [show (arr.swapIfInBounds (Q.length+1) Q.length).toList[k]?=(arr.swapIfInBounds (Q.length+1) Q.length)[k]? by simp,e,g,g,g];rcases iU k Q.length with c | c
 ·rw [if_neg (by omega),if_neg (by omega),cu c,cu c]
 ·obtain ⟨j,rfl⟩ : ∃ j,k=Q.length+j:=⟨k-Q.length,by omega⟩
  rw [bz (by omega),bz (by omega),bz (by omega),bz (by omega)];rw [show Q.length+j-Q.length=j by omega,show Q.length+1-Q.length=1 by omega,Cs]
  match j with
  | 0=>simp
  | 1=>simp
  | j+2 =>
   rw [if_neg (by omega),if_neg (by omega)];simp
theorem fA:∀ (m2 m1 T:List α) (x:α) (arr:Array α),arr.toList=m1++(m2++x::T)->(bubble arr (m1.length+m2.length) m2.length).toList=m1++(x::(m2++T))
 | [],m1,T,x,arr,h=>h
 | y::m2,m1,T,x,arr,h=>by
  have ih:=fA m2 (m1++[y]) T x arr (by rw [h];simp);rw [iE,bubble_succ];rw [eI,iu,show m1.length+1+m2.length=m1.length+(m2.length+1) by omega] at ih;have e:=kFH (bubble arr (m1.length+(m2.length+1)) m2.length) (Q:=m1) (y:=y) (x:=x) (R:=m2++T) (by rw [ih];simp);rw [show m1.length+(m2.length+1)-m2.length=m1.length+1 by omega,show m1.length+1-1=m1.length by omega];rw [e];simp
end
section
variable {M:tw} {A:eV} {E:af->ak->Prop} {s:ak} {lb:ay->ay->Bool} {D:ay->Prop} {kd:jx}
theorem aV (hL:uY M A E s lb D kd) {st:eJ} (hk:kindOf st=kd) {i j:Nat} {x y:ay} (hx:(cw st)[i]?=some x) (hy:(cw st)[j]?=some y) (dx:D x) (dy:D y) {Q:Option Bool->eJ->Prop} (q:Q (some (lb x y)) st):wpS M A E s (ltAt' i j) Q st:=by
 rw [ltAt'_eq];refine bu (ye ?_);exact bu (qD hx (bu (qD hy (hL _ _ dx dy st _ hk q))))
def Sa (st st':eJ):Prop:=kindOf st'=kindOf st/\cv st'=cv st/\rf st'=rf st
theorem kJJ (W:Wk lb) {m1 m2:List ay} {x:ay} (h:qY lb (m1++m2)) (h1:∀ y∈m1,le lb y x) (h2:∀ y∈m2,le lb x y):qY lb (m1++x::m2):=by
 have a:=eE.mp h;refine eE.mpr ⟨a.1,uk.mpr ⟨h2,a.2.1⟩,λ y hy z hz=>?_⟩;rcases gv.mp hz with rfl | w
 ·exact h1 y hy
 ·exact a.2.2 y hy z w
theorem tF (W:Wk lb) (hL:uY M A E s lb D kd) {st:eJ} (hk:kindOf st=kd) (dd:∀ x∈(cw st).toList,D x) {lo n ok:Nat} (hok:ok<=n) (hn:lo+n<=(cw st).size) (hs:qY lb ((cw st).extract lo (lo+ok)).toList) {Q:Bool->eJ->Prop}
  (q:∀ st',Sa st st'->Joined lb (cw st) (cw st') lo n->Q true st'):wpS M A E s (binarySort' lo n ok) Q st:=by
 rw [binarySort'_eq];refine bu (qz (iq (I:=λ k c st'=>c=(none,())/\Sa st st'/\Joined lb (cw st) (cw st') lo (min k n)) (Q:=λ c st'=>c=(none,())/\Sa st st'/\Joined lb (cw st) (cw st') lo n) ?step ?fin ?init) ?post)
 case post =>
  rintro c st' ⟨rfl,sm,j⟩;exact cy (q st' sm j)
 case fin =>
  rintro c st' ⟨rfl,sm,j⟩;refine ⟨rfl,sm,?_⟩;rwa [show min (max (max ok 1) n) n=n by omega] at j
 case init =>
  refine ⟨rfl,⟨rfl,rfl,rfl⟩,_,vZ (by omega),?_,yd _⟩;by_cases o:ok=0
  ·have:((cw st).extract lo (lo+min (max ok 1) n)).toList.length<=1:=by
    rw [fk,iz];omega
   generalize ((cw st).extract lo (lo+min (max ok 1) n)).toList=l at *;exact oW this
  ·rwa [show min (max ok 1) n=ok by omega]
 case step =>
  rintro k c st' _ hkn ⟨rfl,sm,m,e,sr,pm⟩;rw [show min k n=k by omega] at e pm;have lm:m.length=k:=by rw [pm.length_eq,fk,iz];omega
  have lp:((cw st).toList.take lo).length=lo:=by simp;omega
  have kz:lo+k<(cw st).size:=by omega
  rw [xV kz] at e
  have ax:(cw st')[lo+k]?=some ((cw st)[lo+k]):=by
   rw [<-jd,e,bz (by omega),lp,bz (by omega),lm,show lo+k-lo-k=0 by omega]
   rfl
  have am:∀ j (h:j<m.length),(cw st')[lo+j]?=some m[j]:=λ j h=>by
   rw [<-jd,e,bz (by omega),lp,cu (by omega),show lo+j-lo=j by omega];exact aa h
  have dx:D (cw st)[lo+k]:=dd _ (by simp)
  have dm:∀ j (h:j<m.length),D m[j]:=λ j h=>by
   obtain ⟨i,hi,_,_,ei⟩:=qW (pm.mem_iff.mp (fg h));rw [ei];exact dd _ (by simp)
  have mono:∀ i j (h:i<=j) (hj:j<m.length),le lb (m[i]'(by omega)) m[j]:=λ i j h hj=>by
   by_cases z:i=j
   ·subst z;exact W.refl _
   ·exact kl.mp sr i j (by omega) hj (by omega)
  refine bu (qz (iq (I:=λ x c st2=>st2=st'/\∃ l r,c=(none,l,r)/\l<=r/\r<=k/\r-l<=k-x/\(∀ i (h:i<m.length),i<l->le lb m[i] (cw st)[lo+k])/\(∀ i (h:i<m.length),r<=i->le lb (cw st)[lo+k] m[i]))
   (Q:=λ c st2=>st2=st'/\∃ l r,c=(none,l,r)/\l<=k/\(∀ i (h:i<m.length),i<l->le lb m[i] (cw st)[lo+k])/\(∀ i (h:i<m.length),l<=i->le lb (cw st)[lo+k] m[i])) ?istep ?ifin ?iinit) ?ipost)
  case iinit=>exact ⟨rfl,0,k,rfl,by omega,by omega,by omega,λ i _ hi=>by omega,λ i h1 h2=>by omega⟩
  case ifin =>
   rintro c st2 ⟨rfl,l,r,rfl,lr,rk,d,a1,a2⟩;have:l=r:=by omega
   subst this;exact ⟨rfl,l,l,rfl,rk,a1,a2⟩
  case istep =>
   rintro x c st2 _ _ ⟨rfl,l,r,rfl,lr,rk,d,a1,a2⟩;dsimp only;by_cases hge:l >= r
   ·rw [if_pos hge]
    have:l=r:=by omega
    subst this;exact cy ⟨rfl,l,l,rfl,rk,a1,a2⟩
   ·rw [if_neg hge]
    have hm:(l+r) / 2<m.length:=by omega
    refine bu (aV hL (sm.1.trans hk) ax (am _ hm) dx (dm _ hm) ?_)
    cases z:lb (cw st)[lo+k] m[(l+r) / 2]
    case true =>
     simp only [if_true];exact cy ⟨rfl,l,_,rfl,by omega,by omega,by omega,a1,λ i h hi=>W.trans (W.of_lt z) (mono _ i hi h)⟩
    case false =>
     simp only [eD,if_false];exact cy ⟨rfl,_,r,rfl,by omega,by omega,by omega,λ i h hi=>W.trans (mono i _ (by omega) hm) z,a2⟩
  case ipost =>
   rintro c st2 ⟨rfl,l,r,rfl,lk,a1,a2⟩;show wpS _ _ _ _ (do moveDown' (lo+k) (lo+l);pure (iY (none,()))) _ _;rw [moveDown'_eq];refine bu (kj (cy ⟨rfl,sm,?_⟩));rw [show min (k+1) n=k+1 by omega];show Joined lb (cw st) (bubble (cw st2) (lo+k) (lo+k-(lo+l))) lo (k+1)
   have b:=fA (m.drop l) ((cw st).toList.take lo++m.take l) ((cw st).toList.drop (lo+k+1)) ((cw st)[lo+k]) (cw st2) (by
    rw [e]
    conv=>lhs;rw [<-iF l m]
    simp only [eh,List.singleton_append])
   have l1:((cw st).toList.take lo++m.take l).length+(m.drop l).length=lo+k:=by
    rw [eI,lp,fb,iV];omega
   have l2:(m.drop l).length=lo+k-(lo+l):=by rw [iV];omega
   rw [l1,l2] at b;refine ⟨m.take l++(cw st)[lo+k]::m.drop l,?_,kJJ W (by rw [iF];exact sr) (λ y hy=>?_) (λ y hy=>?_),?_⟩
   ·rw [b,<-uw]
    simp only [eh,vj]
   ·obtain ⟨i,hi,rfl⟩:=ft.mp hy
    rw [fb] at hi;rw [An];exact a1 i (by omega) (by omega)
   ·obtain ⟨i,hi,rfl⟩:=ft.mp hy
    rw [iV] at hi;rw [Ap];exact a2 _ (by omega) (by omega)
   ·refine ql wj ?_
    rw [iF,vJ (i:=lo) (m:=lo+k) (j:=lo+(k+1)) (by omega) (by omega)]
    have:((cw st).extract (lo+k) (lo+(k+1))).toList=[(cw st)[lo+k]]:=by
     rw [<-uw,xM,xV kz]
     rfl
    rw [this];exact (jb (l₁:=[(cw st)[lo+k]]) (l₂:=m)).trans (pm.append_right _)
end
end Srt
namespace Srt
set_option autoImplicit false
open PySem PyProof.Rows
section
variable {α:Type}
theorem sF (arr:Array α) {P m T:List α} {i j:Nat} (h:arr.toList=P++(m++T)) (hi:i=P.length) (hj:j=P.length+m.length):(mirror arr i j ((j-i) / 2)).toList=P++(m.reverse++T):=by
 subst hi hj
 have sz:arr.size=P.length+(m.length+T.length):=by
  have:=congrArg iP h;simpa using this
 have g:∀ k,arr[k]?=(P++(m++T))[k]?:=λ k=>by rw [<-h,jd]
 refine Aq λ k=>?_;rw [jd,getElem?_mirror_all (by omega),g,g];rcases iU k P.length with c | c
 ·rw [if_neg (by omega),cu c,cu c]
 ·rcases iU k (P.length+m.length) with c2 | c2
  ·rw [if_pos ⟨c,c2⟩,bz (by omega),bz c,cu (by omega),cu (by rw [zx];omega),List.getElem?_reverse (by omega)]
   congr 1
   omega
  ·rw [if_neg (by omega),bz c,bz c,bz (by omega),bz (by rw [zx];omega),zx]
end
section
variable {α:Type} {lb:α->α->Bool}
def Fal (lb:α->α->Bool) (l:List α):Prop:=l.Pairwise λ a b=>le lb b a
theorem Fal.rev {l:List α} (h:Fal lb l):qY lb l.reverse:=yl.mpr h
theorem Fal.tail {u t:List α} (h:Fal lb (u++t)) (e:qY lb t):Fal lb (u++t.reverse):=by
 have a:=eE.mp h;refine eE.mpr ⟨a.1,yl.mpr e,λ x hx y hy=>a.2.2 x hx y (BC.mp hy)⟩
end
end Srt
namespace Srt
set_option autoImplicit false
open PySem PyProof.Rows
section
variable {M:tw} {A:eV} {E:af->ak->Prop} {s:ak} {lb:ay->ay->Bool} {D:ay->Prop} {kd:jx}
structure Rn (arr0 arr:Array ay) (lo n:Nat) (m:List ay):Prop where
 eq:arr.toList=arr0.toList.take lo++(m++arr0.toList.drop (lo+n))
 pm:m.Perm (arr0.extract lo (lo+n)).toList
 hn:lo+n<=arr0.size
variable {arr0 arr:Array ay} {lo n:Nat} {m:List ay}
theorem Rn.len (h:Rn arr0 arr lo n m):m.length=n:=by
 have:=h.hn;rw [h.pm.length_eq,fk,iz];omega
theorem Rn.joined (h:Rn arr0 arr lo n m) (sr:qY lb m):Joined lb arr0 arr lo n:=⟨m,h.eq,sr,h.pm⟩
theorem Rn.start (h:lo+n<=arr0.size):Rn arr0 arr0 lo n (arr0.extract lo (lo+n)).toList:=⟨vZ h,yd _,h⟩
theorem Rn.lp (h:Rn arr0 arr lo n m):(arr0.toList.take lo).length=lo:=by have:=h.hn;simp;omega
theorem Rn.at (h:Rn arr0 arr lo n m) {j:Nat} (hj:j<m.length):arr[lo+j]?=some m[j]:=by
 rw [<-jd,h.eq,bz (by rw [h.lp];omega),h.lp,cu (by omega),show lo+j-lo=j by omega];exact aa hj
theorem Rn.next (h:Rn arr0 arr lo n m) (hk:lo+n<arr0.size):arr[lo+n]?=some arr0[lo+n]:=by
 rw [<-jd,h.eq,bz (by rw [h.lp];omega),h.lp,bz (by rw [h.len];omega),h.len,xV hk,show lo+n-lo-n=0 by omega]
 rfl
theorem Rn.more (h:Rn arr0 arr lo n m) (hk:lo+n<arr0.size):Rn arr0 arr lo (n+1) (m++[arr0[lo+n]]):=by
 refine ⟨?_,?_,by omega⟩
 ·rw [h.eq,xV hk,eh]
  rfl
 ·rw [vJ (i:=lo) (m:=lo+n) (j:=lo+(n+1)) (by omega) (by omega)]
  have:(arr0.extract (lo+n) (lo+(n+1))).toList=[arr0[lo+n]]:=by
   rw [<-uw,xM,xV hk]
   rfl
  rw [this];exact h.pm.append_right _
theorem Rn.dom (h:Rn arr0 arr lo n m) (dd:∀ x∈arr0.toList,D x):∀ x∈m,D x:=λ x hx=>by
 obtain ⟨i,hi,_,_,ei⟩:=qW (h.pm.mem_iff.mp hx);rw [ei];exact dd _ (by simp)
theorem Rn.turn {u v t:List ay} (h:Rn arr0 arr lo n (u++(v++t))) {i j:Nat} (hi:i=lo+u.length) (hj:j=lo+u.length+v.length):Rn arr0 (mirror arr i j ((j-i) / 2)) lo n (u++(v.reverse++t)):=by
 have lp:=h.lp;refine ⟨?_,ql (uz u (uj t (List.reverse_perm v))) h.pm,h.hn⟩;have e:=sF arr (P:=arr0.toList.take lo++u) (m:=v) (T:=t++arr0.toList.drop (lo+n)) (i:=i) (j:=j) (by rw [h.eq];simp only [eh]) (by rw [eI,lp];exact hi) (by rw [eI,lp];exact hj);rw [e];simp only [eh]
theorem kCE (W:Wk lb) {m:List ay} {x:ay} (sr:qY lb m) (h:m.length-1<m.length) (c:le lb m[m.length-1] x):qY lb (m++[x]):=by
 refine eE.mpr ⟨sr,ki _ _,λ y hy z hz=>?_⟩;have:z=x:=by simpa using hz
 subst this;obtain ⟨i,hi,rfl⟩:=ft.mp hy;by_cases e:i=m.length-1
 ·subst e;exact c
 ·exact W.trans (kl.mp sr i (m.length-1) hi h (by omega)) c
abbrev AS:=Option (Option Nat)×Nat
def kBK (lo a nrem:Nat):StateT eJ Sem AS :=
 forIn [a:nrem] ((none,a):AS) λ _ c=>do
  let r <-ltAt' (lo+c.2) (lo+c.2-1)
  match r with
  | some smaller=>if smaller=true then pure (vo (none,c.2)) else pure (iY (none,c.2+1))
  | _=>pure (vo (some none,c.2))
theorem rK (W:Wk lb) (hL:uY M A E s lb D kd) {st:eJ} (hk:kindOf st=kd) (dd:∀ x∈arr0.toList,D x) {nrem:Nat} (hn:lo+nrem<=arr0.size) (n1:1<=n) (nn:n<=nrem) (h:Rn arr0 (cw st) lo n m) (sr:qY lb m) {Q:AS->eJ->Prop}
  (q:∀ k m',n<=k->k<=nrem->Rn arr0 (cw st) lo k m'->qY lb m'->(k=nrem\/∃ (h1:lo+k<arr0.size) (h2:m'.length-1<m'.length),lb arr0[lo+k] m'[m'.length-1]=true)->Q (none,k) st):wpS M A E s (kBK lo n nrem) Q st:=by
 unfold kBK;refine iq (I:=λ x c st'=>st'=st/\c=(none,x)/\∃ m',Rn arr0 (cw st) lo x m'/\qY lb m') ?step ?fin ⟨rfl,rfl,m,h,sr⟩
 case fin =>
  rintro c st' ⟨rfl,rfl,m',h',sr'⟩;rw [show max n nrem=nrem by omega] at h' ⊢;exact q nrem m' nn (be _) h' sr' (.inl rfl)
 case step =>
  rintro x c st' hx1 hx2 ⟨rfl,rfl,m',h',sr'⟩;dsimp only;have lm:=h'.len;have hz:lo+x<arr0.size:=by omega
  have hl:m'.length-1<m'.length:=by omega
  have al:=h'.at hl;rw [show lo+(m'.length-1)=lo+x-1 by omega] at al;refine bu (aV hL hk (h'.next hz) al (dd _ (by simp)) (h'.dom dd _ (fg hl)) ?_)
  cases e:lb arr0[lo+x] m'[m'.length-1]
  case true =>
   simp only [if_true];exact cy (q x m' hx1 (by omega) h' sr' (.inr ⟨hz,hl,e⟩))
  case false =>
   simp only [eD,if_false];exact cy ⟨rfl,rfl,_,h'.more hz,kCE W sr' hl e⟩
end
end Srt
namespace Srt
set_option autoImplicit false
open PySem PyProof.Rows
section
variable {M:tw} {A:eV} {E:af->ak->Prop} {s:ak} {lb:ay->ay->Bool} {D:ay->Prop} {kd:jx}
variable {arr0 arr:Array ay} {lo n:Nat} {m:List ay}
abbrev DS:=Option (Option Nat)×Nat×Nat
def sW (lo n nrem:Nat):StateT eJ Sem DS :=
 forIn [n:nrem] ((none,n,0):DS) λ _ c=>do
  let r <-ltAt' (lo+c.2.1) (lo+c.2.1-1)
  match r with
  | some smaller =>
   if smaller=true then
    if c.2.2>0 then do
     reverseSlice' (lo+c.2.1-(c.2.2+1)) (lo+c.2.1)
     pure (iY (none,c.2.1+1,0))
    else pure (iY (none,c.2.1+1,0))
   else do
    let r <-ltAt' (lo+c.2.1-1) (lo+c.2.1)
    match r with
    | some larger=>if larger=true then pure (vo (none,c.2.1,c.2.2)) else pure (iY (none,c.2.1+1,c.2.2+1))
    | _=>pure (vo (some none,c.2.1,c.2.2))
  | _=>pure (vo (some none,c.2.1,c.2.2))
structure Fl (lb:ay->ay->Bool) (arr0 arr:Array ay) (lo n neq:Nat) (u t:List ay) (z:ay):Prop where
 rn:Rn arr0 arr lo n (u++(t++[z]))
 fal:Fal lb (u++(t++[z]))
 srt:qY lb (t++[z])
 len:t.length=neq
theorem Fl.last {neq:Nat} {u t:List ay} {z:ay} (h:Fl lb arr0 arr lo n neq u t z) (n0:0<n):arr[lo+n-1]?=some z:=by
 have l:=h.rn.len;rw [eI,eI,iu] at l;have:=h.rn.at (j:=n-1) (by rw [eI,eI,iu];omega);rw [show lo+(n-1)=lo+n-1 by omega] at this;rw [this,<-aa,bz (by omega),bz (by omega),show n-1-u.length-t.length=0 by omega]
 rfl
theorem Fl.low (W:Wk lb) {neq:Nat} {u t:List ay} {z x:ay} (h:Fl lb arr0 arr lo n neq u t z) (c:le lb x z):∀ y∈u++(t++[z]),le lb x y:=λ y hy=>by
 have f:=h.fal;rw [Fal,<-eh] at f;rw [<-eh] at hy;rcases eY.mp hy with w | w
 ·exact W.trans c ((eE.mp f).2.2 y w z (by simp))
 ·have:y=z:=by simpa using w
  rw [this];exact c
theorem cF {l:List ay} {x:ay} (h:Fal lb l) (c:∀ y∈l,le lb x y):Fal lb (l++[x]):=by
 refine eE.mpr ⟨h,ki _ _,λ y hy w hw=>?_⟩;have:w=x:=by simpa using hw
 rw [this];exact c y hy
theorem Fl.turned {neq:Nat} {u t:List ay} {z:ay} (h:Fl lb arr0 arr lo n neq u t z):Rn arr0 (mirror arr (lo+n-(neq+1)) (lo+n) ((lo+n-(lo+n-(neq+1))) / 2)) lo n (u++(t++[z]).reverse)/\Fal lb (u++(t++[z]).reverse):=by
 have l:=h.rn.len;have ll:=h.len;rw [eI,eI,iu] at l;refine ⟨?_,h.fal.tail h.srt⟩;have:=Rn.turn (u:=u) (v:=t++[z]) (t:=[]) (by simpa using h.rn) (i:=lo+n-(neq+1)) (j:=lo+n) (by omega) (by rw [eI,iu];omega);simpa using this
theorem kDA (W:Wk lb) (hL:uY M A E s lb D kd) {st:eJ} (hk:kindOf st=kd) (dd:∀ x∈arr0.toList,D x) {nrem:Nat} (hn:lo+nrem<=arr0.size) (n1:1<=n) (nn:n<=nrem) {u:List ay} {z:ay} (h:Fl lb arr0 (cw st) lo n 0 u [] z) {Q:DS->eJ->Prop}
  (q:∀ k neq st' u t z,Sa st st'->n<=k->k<=nrem->Fl lb arr0 (cw st') lo k neq u t z->Q (none,k,neq) st'):wpS M A E s (sW lo n nrem) Q st:=by
 unfold sW;refine iq (I:=λ x c st'=>Sa st st'/\∃ neq u t z,c=(none,x,neq)/\Fl lb arr0 (cw st') lo x neq u t z) ?step ?fin ⟨⟨rfl,rfl,rfl⟩,0,u,[],z,rfl,h⟩
 case fin =>
  rintro c st' ⟨sm,neq,u,t,z,rfl,f⟩;rw [show max n nrem=nrem by omega] at f ⊢;exact q _ _ _ _ _ _ sm nn (be _) f
 case step =>
  rintro x c st' hx1 hx2 ⟨sm,neq,u,t,z,rfl,f⟩;dsimp only;have hz:lo+x<arr0.size:=by omega
  have dz:D z:=f.rn.dom dd z (by simp);have dx:D arr0[lo+x]:=dd _ (by simp);refine bu (aV hL (sm.1.trans hk) (f.rn.next hz) (f.last (by omega)) dx dz ?_)
  cases e:lb arr0[lo+x] z
  case true =>
   simp only [if_true];have lw:=f.low W (W.of_lt e);by_cases k0:neq>0
   ·rw [if_pos k0,yz]
    obtain ⟨r1,r2⟩:=f.turned;refine bu (kj (cy ⟨sm,0,_,[],_,rfl,⟨r1.more hz,cF r2 λ y hy=>lw y ?_,ki _ _,rfl⟩⟩));rcases eY.mp hy with w | w
    ·exact iJ _ w
    ·exact fu _ (BC.mp w)
   ·rw [if_neg k0]
    exact cy ⟨sm,0,_,[],_,rfl,⟨f.rn.more hz,cF f.fal lw,ki _ _,rfl⟩⟩
  case false =>
   simp only [eD,if_false];refine bu (aV hL (sm.1.trans hk) (f.last (by omega)) (f.rn.next hz) dz dx ?_)
   cases e2:lb z arr0[lo+x]
   case true =>
    simp only [if_true];exact cy (q _ _ _ _ _ _ sm hx1 (by omega) f)
   case false =>
    simp only [eD,if_false];refine cy ⟨sm,neq+1,u,t++[z],arr0[lo+x],rfl,⟨by have:=f.rn.more hz;simpa using this,by have:=cF f.fal (f.low W e2);simpa using this,?_,by rw [eI,f.len];rfl⟩⟩;refine kCE W f.srt (by rw [eI,iu];omega) ?_;have:(t++[z])[(t++[z]).length-1]'(by rw [eI,iu];omega)=z:=by simp
    rw [this];exact e
end
end Srt
namespace Srt
set_option autoImplicit false
open PySem PyProof.Rows
def mQ (lo n nrem:Nat):StateT eJ Sem (Option Nat):=do
 reverseSlice' lo (lo+n)
 let c <-kBK lo n nrem
 match c.1 with
 | some r=>pure r
 | none=>pure (some c.2)
def dX (lo n nrem:Nat):StateT eJ Sem (Option Nat):=do
 liftM (rule "list.sort.descending-run")
 let c <-sW lo (n+1) nrem
 match c.1 with
 | some r=>pure r
 | none =>
  if c.2.2>0 then do
   reverseSlice' (lo+c.2.1-(c.2.2+1)) (lo+c.2.1)
   mQ lo c.2.1 nrem
  else mQ lo c.2.1 nrem
theorem lU (lo nrem:Nat):countRun' lo nrem=(do
  let c <-kBK lo 1 nrem
  match c.1 with
  | some r=>pure r
  | none =>
   if (c.2 == nrem)=true then pure (some c.2)
   else if c.2>1 then do
    let r <-ltAt' lo (lo+c.2-1)
    match r with
    | some rose =>
     if rose=true then pure (some c.2)
     else do
      reverseSlice' lo (lo+c.2)
      dX lo c.2 nrem
    | _=>pure none
   else dX lo c.2 nrem):=by
 rw [countRun'_eq];dsimp only;unfold kBK;refine congr (congrArg _ (congrArg _ (funext λ x=>funext λ c=>congrArg _ (funext λ r=>by cases r<;>rfl)))) (funext λ c=>?_);have part:∀ n:Nat,dX lo n nrem=dX lo n nrem:=λ _=>rfl
 cases c.1 with
 | some r=>rfl
 | none =>
  dsimp only;refine ite_congr rfl (λ _=>rfl) (λ _=>ite_congr rfl (λ _=>congrArg _ (funext λ r=>?_)) (λ _=>?_))
  ·cases r with
   | none=>rfl
   | some rose =>
    dsimp only;refine ite_congr rfl (λ _=>rfl) (λ _=>congrArg _ (funext λ _=>?_));unfold dX sW;refine congrArg _ (funext λ _=>congr (congrArg _ (congrArg _ (funext λ x=>funext λ d=>congrArg _ (funext λ r=>?_)))) (funext λ d=>?_))
    ·cases r with
     | none=>rfl
     | some b=>exact ite_congr rfl (λ _=>rfl) (λ _=>congrArg _ (funext λ r=>by cases r<;>rfl))
    ·cases d.1 with
     | some r=>rfl
     | none =>
      unfold mQ kBK;refine ite_congr rfl (λ _=>congrArg _ (funext λ _=>?_)) (λ _=>?_)
      all_goals exact congrArg _ (funext λ _=>congr (congrArg _ (congrArg _ (funext λ x=>funext λ c=>congrArg _ (funext λ r=>by cases r<;>rfl)))) (funext λ c=>by cases c.1<;>rfl))
  ·unfold dX sW
   refine congrArg _ (funext λ _=>congr (congrArg _ (congrArg _ (funext λ x=>funext λ d=>congrArg _ (funext λ r=>?_)))) (funext λ d=>?_))
   ·cases r with
    | none=>rfl
    | some b=>exact ite_congr rfl (λ _=>rfl) (λ _=>congrArg _ (funext λ r=>by cases r<;>rfl))
   ·cases d.1 with
    | some r=>rfl
    | none =>
     unfold mQ kBK;refine ite_congr rfl (λ _=>congrArg _ (funext λ _=>?_)) (λ _=>?_)
     all_goals exact congrArg _ (funext λ _=>congr (congrArg _ (congrArg _ (funext λ x=>funext λ c=>congrArg _ (funext λ r=>by cases r<;>rfl)))) (funext λ c=>by cases c.1<;>rfl))
section
variable {M:tw} {A:eV} {E:af->ak->Prop} {s:ak} {lb:ay->ay->Bool} {D:ay->Prop} {kd:jx}
variable {arr0 arr:Array ay} {lo n:Nat} {m:List ay}
theorem mJ (W:Wk lb) (hL:uY M A E s lb D kd) {st:eJ} (hk:kindOf st=kd) (dd:∀ x∈arr0.toList,D x) {nrem:Nat} (hn:lo+nrem<=arr0.size) (n1:1<=n) (nn:n<=nrem) (h:Rn arr0 (cw st) lo n m) (fa:Fal lb m) {Q:Option Nat->eJ->Prop}
  (q:∀ k st',Sa st st'->1<=k->k<=nrem->Joined lb arr0 (cw st') lo k->Q (some k) st'):wpS M A E s (mQ lo n nrem) Q st:=by
 unfold mQ;rw [yz];refine bu (kj ?_);have t:=Rn.turn (u:=[]) (v:=m) (t:=[]) (by simpa using h) (i:=lo) (j:=lo+n) (by simp) (by rw [h.len];simp);simp only [sj,ir] at t;refine bu (rK (st:=setArr st (mirror (cw st) lo (lo+n) ((lo+n-lo) / 2))) W hL hk dd hn n1 nn t fa.rev λ k m' k1 k2 r' sr' _=>?_);exact cy (q k _ ⟨rfl,rfl,rfl⟩ (by omega) k2 (r'.joined sr'))
theorem mK (W:Wk lb) (hL:uY M A E s lb D kd) {st:eJ} (hk:kindOf st=kd) (dd:∀ x∈arr0.toList,D x) {nrem:Nat} (hn:lo+nrem<=arr0.size) (n1:1<=n) (nn:n<nrem) (h:Rn arr0 (cw st) lo n m) (fa:Fal lb m) (hz:lo+n<arr0.size) (lw:∀ y∈m,le lb arr0[lo+n] y) {Q:Option Nat->eJ->Prop}
  (q:∀ k st',Sa st st'->1<=k->k<=nrem->Joined lb arr0 (cw st') lo k->Q (some k) st'):wpS M A E s (dX lo n nrem) Q st:=by
 unfold dX;refine bu (vC ?_);refine bu (kDA W hL hk dd hn (by omega) (by omega) (u:=m) (z:=arr0[lo+n]) ⟨h.more hz,cF fa lw,ki _ _,rfl⟩ λ k neq st' u t z sm k1 k2 f=>?_);dsimp only;have tr:∀ k st2,Sa st' st2->1<=k->k<=nrem->Joined lb arr0 (cw st2) lo k->Q (some k) st2:=λ k st2 s2=>q k st2 ⟨s2.1.trans sm.1,s2.2.1.trans sm.2.1,s2.2.2.trans sm.2.2⟩;by_cases k0:neq>0
 ·rw [if_pos k0,yz]
  obtain ⟨r1,r2⟩:=f.turned;refine bu (kj ?_);exact mJ (st:=setArr st' (mirror (cw st') (lo+k-(neq+1)) (lo+k) ((lo+k-(lo+k-(neq+1))) / 2))) W hL (sm.1.trans hk) dd hn (by omega) k2 r1 r2 tr
 ·rw [if_neg k0]
  exact mJ W hL (sm.1.trans hk) dd hn (by omega) k2 f.rn f.fal tr
theorem oB (W:Wk lb) (hL:uY M A E s lb D kd) {st:eJ} (hk:kindOf st=kd) (dd:∀ x∈(cw st).toList,D x) {nrem:Nat} (hn:lo+nrem<=(cw st).size) (n1:1<=nrem) {Q:Option Nat->eJ->Prop}
  (q:∀ k st',Sa st st'->1<=k->k<=nrem->Joined lb (cw st) (cw st') lo k->Q (some k) st'):wpS M A E s (countRun' lo nrem) Q st:=by
 rw [lU];have r0:=Rn.start (arr0:=cw st) (lo:=lo) (n:=1) (by omega)
 have s0:qY lb ((cw st).extract lo (lo+1)).toList:=by
  have:=r0.len;generalize ((cw st).extract lo (lo+1)).toList=l at *;exact oW (Ck this)
 refine bu (rK W hL hk dd hn (by omega) n1 r0 s0 λ k m k1 k2 r sr c=>?_);dsimp only;have lm:=r.len;by_cases e:k=nrem
 ·rw [if_pos (by simpa using e)]
  exact cy (q k st ⟨rfl,rfl,rfl⟩ k1 k2 (r.joined sr))
 ·rw [if_neg (by simpa using e)]
  obtain ⟨hz,hl,lt⟩ : ∃ (h1:lo+k<(cw st).size) (h2:m.length-1<m.length),lb (cw st)[lo+k] m[m.length-1]=true:=by
   rcases c with c | c
   ·exact absurd c e
   ·exact c
  by_cases g:k>1
  ·rw [if_pos g]
   have a0:=r.at (j:=0) (by omega);have al:=r.at hl;rw [Cr] at a0;rw [show lo+(m.length-1)=lo+k-1 by omega] at al;refine bu (aV hL hk a0 al (r.dom dd _ (fg _)) (r.dom dd _ (fg _)) ?_)
   cases e2:lb (m[0]'(by omega)) m[m.length-1]
   case true =>
    simp only [if_true];exact cy (q k st ⟨rfl,rfl,rfl⟩ k1 k2 (r.joined sr))
   case false =>
    simp only [eD,if_false];rw [yz];refine bu (kj ?_);have t:=Rn.turn (u:=[]) (v:=m) (t:=[]) (by simpa using r) (i:=lo) (j:=lo+k) (by simp) (by rw [lm];simp);simp only [sj,ir] at t;refine mK (st:=setArr st (mirror (cw st) lo (lo+k) ((lo+k-lo) / 2))) W hL hk dd hn k1 (by omega) t (show List.Pairwise _ _ from yl.mpr sr) hz (λ y hy=>?_) λ k' st' sm=>q k' st' sm;obtain ⟨i,hi,rfl⟩:=ft.mp (BC.mp hy)
    have f0:le lb (m[0]'(by omega)) m[i]:=by
     by_cases z:0=i
     ·subst z;exact W.refl _
     ·exact kl.mp sr 0 i (by omega) hi (by omega)
    exact W.trans (W.of_lt lt) (W.trans e2 f0)
  ·rw [if_neg g]
   have k1':k=1:=by omega
   subst k1'
   exact mK W hL hk dd hn (by omega) (by omega) r (oW (by omega)) hz (λ y hy=>by
    obtain ⟨i,hi,rfl⟩:=ft.mp hy;have e3:i=m.length-1:=by omega
    simp only [e3];exact W.of_lt lt) λ k' st' sm=>q k' st' sm
end
end Srt
namespace Srt
set_option autoImplicit false
open PySem PyProof.Rows
abbrev Pn:=Nat×Nat×Nat
def Tiles:List Pn->Nat->Nat->Prop
 | [],a,b=>a=b
 | x::r,a,b=>x.1=a/\0<x.2.1/\Tiles r (a+x.2.1) b
theorem Tiles.le:∀ {l:List Pn} {a b:Nat},Tiles l a b->a<=b
 | [],a,b,h=>by rw [show a=b from h];exact be _
 | x::r,a,b,h=>by have:=Tiles.le h.2.2;omega
theorem Tiles.app:∀ {l r:List Pn} {a b:Nat},Tiles (l++r) a b↔∃ c,Tiles l a c/\Tiles r c b
 | [],r,a,b=>⟨λ h=>⟨a,rfl,h⟩,λ ⟨c,h1,h2⟩=>by rw [show a=c from h1];exact h2⟩
 | x::l,r,a,b=>by
  constructor
  ·rintro ⟨h1,h2,h3⟩
   obtain ⟨c,h4,h5⟩:=Tiles.app.mp h3;exact ⟨c,⟨h1,h2,h4⟩,h5⟩
  ·rintro ⟨c,⟨h1,h2,h3⟩,h4⟩
   exact ⟨h1,h2,Tiles.app.mpr ⟨c,h3,h4⟩⟩
theorem Tiles.join {l r:List Pn} {a b s n s' n' p p':Nat} (h:Tiles (l++(s,n,p)::(s',n',p')::r) a b):s'=s+n/\0<n/\0<n'/\s+n+n'<=b/\Tiles l a s/\Tiles r (s+n+n') b/\Tiles (l++(s,n+n',p)::r) a b:=by
 obtain ⟨c,h1,h2,h3,h4,h5,h6⟩:=Tiles.app.mp h;have h2:s=c:=h2;have h4:s'=c+n:=h4;have h3:0<n:=h3;have h5:0<n':=h5;have h6:Tiles r (c+n+n') b:=h6;subst h2;refine ⟨h4,h3,h5,h6.le,h1,h6,Tiles.app.mpr ⟨s,h1,rfl,by show 0<n+n';omega,?_⟩⟩;show Tiles r (s+(n+n')) b;rw [<-uw];exact h6
theorem kAE {P:Array Pn} {l r:List Pn} {x y z:Pn} (h:P.toList=l++x::y::r):((P.setIfInBounds l.length z).eraseIdxIfInBounds (l.length+1)).toList=l++z::r:=by
 have sz:P.size=l.length+(r.length+2):=by
  have:=congrArg iP h;simpa using this
 unfold Array.eraseIdxIfInBounds;rw [dif_pos (by rw [Au];omega),Array.toList_eraseIdx,AY,h];rw [List.set_append_right _ _ (be _),Cs,xr (by omega),show l.length+1-l.length=1 by omega]
 rfl
section
variable {lb:ay->ay->Bool} {arr arr':Array ay} {lo n:Nat}
theorem Joined.low (h:Joined lb arr arr' lo n) (hn:lo+n<=arr.size) {a k:Nat} (c:a+k<=lo):(arr'.extract a (a+k)).toList=(arr.extract a (a+k)).toList:=by
 obtain ⟨m,e,_,pm⟩:=h;have lp:(arr.toList.take lo).length=lo:=by simp;omega
 rw [xM,xM,e,List.drop_append_of_le_length (by omega),zi (by rw [iV];omega),ED,EE,iG (by omega)]
theorem Joined.high (h:Joined lb arr arr' lo n) (hn:lo+n<=arr.size) {a k:Nat} (c:lo+n<=a):(arr'.extract a (a+k)).toList=(arr.extract a (a+k)).toList:=by
 obtain ⟨m,e,_,pm⟩:=h
 have l:m.length=n:=by
  rw [pm.length_eq,xM,fb,iV,fk];omega
 have lp:(arr.toList.take lo).length=lo:=by simp;omega
 rw [xM,xM,e,yy,lp,ju (by omega),sj,yy,ju (by omega),sj,AX]
 congr 2
 omega
theorem Joined.here (h:Joined lb arr arr' lo n) (hn:lo+n<=arr.size):qY lb (arr'.extract lo (lo+n)).toList:=by
 obtain ⟨m,e,sr,pm⟩:=h
 have l:m.length=n:=by
  rw [pm.length_eq,xM,fb,iV,fk];omega
 have lp:(arr.toList.take lo).length=lo:=by simp;omega
 rw [xM,e,yy,lp,ju (by omega),sj,Cs,EF,zi (by omega),jt (by omega)];exact sr
theorem Joined.perm (h:Joined lb arr arr' lo n) (hn:lo+n<=arr.size):arr'.toList.Perm arr.toList:=by
 obtain ⟨m,e,sr,pm⟩:=h;rw [e];exact (uz _ (pm.append_right _)).trans (List.Perm.of_eq (vZ hn).symm)
end
end Srt
namespace Srt
set_option autoImplicit false
open PySem PyProof.Rows
section
variable {M:tw} {A:eV} {E:af->ak->Prop} {s:ak} {lb:ay->ay->Bool} {D:ay->Prop} {kd:jx}
structure SI (lb:ay->ay->Bool) (kd:jx) (a0:Array ay) (st:eJ) (lo:Nat):Prop where
 kind:kindOf st=kd
 failed:rf st=none
 perm:(cw st).toList.Perm a0.toList
 tiles:Tiles (cv st).toList 0 lo
 top:lo<=a0.size
 runs:∀ x∈(cv st).toList,qY lb ((cw st).extract x.1 (x.1+x.2.1)).toList
theorem SI.size {a0:Array ay} {st:eJ} {lo:Nat} (h:SI lb kd a0 st lo):(cw st).size=a0.size:=by simpa using h.perm.length_eq
theorem Tiles.in:∀ {l:List Pn} {a b:Nat},Tiles l a b->∀ x∈l,a<=x.1/\x.1+x.2.1<=b
 | y::l,a,b,h,x,hx=>by
  rcases gv.mp hx with rfl | z
  ·have:=h.2.2.le
   have:=h.1;omega
  ·have:=Tiles.in h.2.2 x z
   omega
theorem aM (W:Wk lb) (hL:uY M A E s lb D kd) {a0:Array ay} (dd:∀ x∈a0.toList,D x) {st:eJ} {lo:Nat} (h:SI lb kd a0 st lo) {i:Nat} (hi:i+1<(cv st).size) {Q:Bool->eJ->Prop}
  (q:∀ st',SI lb kd a0 st' lo->(cv st').size+1=(cv st).size->(∀ a k,lo<=a->((cw st').extract a (a+k)).toList=((cw st).extract a (a+k)).toList)->Q true st'):wpS M A E s (mergeAt' i) Q st:=by
 have sp:(cv st).toList=(cv st).toList.take i++(cv st)[i]::(cv st)[i+1]::(cv st).toList.drop (i+2):=by
  conv=>lhs;rw [<-iF i (cv st).toList]
  rw [xV (show i<(cv st).size by omega),xV hi]
  rfl
 have li:((cv st).toList.take i).length=i:=by simp;omega
 have e1:=getElem?_pos (cv st) i (by omega);have e2:=getElem?_pos (cv st) (i+1) hi;have r1:=h.runs _ (by simp:(cv st)[i]∈(cv st).toList);have r2:=h.runs _ (by simp:(cv st)[i+1]∈(cv st).toList);have ti:=h.tiles;have ru:=h.runs;rw [sp] at ti ru;generalize hx:(cv st)[i]=x at *;generalize hy:(cv st)[i+1]=y at *;obtain ⟨sa,na,pa⟩:=x;obtain ⟨sb,nb,pb⟩:=y;obtain ⟨eb,na0,nb0,le,tl,tr,tj⟩:=ti.join;subst eb;have top:=h.top;have sz:=h.size;refine rJ W hL h.kind h.failed (λ x hx=>dd x (h.perm.mem_iff.mp hx)) e1 e2 na0 nb0 (by omega) r1 r2 λ st' k' f' p' j'=>?_;have hn:sa+(na+nb)<=(cw st).size:=by omega
 have pl:(cv st').toList=(cv st).toList.take i++(sa,na+nb,pa)::(cv st).toList.drop (i+2):=by
  have:=kAE (z:=(sa,na+nb,pa)) sp;rw [li] at this;rw [p',this]
 refine q st' ⟨k',f',(j'.perm hn).trans h.perm,by rw [pl];exact tj,top,λ z hz=>?_⟩ ?_ (λ a k hak=>j'.high hn (by omega))
 ·rw [pl] at hz
  rcases eY.mp hz with w | w
  ·have:=tl.in z w
   rw [j'.low hn (by omega)];exact ru z (iJ _ w)
  ·rcases gv.mp w with rfl | w
   ·exact j'.here hn
   ·have:=tr.in z w
    rw [j'.high hn (by omega)];exact ru z (fu _ (eZ _ (eZ _ w)))
 ·have l1:=congrArg iP pl
  have l2:=congrArg iP sp;simp only [fk,eI,iE] at l1 l2;omega
end
end Srt
namespace Srt
set_option autoImplicit false
open PySem PyProof.Rows
theorem Tiles.snoc {l:List Pn} {a b:Nat} {x:Pn} (h:Tiles l a b) (e:x.1=b) (n:0<x.2.1):Tiles (l++[x]) a (b+x.2.1) :=
 Tiles.app.mpr ⟨b,h,e,n,rfl⟩
theorem Tiles.repl:∀ {l:List Pn} {a b:Nat} (k:Nat) (f:Pn->Pn),(∀ x,(f x).1=x.1/\(f x).2.1=x.2.1)->Tiles l a b->Tiles (l.modify k f) a b
 | [],a,b,k,f,hf,h=>by simpa using h
 | x::r,a,b,0,f,hf,h=>by
  obtain ⟨h1,h2,h3⟩:=h;have:=hf x;rw [List.modify_zero_cons];exact ⟨this.1.trans h1,by rw [this.2];exact h2,by rw [this.2];exact h3⟩
 | x::r,a,b,k+1,f,hf,h=>by
  obtain ⟨h1,h2,h3⟩:=h;rw [List.modify_succ_cons];exact ⟨h1,h2,Tiles.repl k f hf h3⟩
theorem kJC {l:List Pn} {k:Nat} {f:Pn->Pn} {x:Pn} (h:x∈l.modify k f):∃ y∈l,x=y\/x=f y:=by
 obtain ⟨i,hi,rfl⟩:=ft.mp h;rw [List.getElem_modify];have hi':i<l.length:=by simpa using hi
 split
 ·exact ⟨l[i],fg _,.inr rfl⟩
 ·exact ⟨l[i],fg _,.inl rfl⟩
theorem Tiles.one:∀ {l:List Pn} {a b:Nat},Tiles l a b->a<b->l.length<=1->∃ p,l=[(a,b-a,p)]
 | [],a,b,h,c,_=>by have:a=b:=h;omega
 | [(s,n,p)],a,b,h,c,_=>by
  obtain ⟨h1,h2,h3⟩:=h;have h1:s=a:=h1;have h3:a+n=b:=h3;refine ⟨p,?_⟩;rw [h1,show n=b-a by omega]
 | _::_::_,a,b,h,c,z=>by simp at z
section
variable {M:tw} {A:eV} {E:af->ak->Prop} {s:ak} {lb:ay->ay->Bool} {D:ay->Prop} {kd:jx}
theorem SI.len {a0:Array ay} {st:eJ} {lo:Nat} (h:SI lb kd a0 st lo):(cv st).size<=lo:=by
 have:∀ (l:List Pn) (a b:Nat),Tiles l a b->a+l.length<=b:=by
  intro l
  induction l with
  | nil=>intro a b h;rw [show a=b from h];simp
  | cons x r ih =>
   intro a b h;have:=ih _ _ h.2.2;have:=h.2.1;rw [iE];omega
 have:=this _ _ _ h.tiles;simpa using this
theorem SI.push {a0:Array ay} {st:eJ} {lo n:Nat} (h:SI lb kd a0 st lo) (n0:0<n) (hn:lo+n<=a0.size) (sr:qY lb ((cw st).extract lo (lo+n)).toList) :
  SI lb kd a0 (setPending st ((cv st).push (lo,n,0))) (lo+n):=by
 refine ⟨h.kind,h.failed,h.perm,?_,hn,?_⟩
 ·show Tiles ((cv st).push (lo,n,0)).toList 0 (lo+n)
  rw [rh];exact h.tiles.snoc rfl n0
 ·intro x hx
  have hx:x∈((cv st).push (lo,n,0)).toList:=hx;rw [rh] at hx;rcases eY.mp hx with z | z
  ·exact h.runs x z
  ·have:x=(lo,n,0):=by simpa using z
   rw [this];exact sr
theorem SI.mod {a0:Array ay} {st:eJ} {lo:Nat} (h:SI lb kd a0 st lo) (k pw:Nat):SI lb kd a0 (setPending st ((cv st).modify k λ (x:Pn)=>(x.1,x.2.1,pw))) lo:=by
 refine ⟨h.kind,h.failed,h.perm,?_,h.top,?_⟩
 ·show Tiles ((cv st).modify k _).toList 0 lo
  rw [CC];exact Tiles.repl k _ (λ x=>⟨rfl,rfl⟩) h.tiles
 ·intro x hx
  have hx:x∈((cv st).modify k λ (x:Pn)=>(x.1,x.2.1,pw)).toList:=hx;rw [CC] at hx;obtain ⟨y,hy,e⟩:=kJC hx;have r:=h.runs y hy;rcases e with rfl | rfl
  ·exact r
  ·exact r
theorem SI.tail {a0:Array ay} {st st':eJ} {lo n:Nat} (h:SI lb kd a0 st lo) (sa:Sa st st') (hn:lo+n<=a0.size) (j:Joined lb (cw st) (cw st') lo n):SI lb kd a0 st' lo:=by
 have sz:=h.size;refine ⟨sa.1.trans h.kind,sa.2.2.trans h.failed,(j.perm (by omega)).trans h.perm,by rw [sa.2.1];exact h.tiles,h.top,λ x hx=>?_⟩;rw [sa.2.1] at hx;have:=h.tiles.in x hx;rw [j.low (by omega) (by omega)];exact h.runs x hx
end
end Srt
namespace Srt
set_option autoImplicit false
open PySem PyProof.Rows
section
variable {M:tw} {A:eV} {E:af->ak->Prop} {s:ak} {lb:ay->ay->Bool} {D:ay->Prop} {kd:jx}
theorem rF (W:Wk lb) (hL:uY M A E s lb D kd) {st:eJ} (hk:kindOf st=kd) (hf:rf st=none) (hp:cv st = #[]) (dd:∀ x∈(cw st).toList,D x) {Q:Unit->eJ->Prop}
  (h:∀ st',(cw st').toList.Perm (cw st).toList->rf st'=none->qY lb (cw st').toList->Q () st'):wpS M A E s sortRuns' Q st:=by
 rw [sortRuns'_eq];refine bu (ye ?_);dsimp only;generalize hsz:(cw st).size=size;generalize hmr:minRun' size size 0=mr
 refine bu (qz (iq
  (I:=λ x c st'=>∃ lo,c=(none,lo)/\SI lb kd (cw st) st' lo/\(x<=lo\/lo=size))
  (Q:=λ c st'=>c=(none,size)/\SI lb kd (cw st) st' size) ?step ?fin ⟨0,rfl,⟨hk,hf,yd _,by rw [hp];rfl,iK _,by rw [hp];simp⟩,.inl (be _)⟩) ?post)
 case fin =>
  rintro c st' ⟨lo,rfl,hI,hx⟩
  have:lo=size:=by
   rcases hx with hx | hx
   ·have:=hI.top;omega
   ·exact hx
  subst this;exact ⟨rfl,hI⟩
 case step =>
  rintro x c st' _ hx ⟨lo,rfl,hI,hx'⟩;dsimp only;have top:=hI.top;have sz':=hI.size;by_cases hge:lo >= size
  ·rw [if_pos hge]
   have:lo=size:=by omega
   subst this;exact cy ⟨rfl,hI⟩
  rw [if_neg hge];have dd':∀ {st2:eJ},SI lb kd (cw st) st2 lo->∀ x∈(cw st2).toList,D x:=λ h x hx=>dd x (h.perm.mem_iff.mp hx);refine bu (oB W hL hI.kind (dd' hI) (by omega) (by omega) λ m st2 sa2 m1 m2 j2=>?_);dsimp only;have hI2:=hI.tail sa2 (by omega) j2;have sr2:=j2.here (by omega);have sz2:=hI2.size;have bin:∀ n,n=min (size-lo) mr->m<mr->m<=n/\0<n/\lo+n<=size:=λ n e h=>by omega
  by_cases hlt:m<mr
  ·rw [if_pos hlt]
   refine bu (vC ?_);generalize hn:min (size-lo) mr=n;obtain ⟨mn,n0,hnl⟩:=bin n hn.symm hlt;refine bu (tF W hL hI2.kind (dd' hI2) mn (by omega) sr2 λ st3 sa3 j3=>?_);simp only [wx,eD,if_false];have hI3:=hI2.tail sa3 (by omega) j3;have sr3:=j3.here (by omega);clear sr2 hI2 j2 sa2 j3 sa3 sz2 m1 m2 mn hlt hn bin;clear m st2;refine bu (ye ?_)
   cases hb:(cv st3).back? with
   | none =>
    dsimp only;exact bu (kj (cy ⟨lo+n,rfl,hI3.push n0 (by omega) sr3,by omega⟩))
   | some z =>
    obtain ⟨s1,n1,z1⟩:=z;dsimp only;generalize power' size (2*s1+n1) (2*s1+n1+n1+n) size=pw
    refine bu (qz (iq (I:=λ _ c st'=>c=(none,())/\SI lb kd (cw st) st' lo/\qY lb ((cw st').extract lo (lo+n)).toList)
     (Q:=λ c st'=>c=(none,())/\SI lb kd (cw st) st' lo/\qY lb ((cw st').extract lo (lo+n)).toList) ?_ (λ _ _ hh=>hh) ⟨rfl,hI3,sr3⟩) ?_)
    ·rintro y c st4 _ hy ⟨rfl,hI4,sr4⟩
     refine bu (ye ?_);by_cases h1:(cv st4).size>1
     ·rw [if_pos h1,getElem?_pos (cv st4) ((cv st4).size-2) (by omega)]
      generalize (cv st4)[(cv st4).size-2]'(by omega)=zz;obtain ⟨y1,y2,y3⟩:=zz;dsimp only;by_cases h2:y3<=pw
      ·rw [if_pos h2]
       exact cy ⟨rfl,hI4,sr4⟩
      ·rw [if_neg h2]
       refine bu (aM W hL dd hI4 (by omega) λ st5 hI5 h5 e5=>?_);simp only [wx,eD,if_false];exact cy ⟨rfl,hI5,by rw [e5 _ _ (be _)];exact sr4⟩
     ·rw [if_neg h1]
      exact cy ⟨rfl,hI4,sr4⟩
    ·rintro c st4 ⟨rfl,hI4,sr4⟩
     dsimp only;refine bu (kj ?_);have hI5:=hI4.mod ((cv st4).size-1) pw;exact bu (kj (cy ⟨lo+n,rfl,hI5.push n0 (by omega) sr4,by omega⟩))
  ·rw [if_neg hlt]
   have hnl:lo+m<=size:=by omega
   have n0:0<m:=by omega
   clear bin hlt m2 m1 j2 sz2 sa2;refine bu (ye ?_)
   cases hb:(cv st2).back? with
   | none =>
    dsimp only;exact bu (kj (cy ⟨lo+m,rfl,hI2.push n0 (by omega) sr2,by omega⟩))
   | some z =>
    obtain ⟨s1,n1,z1⟩:=z;dsimp only;generalize power' size (2*s1+n1) (2*s1+n1+n1+m) size=pw
    refine bu (qz (iq (I:=λ _ c st'=>c=(none,())/\SI lb kd (cw st) st' lo/\qY lb ((cw st').extract lo (lo+m)).toList)
     (Q:=λ c st'=>c=(none,())/\SI lb kd (cw st) st' lo/\qY lb ((cw st').extract lo (lo+m)).toList) ?_ (λ _ _ hh=>hh) ⟨rfl,hI2,sr2⟩) ?_)
    ·rintro y c st4 _ hy ⟨rfl,hI4,sr4⟩
     refine bu (ye ?_);by_cases h1:(cv st4).size>1
     ·rw [if_pos h1,getElem?_pos (cv st4) ((cv st4).size-2) (by omega)]
      generalize (cv st4)[(cv st4).size-2]'(by omega)=zz;obtain ⟨y1,y2,y3⟩:=zz;dsimp only;by_cases h2:y3<=pw
      ·rw [if_pos h2]
       exact cy ⟨rfl,hI4,sr4⟩
      ·rw [if_neg h2]
       refine bu (aM W hL dd hI4 (by omega) λ st5 hI5 h5 e5=>?_);simp only [wx,eD,if_false];exact cy ⟨rfl,hI5,by rw [e5 _ _ (be _)];exact sr4⟩
     ·rw [if_neg h1]
      exact cy ⟨rfl,hI4,sr4⟩
    ·rintro c st4 ⟨rfl,hI4,sr4⟩
     dsimp only;refine bu (kj ?_);have hI5:=hI4.mod ((cv st4).size-1) pw;exact bu (kj (cy ⟨lo+m,rfl,hI5.push n0 (by omega) sr4,by omega⟩))
 case post =>
  rintro c st' ⟨rfl,hI⟩;dsimp only
  have fin:∀ st',SI lb kd (cw st) st' size->(cv st').size<=1->Q () st':=λ st' hI hl=>by
   refine h st' hI.perm hI.failed ?_;by_cases z:0<size
   ·obtain ⟨p,e⟩:=hI.tiles.one z (by simpa using hl)
    have r:=hI.runs (0,size-0,p) (by rw [e];simp);have r:qY lb ((cw st').extract 0 (0+(size-0))).toList:=r;have e1:=hI.size;rw [show 0+(size-0)=(cw st').size by omega,Array.extract_size] at r;exact r
   ·have:(cw st').toList=[]:=qh.mp (by rw [fk];have:=hI.size;omega)
    rw [this];exact Ak
  refine bu (qz (iq (I:=λ x c st'=>c=(none,())/\SI lb kd (cw st) st' size/\(cv st').size+x<=max (size+1) (1+x))
   (Q:=λ c st'=>c=(none,())/\SI lb kd (cw st) st' size/\(cv st').size<=1) ?_ ?_ ⟨rfl,hI,by have:=hI.len;omega⟩) ?_)
  ·rintro x c st' _ hx ⟨rfl,hI,hb⟩
   refine bu (ye ?_);by_cases h1:(cv st').size<=1
   ·rw [if_pos h1]
    exact cy ⟨rfl,hI,h1⟩
   rw [if_neg h1];have hg:∀ b:Bool,(if b=true then (cv st').size-2-1 else (cv st').size-2)+1<(cv st').size:=λ b=>by split<;>omega
   replace hg:=hg (Option.any (λ x=>decide (x<((cv st')[(cv st').size-2+1]?.elim 0 λ x=>x.snd.fst))) (if (cv st').size-2>0 then EG (λ x=>x.snd.fst) (cv st')[(cv st').size-2-1]? else none))
   generalize (if (if (cv st').size-2>0 then EG (λ x=>x.snd.fst) (cv st')[(cv st').size-2-1]? else none).any _=true then (cv st').size-2-1 else (cv st').size-2)=i at hg ⊢;refine bu (aM W hL dd hI hg λ st2 hI2 h2 _=>?_);simp only [wx,eD,if_false];exact cy ⟨rfl,hI2,by omega⟩
  ·rintro c st' ⟨rfl,hI,hb⟩
   exact ⟨rfl,hI,by omega⟩
  ·rintro c st' ⟨rfl,hI,hb⟩
   exact cy (fin _ hI hb)
end
end Srt
namespace Srt
set_option autoImplicit false
open PySem PySem.W PyProof.Rows
def lexLt:List Int->List Int->Bool
 | [],[]=>false
 | [],_::_=>true
 | _::_,[]=>false
 | a::x,b::y=>if a=b then lexLt x y else decide (a<b)
theorem lex_irr:∀ x,lexLt x x=false
 | []=>rfl
 | a::x=>by rw [lexLt,if_pos rfl];exact lex_irr x
theorem lex_tr:∀ x y z,lexLt x y=true->lexLt y z=true->lexLt x z=true
 | [],[],_,h,_=>nomatch h
 | [],_::_,[],_,h=>nomatch h
 | [],_::_,_::_,_,_=>rfl
 | _::_,[],_,h,_=>nomatch h
 | _::_,_::_,[],_,h=>nomatch h
 | a::x,b::y,c::z,h,k=>by
  rw [lexLt] at *;by_cases e:a=b
  ·subst e
   rw [if_pos rfl] at h;by_cases e2:a=c
   ·subst e2
    rw [if_pos rfl] at k ⊢;exact lex_tr x y z h k
   ·rw [if_neg e2] at k ⊢
    exact k
  ·rw [if_neg e] at h
   by_cases e2:b=c
   ·subst e2
    rw [if_neg e];exact h
   ·rw [if_neg e2] at k
    have h:=of_decide_eq_true h;have k:=of_decide_eq_true k;rw [if_neg (by omega)];exact decide_eq_true (by omega)
theorem lex_neg:∀ x y z,lexLt x z=true->lexLt x y=true\/lexLt y z=true
 | [],[],z,h=>.inr h
 | [],_::_,z,h=>.inl rfl
 | _::_,_,[],h=>nomatch h
 | _::_,[],_::_,h=>.inr rfl
 | a::x,b::y,c::z,h=>by
  rw [lexLt] at *;by_cases e:a=c
  ·subst e
   rw [if_pos rfl] at h;by_cases e2:a=b
   ·subst e2
    rw [if_pos rfl,lexLt,if_pos rfl];exact lex_neg x y z h
   ·rw [if_neg e2,lexLt,if_neg (λ q=>e2 q.symm)]
    by_cases l:a<b
    ·exact .inl (decide_eq_true l)
    ·exact .inr (decide_eq_true (by omega))
  ·rw [if_neg e] at h
   have h:=of_decide_eq_true h;by_cases e2:a=b
   ·subst e2
    rw [lexLt,if_neg e];exact .inr (decide_eq_true h)
   ·rw [if_neg e2]
    by_cases l:a<b
    ·exact .inl (decide_eq_true l)
    ·rw [lexLt,if_neg (by omega)]
     exact .inr (decide_eq_true (by omega))
theorem lex_tot:∀ x y,lexLt x y=false->lexLt y x=false->x=y
 | [],[],_,_=>rfl
 | [],_::_,h,_=>nomatch h
 | _::_,[],_,h=>nomatch h
 | a::x,b::y,h,k=>by
  rw [lexLt] at *;by_cases e:a=b
  ·subst e
   rw [if_pos rfl] at h k;rw [lex_tot x y h k]
  ·rw [if_neg e] at h
   rw [if_neg (λ q=>e q.symm)] at k;have h:=of_decide_eq_false h;have k:=of_decide_eq_false k;omega
def keyOf (h:gw):af->List Int
 | .ref a=>match h.get? a with
  | some o=>match o.data with
   | .seq xs _=>xs.toList.map numOf
   | _=>[]
  | none=>[]
 | _=>[]
def lbT (h:gw) (x y:ay):Bool:=lexLt (keyOf h x.1) (keyOf h y.1)
theorem kMH (h:gw):Wk (lbT h):=⟨λ a=>lex_irr _,λ a b c=>lex_neg _ _ _,λ a b c=>lex_tr _ _ _⟩
def TupI (h:gw) (v:af):Prop:=∃ a o xs n,v=.ref a/\h.get? a=some o/\o.cls=.type "tuple"/\o.data=.seq xs n/\(∀ u∈xs.toList,∃ k t,u=.int k t)/\0<xs.size
theorem TupI.kept {h h':gw} {v:af} (x:TupI h v) (k:∀ a o,o.cls=.type "tuple"->h.get? a=some o->h'.get? a=some o):TupI h' v/\keyOf h' v=keyOf h v:=by
 obtain ⟨a,o,xs,n,rfl,ho,hc,hd,hi,hz⟩:=x;refine ⟨⟨a,o,xs,n,rfl,k _ _ hc ho,hc,hd,hi,hz⟩,?_⟩;unfold keyOf;simp only [ho,k _ _ hc ho]
theorem TupI.key {h:gw} {a:ah} {o:Obj} {xs:Array af} {n:Nat} (ho:h.get? a=some o) (hd:o.data=.seq xs n):keyOf h (.ref a)=xs.toList.map numOf:=by
 unfold keyOf;simp only [ho,hd]
section
variable {prog:eU} {w:gk} {A:eV} {E:af->ak->Prop} {s:ak}
theorem sK {Q:Bool->ak->Prop}:∀ (xs ys:List af) (i:Nat),(∀ u∈xs,∃ k t,u=uu k t)->(∀ u∈ys,∃ k t,u=uu k t)->Q (lexLt (xs.map numOf) (ys.map numOf)) s->KatLex prog w A true (decide (xs.length<ys.length)) Q (xs.zip ys) i s
 | [],[],i,_,_,h=>by exact h
 | [],_::_,i,_,_,h=>by exact h
 | _::_,[],i,_,_,h=>by exact h
 | x::xs,y::ys,i,hx,hy,h=>by
  obtain ⟨a,t,rfl⟩:=hx x (fv ..);obtain ⟨b,u,rfl⟩:=hy y (fv ..);rw [List.zip_cons_cons,show decide ((uu a t::xs).length<(uu b u::ys).length)=decide (xs.length<ys.length) by simp];refine kat_cons (DF ?_);have h:Q (if a=b then lexLt (xs.map numOf) (ys.map numOf) else decide (a<b)) s:=h;by_cases e:a=b
  ·rw [if_pos e] at h
   rw [beq_iff_eq.mpr e];exact kat_yes (sK xs ys (i+1) (λ u hu=>hx u (eZ _ hu)) (λ u hu=>hy u (eZ _ hu)) h)
  ·rw [if_neg e] at h
   rw [beq_eq_false_iff_ne.mpr e];refine kat_no ?_;rw [Es]
   cases i == 0 with
   | true=>exact oneLt_int h
   | false=>exact kat_one _ _ (FZ h)
theorem kDZ:uY (model prog w) A E s (lbT s.heap) (λ x=>TupI s.heap x.1) (tuples' true):=by
 intro x y hx hy st Q hk q;obtain ⟨a,oa,xs,n,ea,ha,ca,da,ia,za⟩:=hx;obtain ⟨b,ob,ys,m,eb,hb,cb,db,ib,zb⟩:=hy;rw [lt'_eq];refine bu (ye ?_);rw [hk]
 have q:Q (some (lexLt (xs.toList.map numOf) (ys.toList.map numOf))) st:=by
  have:lbT s.heap x y=lexLt (xs.toList.map numOf) (ys.toList.map numOf):=by
   unfold lbT;rw [ea,eb,TupI.key ha da,TupI.key hb db]
  rw [<-this];exact q
 rw [ea,eb];refine bu (wpS_lift (CI (kat_lt ha da hb db ?_)))
 have:=sK (prog:=prog) (w:=w) (A:=A) (s:=s) (Q:=λ b s'=>s'=s/\wpS (model prog w) A E s (match (Except.ok b:Except af Bool) with
  | .ok b=>pure (some b)
  | .error e=>do
   modify (λ s=>BP (kindOf s) (cw s) (cv s) (gallopOf s) (some e))
   pure none) Q st) xs.toList ys.toList 0 ia ib ⟨rfl,cy q⟩
 simpa using this
end
end Srt
namespace Fc
open Cyc Tri Rnd
section
variable {α:Type} {le:α->α->Bool}
theorem uI (anti:∀ a b,le a b=true->le b a=true->a=b):∀ {l m:List α},l.Perm m->l.Pairwise (λ a b=>le a b=true)->m.Pairwise (λ a b=>le a b=true)->l=m
 | [],m,p,_,_=>(List.nil_perm.mp p).symm
 | a::l,m,p,hl,hm=>by
  match m,p,hm with
  | [],p,_=>exact absurd p.length_eq (by simp)
  | b::m,p,hm =>
   have hl':=uk.mp hl;have hm':=uk.mp hm
   have e:a=b:=by
    rcases gv.mp (p.mem_iff.mp (fv ..)) with z | z
    ·exact z
    ·rcases gv.mp (p.mem_iff.mpr (fv ..)) with y | y
     ·exact y.symm
     ·exact anti a b (hl'.1 b y) (hm'.1 a z)
   subst e;rw [uI anti (List.Perm.cons_inv p) hl'.2 hm'.2]
theorem kBR (tr:∀ a b c,le a b=true->le b c=true->le a c=true) (tot:∀ a b,(le a b || le b a)=true) (anti:∀ a b,le a b=true->le b a=true->a=b) {l m:List α} (p:l.Perm m) (h:l.Pairwise (λ a b=>le a b=true)):l=m.mergeSort le :=
 uI anti (p.trans (zy m le).symm) h (List.pairwise_mergeSort tr tot m)
end
def leP (a b:Nat×Nat):Bool:=decide (a.1<b.1\/a.1=b.1/\a.2<=b.2)
theorem bU {a b:Nat×Nat}:leP a b=true↔a.1<b.1\/a.1=b.1/\a.2<=b.2:=decide_eq_true_iff
def sortP (T:List (Nat×Nat)):List (Nat×Nat):=T.mergeSort leP
theorem sortP_is {l m:List (Nat×Nat)} (p:l.Perm m) (h:l.Pairwise (λ a b=>leP a b=true)):l=sortP m :=
 kBR (λ a b c h k=>by rw [bU] at *;omega) (λ a b=>by
  rw [BY,bU,bU];omega) (λ a b h k=>by
  rw [bU] at h k;exact vi (by omega) (by omega)) p h
theorem sortP_perm (T:List (Nat×Nat)):(sortP T).Perm T:=zy T leP
def zl (l:List Nat):List Int:=l.map λ n:Nat=>(n:Int)
theorem zl_inj:∀ {a b:List Nat},zl a=zl b->a=b
 | [],[],_=>rfl
 | [],_::_,h=>nomatch h
 | _::_,[],h=>nomatch h
 | a::l,b::m,h=>by
  unfold zl at h;rw [iW,iW] at h;injection h with h1 h2
  rw [zl_inj (a:=l) (b:=m) h2,show a=b by omega]
def leL (a b:List Nat):Bool:=!Srt.lexLt (zl b) (zl a)
theorem leL_iff {a b:List Nat}:leL a b=true↔Srt.lexLt (zl b) (zl a)=false:=by
 unfold leL
 cases Srt.lexLt (zl b) (zl a)<;>simp
def sortL (T:List (List Nat)):List (List Nat):=T.mergeSort leL
theorem kMG (a b c:List Nat) (h:leL a b=true) (k:leL b c=true):leL a c=true:=by
 rw [leL_iff] at *
 cases e:Srt.lexLt (zl c) (zl a) with
 | false=>rfl
 | true =>
  rcases Srt.lex_neg _ (zl b) _ e with z | z
  ·rw [k] at z;cases z
  ·rw [h] at z;cases z
theorem kJE (a b:List Nat):(leL a b || leL b a)=true:=by
 rw [BY,leL_iff,leL_iff]
 cases e:Srt.lexLt (zl b) (zl a) with
 | false=>exact .inl rfl
 | true =>
  right
  cases f:Srt.lexLt (zl a) (zl b) with
  | false=>rfl
  | true =>
   have:=Srt.lex_tr _ _ _ e f;rw [Srt.lex_irr] at this;cases this
theorem kGP (a b:List Nat) (h:leL a b=true) (k:leL b a=true):a=b:=by
 rw [leL_iff] at h k;exact zl_inj (Srt.lex_tot _ _ k h)
theorem sortL_is {l m:List (List Nat)} (p:l.Perm m) (h:l.Pairwise (λ a b=>leL a b=true)):l=sortL m:=kBR kMG kJE kGP p h
theorem sortL_perm (T:List (List Nat)):(sortL T).Perm T:=zy T leL
theorem leP_leL (a b:Nat×Nat):leL [a.1,a.2] [b.1,b.2]=leP a b:=by
 rw [jl,leL_iff,bU];show Srt.lexLt [(b.1:Int),(b.2:Int)] [(a.1:Int),(a.2:Int)]=false↔_;unfold Srt.lexLt;by_cases e:(b.1:Int)=a.1
 ·rw [if_pos e]
  unfold Srt.lexLt;by_cases f:(b.2:Int)=a.2
  ·rw [if_pos f]
   exact ⟨λ _=>by omega,λ _=>rfl⟩
  ·rw [if_neg f]
   rw [decide_eq_false_iff_not];omega
 ·rw [if_neg e]
  rw [decide_eq_false_iff_not];omega
open Classical in
noncomputable def per (W:Rows) (t:Nat×Nat):Nat:=if h:∃ k,0<k/\it (nxt W) k t=t/\∀ j,0<j->j<k->it (nxt W) j t≠t then iZ h else 0
theorem per_is {W:Rows} {t:Nat×Nat} {k:Nat} (h0:0<k) (h1:it (nxt W) k t=t) (h2:∀ j,0<j->j<k->it (nxt W) j t≠t):per W t=k:=by
 have ex:∃ k,0<k/\it (nxt W) k t=t/\∀ j,0<j->j<k->it (nxt W) j t≠t:=⟨k,h0,h1,h2⟩;unfold per;rw [dif_pos ex];obtain ⟨a,b,c⟩:=fm ex;generalize iZ ex=m at *;rcases yb m k with l | l | l
 ·exact absurd b (h2 m a l)
 ·exact l
 ·exact absurd h1 (c k h0 l)
noncomputable def rnd (W:Rows) (t:Nat×Nat):List (Nat×Nat):=(fc (per W t)).map λ i=>it (nxt W) i t
noncomputable def fstep (W:Rows) (st:List (List Nat)×List (Nat×Nat)) (t:Nat×Nat):List (List Nat)×List (Nat×Nat) :=
 if t∈st.2 then st else (st.1++[(rnd W t).map (·.1)],st.2++rnd W t)
noncomputable def fgo (W:Rows) (S:List (Nat×Nat)):List (List Nat)×List (Nat×Nat):=S.foldl (fstep W) ([],[])
theorem fgo_snoc (W:Rows) (S:List (Nat×Nat)) (t:Nat×Nat):fgo W (S++[t])=fstep W (fgo W S) t:=by
 unfold fgo;rw [Ct]
 rfl
def stepsS (W:Rows):List (Nat×Nat):=sortP (kK W)
def tiesS (W:Rows):List (Nat×Nat):=(stepsS W).filter λ t=>decide (t.1<t.2)
noncomputable def facesU (W:Rows):List (List Nat):=(fgo W (stepsS W)).1
noncomputable def facesS (W:Rows):List (List Nat):=sortL (facesU W)
theorem mem_stepsS {W:Rows} {t:Nat×Nat}:t∈stepsS W↔E W t.1 t.2:=by
 unfold stepsS;rw [(sortP_perm _).mem_iff];exact mem_steps
section
variable {W:Rows} (S:Nb W)
theorem lC (S:Nb W):Rnd.Perm (nxt W) (kK W):=uK S.nd S.sym
theorem wY (S:Nb W) {t:Nat×Nat} (h:t∈kK W):0<per W t/\per W t<=(kK W).length/\it (nxt W) (per W t) t=t/\∀ j,0<j->j<per W t->it (nxt W) j t≠t:=by
 obtain ⟨k,h1,h2,h3,h4⟩:=(lC S).comes h;have e:=per_is h1 h3 h4;rw [e];exact ⟨h1,h2,h3,h4⟩
theorem rnd_nodup (S:Nb W) {t:Nat×Nat} (h:t∈kK W):(rnd W t).Nodup:=(lC S).round_nodup h (wY S h).2.2.2
theorem rnd_len (W:Rows) (t:Nat×Nat):(rnd W t).length=per W t:=by unfold rnd;simp
theorem rnd_sub (S:Nb W) {t u:Nat×Nat} (h:t∈kK W) (hu:u∈rnd W t):u∈kK W:=by
 unfold rnd at hu;obtain ⟨i,_,rfl⟩:=gi.mp hu;exact (lC S).it i h
theorem jN (S:Nb W) {t u:Nat×Nat} (h:t∈kK W):u∈rnd W t↔∃ j,it (nxt W) j t=u:=by
 obtain ⟨p0,_,back,_⟩:=wY S h;unfold rnd;rw [gi];constructor
 ·rintro ⟨i,_,e⟩
  exact ⟨i,e⟩
 ·rintro ⟨j,e⟩
  refine ⟨j % per W t,iM.mpr (AZ _ p0),?_⟩;rw [<-aS _ _ back];exact e
theorem rnd_self (S:Nb W) {t:Nat×Nat} (h:t∈kK W):t∈rnd W t:=(jN S h).mpr ⟨0,rfl⟩
theorem bJ (S:Nb W) {t u:Nat×Nat} (h:t∈kK W) (hu:u∈rnd W t):nxt W u∈rnd W t:=by
 obtain ⟨j,rfl⟩:=(jN S h).mp hu;exact (jN S h).mpr ⟨j+1,rfl⟩
structure FI (W:Rows) (T:List (Nat×Nat)) (st:List (List Nat)×List (Nat×Nat)):Prop where
 reps:∃ R:List (Nat×Nat),(∀ r∈R,r∈T)/\st.1=R.map (λ r=>(rnd W r).map (·.1))/\st.2=R.flatMap (rnd W)
 nd:st.2.Nodup
 sub:∀ t∈st.2,t∈kK W
 cl:∀ t∈st.2,nxt W t∈st.2
 cov:∀ t∈T,t∈st.2
theorem FI.start (W:Rows):FI W [] ([],[]):=⟨⟨[],by simp,rfl,rfl⟩,xm,by simp,by simp,by simp⟩
theorem FI.it {T:List (Nat×Nat)} {st:List (List Nat)×List (Nat×Nat)} (h:FI W T st) {t:Nat×Nat} (ht:t∈st.2) (j:Nat):it (nxt W) j t∈st.2:=by
 induction j with
 | zero=>exact ht
 | succ j ih=>exact h.cl _ ih
theorem FI.step (S:Nb W) {T:List (Nat×Nat)} {st:List (List Nat)×List (Nat×Nat)} (h:FI W T st) {t:Nat×Nat} (ht:t∈kK W):FI W (T++[t]) (fstep W st t):=by
 unfold fstep;obtain ⟨R,r1,r2,r3⟩:=h.reps
 split
 ·rename_i c
  refine ⟨⟨R,λ r hr=>iJ _ (r1 r hr),r2,r3⟩,h.nd,h.sub,h.cl,λ u hu=>?_⟩;rcases eY.mp hu with z | z
  ·exact h.cov u z
  ·rw [fw.mp z]
   exact c
 ·rename_i c
  have dis:∀ a∈st.2,∀ b∈rnd W t,a≠b:=λ a ha b hb e=>by
   subst e;obtain ⟨j,rfl⟩:=(jN S ht).mp hb;obtain ⟨p0,_,back,_⟩:=wY S ht
   have:Rnd.it (nxt W) (per W t*(j+1)-j) (Rnd.it (nxt W) j t)=t:=by
    have le:j<=per W t*(j+1):=je (zg j) (Nat.le_mul_of_pos_left _ p0);rw [<-yB,Nat.sub_add_cancel le,aS _ _ back,Nat.mul_mod_right]
    rfl
   rw [<-this] at c;exact c (h.it ha _)
  refine ⟨⟨R++[t],λ r hr=>?_,by rw [gq,r2];rfl,by rw [AA,r3,yf]⟩,?_,λ u hu=>?_,λ u hu=>?_,λ u hu=>?_⟩
  ·rcases eY.mp hr with z | z
   ·exact iJ _ (r1 r z)
   ·exact fu _ z
  ·exact iT.mpr ⟨h.nd,rnd_nodup S ht,dis⟩
  ·rcases eY.mp hu with z | z
   ·exact h.sub u z
   ·exact rnd_sub S ht z
  ·rcases eY.mp hu with z | z
   ·exact iJ _ (h.cl u z)
   ·exact fu _ (bJ S ht z)
  ·rcases eY.mp hu with z | z
   ·exact iJ _ (h.cov u z)
   ·rw [fw.mp z]
    exact fu _ (rnd_self S ht)
theorem fgo_ok (S:Nb W):∀ (T:List (Nat×Nat)),(∀ t∈T,t∈kK W)->FI W T (fgo W T):=by
 intro T
 have:∀ (n:Nat),n<=T.length->(∀ t∈T,t∈kK W)->FI W (T.take n) (fgo W (T.take n)):=λ n=>by
  induction n with
  | zero=>intro _ _;rw [BD];exact FI.start W
  | succ n ih =>
   intro hn hT;have h:=ih (by omega) hT;have e:T.take (n+1)=T.take n++[T[n]]:=by rw [oq,aa (by omega)];rfl
   rw [e,fgo_snoc];exact h.step S (hT _ (fg _))
 intro hT;have:=this T.length (be _) hT;rwa [ig] at this
theorem FI.len {T:List (Nat×Nat)} {st:List (List Nat)×List (Nat×Nat)} (h:FI W T st):st.2.length<=(kK W).length:=eX h.nd h.sub
end
theorem kHB {α:Type} (l:List α) (p:α->Bool):(l.filter p).length+(l.filter λ x=>!p x).length=l.length:=by
 induction l with
 | nil=>rfl
 | cons x l ih =>
  rw [ip,ip,iE]
  cases p x<;>simp<;>omega
section
variable {W:Rows}
theorem kGK (S:Nb W) {t:Nat×Nat} (h:t∈kK W):nxt W t≠t:=λ e=>by
 have a:=S.e (mem_steps.mp (show (t.1,t.2)∈kK W from h));have:(nxt W t).1=t.2:=rfl;rw [e] at this;exact a.2.2 this.symm
theorem kMF (S:Nb W):(stepsS W).Nodup:=(sortP_perm _).nodup_iff.mpr (dU S.nd)
theorem ties_len (S:Nb W):2*(tiesS W).length=(kK W).length:=by
 have nd:=kMF S;have l:(stepsS W).length=(kK W).length:=(sortP_perm _).length_eq;have tot:=kHB (stepsS W) λ t=>decide (t.1<t.2)
 have perm:(((stepsS W).filter λ t=>!decide (t.1<t.2)).map λ t=>(t.2,t.1)).Perm ((stepsS W).filter λ t=>decide (t.1<t.2)):=by
  refine (Aa ?_ (nd.filter _)).mpr λ t=>?_
  ·exact kg.mpr ((nd.filter _).imp λ {a b} h e=>h (by
    injection e with e1 e2
    exact vi e2 e1))
  ·constructor
   ·intro h
    obtain ⟨u,hu,rfl⟩:=gi.mp h;obtain ⟨a,b⟩:=iC.mp hu;have e:=mem_stepsS.mp a;have ne:=(S.e e).2.2;refine iC.mpr ⟨mem_stepsS.mpr (S.sym _ _ e),?_⟩;have b:¬ u.1<u.2:=by simpa using b
    exact decide_eq_true (show u.2<u.1 by omega)
   ·intro h
    obtain ⟨a,b⟩:=iC.mp h;have b:=of_decide_eq_true b;refine gi.mpr ⟨(t.2,t.1),iC.mpr ⟨mem_stepsS.mpr (S.sym _ _ (mem_stepsS.mp a)),?_⟩,rfl⟩;have:¬ t.2<t.1:=by omega
    simpa using this
 have e:=perm.length_eq;rw [aj] at e;unfold tiesS;omega
theorem tD (S:Nb W):(fgo W (stepsS W)).2.Perm (kK W):=by
 have fi:=fgo_ok S (stepsS W) λ t h=>(sortP_perm _).mem_iff.mp h;exact (Aa fi.nd (dU S.nd)).mpr λ t=>⟨fi.sub t,λ h=>fi.cov t ((sortP_perm _).mem_iff.mpr h)⟩
theorem faces_sum (S:Nb W):((facesU W).map iP).sum=(kK W).length:=by
 have fi:=fgo_ok S (stepsS W) λ t h=>(sortP_perm _).mem_iff.mp h;obtain ⟨R,_,r2,r3⟩:=fi.reps;have e:=(tD S).length_eq;unfold facesU;rw [r2,<-e,r3,CA,AF]
 congr 1
 refine CD λ r _=>?_;show ((rnd W r).map _).length=_;rw [aj]
theorem kMW (S:Nb W):(∀ f∈facesS W,f.length=3)↔∀ t∈kK W,(nxt W (nxt W t)).2=t.1:=by
 have fi:=fgo_ok S (stepsS W) λ t h=>(sortP_perm _).mem_iff.mp h;obtain ⟨R,r1,r2,r3⟩:=fi.reps
 have memF:∀ f,f∈facesS W↔∃ r∈R,f=(rnd W r).map (·.1):=λ f=>by
  unfold facesS;rw [(sortL_perm _).mem_iff];unfold facesU;rw [r2,gi];exact ⟨λ ⟨r,a,b⟩=>⟨r,a,b.symm⟩,λ ⟨r,a,b⟩=>⟨r,a,b.symm⟩⟩
 have rs:∀ r∈R,r∈kK W:=λ r hr=>(sortP_perm _).mem_iff.mp (r1 r hr);constructor
 ·intro h t ht
  have hm:=(tD S).mem_iff.mpr ht;rw [r3,xp] at hm;obtain ⟨r,hr,htr⟩:=hm;have l3:=h _ ((memF _).mpr ⟨r,hr,rfl⟩);rw [aj,rnd_len] at l3;obtain ⟨j,rfl⟩:=(jN S (rs r hr)).mp htr;have back:=(wY S (rs r hr)).2.2.1;rw [l3] at back
  have e:nxt W (nxt W (nxt W (it (nxt W) j r)))=it (nxt W) j r:=by
   show it (nxt W) 3 (it (nxt W) j r)=_;rw [<-yB,BM,yB,back]
  have e1:(nxt W (nxt W (nxt W (it (nxt W) j r)))).1=(nxt W (nxt W (it (nxt W) j r))).2:=rfl;rw [e] at e1;exact e1.symm
 ·intro h f hf
  obtain ⟨r,hr,rfl⟩:=(memF f).mp hf;have hs:=rs r hr;rw [aj,rnd_len];have to:=(lC S).to
  have three:it (nxt W) 3 r=r:=by
   show nxt W (nxt W (nxt W r))=r;have a:=h r hs;have b:=h _ (to r hs);have e1:(nxt W (nxt W (nxt W r))).1=r.1:=a;have e2:(nxt W (nxt W (nxt W r))).2=r.2:=b;exact vi e1 e2
  refine per_is (by decide) three λ j j0 j3=>?_;have:j=1\/j=2:=by omega
  rcases this with rfl | rfl
  ·exact kGK S hs
  ·intro e
   have e:nxt W (nxt W r)=r:=e;have three:nxt W (nxt W (nxt W r))=r:=three;rw [e] at three;exact kGK S hs three
theorem three_cornered (S:Nb W):(W.length+(facesS W).length=(tiesS W).length+2/\∀ f∈facesS W,f.length=3)↔((∀ t∈kK W,(nxt W (nxt W t)).2=t.1)/\(kK W).length+12=6*W.length):=by
 rw [<-kMW S];have tl:=ties_len S;have fs:=faces_sum S;have fl:(facesS W).length=(facesU W).length:=(sortL_perm _).length_eq
 have key:(∀ f∈facesS W,f.length=3)->3*(facesS W).length=(kK W).length:=λ h=>by
  have h':∀ f∈facesU W,f.length=3:=λ f hf=>h f ((sortL_perm _).mem_iff.mpr hf);rw [fl,<-fs];generalize facesU W=F at h';clear h fs fl
  induction F with
  | nil=>rfl
  | cons f F ih =>
   rw [iW,AV,iE,<-ih λ g hg=>h' g (eZ _ hg),h' f (fv ..)];omega
 constructor
 ·rintro ⟨a,b⟩
  have:=key b;exact ⟨b,by omega⟩
 ·rintro ⟨b,a⟩
  have:=key b;exact ⟨by omega,b⟩
end
end Fc
namespace Srt
set_option autoImplicit false
open PySem PySem.W PyProof.Rows
def kJZ (lb:ay->ay->Bool) (l:List af):Prop:=l.Pairwise λ u v=>le lb (u,u) (v,v)
theorem kLW {lb:ay->ay->Bool} {vs:List af} {l:List ay} (p:l.Perm (vs.zip vs)) (sr:qY lb l):(l.map (·.2)).Perm vs/\kJZ lb (l.map (·.2)):=by
 have same:∀ x∈l,x=(x.2,x.2):=λ x hx=>by
  have:=(mem_zip_self (p.mem_iff.mp hx)).1;obtain ⟨a,b⟩:=x;have:a=b:=this;rw [this]
 refine ⟨?_,?_⟩
 ·have:=p.map (λ x:ay=>x.2)
  rwa [show (vs.zip vs).map (λ x:ay=>x.2)=vs from BE (be _)] at this
 ·refine kg.mpr (sr.imp_of_mem λ {x y} hx hy h=>?_)
  rw [<-same x hx,<-same y hy];exact h
section
variable {prog:eU} {w:gk} {A:eV} {E:af->ak->Prop} {s:ak}
theorem kFR {lb:ay->ay->Bool} {D:ay->Prop} {kd:jx} (W:Wk lb) {a:ah} {vs:List af} {n:Nat} {P:uv->ak->Prop} (ho:s.heap.get? a=some (seqObj "list" vs.toArray n)) (hz:vs.length<=sizeLine)
  (hkk:2<=vs.length->∀ (h6:gw),(∀ b o,o.cls≠.type "list"->s.heap.get? b=some o->h6.get? b=some o)->∀ Q:jx->ak->Prop,Q kd { s with heap:=h6 }->de (model prog w) A (keyKind' vs.toArray) Q E { s with heap:=h6 })
  (hL:∀ (h6:gw),(∀ b o,o.cls≠.type "list"->s.heap.get? b=some o->h6.get? b=some o)->uY (model prog w) A E { s with heap:=h6 } lb D kd) (dd:∀ v∈vs,D (v,v))
  (h:∀ out:List af,out.Perm vs->kJZ lb out->P (.done (.ret .none)) { s with heap:=sortedHeap s.heap a vs out.toArray }) :
  de (model prog w) A (zd.«list.sort» ⟨[.ref a],[]⟩) P E s:=by
 rw [list_sort_plain];have ha:a<s.heap.objs.size:=cf ho;refine ae (Cu ho rfl (ae (Av ho rfl ?_ (by simpa using hz) (iK _))));obtain ⟨e1,ho1⟩ : ∃ e1,(s.heap.update a (sf λ _=>#[])).get? a=some (seqObj "list" #[] e1):=⟨_,zr ho (λ _=>#[])⟩;refine ae (DY ho1 rfl (ae (wpAny_newTuple (ae (CJ (iO ?_) (iK _))) (by simpa using hz))));generalize eG:((s.heap.update a (sf λ _=>#[])).push (seqObj "tuple" vs.toArray 0)).push (seqObj "list" #[] 0)=G
 have hoG:G.get? a=some (seqObj "list" #[] e1):=by
  rw [<-eG];exact ao _ (ao _ ho1)
 have kG:∀ b o,o.cls≠.type "list"->s.heap.get? b=some o->G.get? b=some o:=λ b o hc e=>by
  have hb:b≠a:=λ q=>by
   subst q;rw [ho] at e;exact hc (by cases e;rfl)
  rw [<-eG];refine ao _ (ao _ ?_);rw [pd _ _ _ _ hb];exact e
 have heap:∀ out:List af,sortedHeap s.heap a vs out.toArray=G.update a (sf λ _=>out.toArray):=λ out=>by rw [<-eG];rfl
 have eS:∀ X Y:Sem uv,X=Y->de (model prog w) A X P E { s with heap:=G }->de (model prog w) A Y P E { s with heap:=G }:=λ X Y e h=>e ▸ h
 have fin:∀ st':eJ,rf st'=none->(cw st').toList.Perm (vs.zip vs)->qY lb (cw st').toList ->
   P (.done (.ret .none)) { s with heap:=G.update a (sf λ _=>(cw st').map (·.2)) }:=λ st' _ pm sr=>by
  have:=kLW pm sr;have q:=h _ this.1 this.2;rw [heap] at q;rw [show (cw st').map (·.2)=((cw st').toList.map (·.2)).toArray by rw [<-Array.toList_map]];exact q
 have szP:∀ {st':eJ},(cw st').toList.Perm (vs.zip vs)->((cw st').map (·.2)).size<=sizeLine+1:=λ {st'} pm=>by
  have:=pm.length_eq;rw [Array.size_map];simp at this;omega
 dsimp only;by_cases h2:vs.toArray.size<2
 ·rw [if_pos h2,if_pos h2]
  refine ae (av ?_);rw [StateT.run_pure];refine ae (av ?_)
  have pm:(cw (BP general' (vs.toArray.zip vs.toArray) #[] 7 none)).toList.Perm (vs.zip vs):=by
   show (vs.toArray.zip vs.toArray).toList.Perm _;simp
  refine ae (DY hoG rfl (ae (Av hoG rfl ?_ (iK _) (szP pm))));dsimp only;simp only [bne_self_eq_false,eD,if_false];refine av (fin (BP general' (vs.toArray.zip vs.toArray) #[] 7 none) rfl pm ?_)
  have:(vs.zip vs).length<=1:=by
   simp at h2 ⊢;omega
  show qY lb (vs.toArray.zip vs.toArray).toList;rw [show (vs.toArray.zip vs.toArray).toList=vs.zip vs by simp];exact oW this
 ·rw [if_neg h2,if_neg h2]
  refine ae (hkk (by simp at h2;omega) G kG _ ?_)
  refine ae (lj (rF (s:={ s with heap:=G }) W (hL G kG) (st:=BP kd (vs.toArray.zip vs.toArray) #[] 7 none) rfl rfl rfl (λ x hx=>?_)
   (Q:=λ _ st'=>(cw st').toList.Perm (vs.zip vs)/\rf st'=none/\qY lb (cw st').toList) λ st' a1 a2 a3=>⟨?_,a2,a3⟩) ?_ λ _ _ e=>e)
  ·have hx:x∈(vs.toArray.zip vs.toArray).toList:=hx
   rw [show (vs.toArray.zip vs.toArray).toList=vs.zip vs by simp] at hx;obtain ⟨z1,z2⟩:=mem_zip_self hx;obtain ⟨u,v⟩:=x;have z1:u=v:=z1;subst z1;exact dd u z2
  ·refine a1.trans ?_
   show (vs.toArray.zip vs.toArray).toList.Perm _;simp
  ·rintro ⟨⟨⟩,st'⟩ s' ⟨rfl,pm,hf,sr⟩
   refine ae (DY hoG rfl (ae (Av hoG rfl ?_ (iK _) (szP pm))));dsimp only;rw [hf];simp only [bne_self_eq_false,eD,if_false];exact av (fin st' hf pm sr)
end
end Srt
namespace Srt
set_option autoImplicit false
open PySem PySem.W PyProof.Rows
section
variable {prog:eU} {w:gk} {A:eV} {E:af->ak->Prop} {s:ak}
theorem kBF {l:ah} {o:Obj} {vs:List af} {n:Nat} {Q:List af->ak->Prop} (ho:s.heap.get? l=some o) (hc:o.cls=.type "list"\/o.cls=.type "tuple") (hd:o.data=.seq vs.toArray n) (hz:vs.length<=sizeLine)
  (h:∀ h1:gw,h1.objs.size=s.heap.objs.size+1->(∀ b u,s.heap.get? b=some u->h1.get? b=some u)->Q vs { s with heap:=h1 }):de (model prog w) A (collect (.ref l)) Q E s:=by
 unfold collect;refine ae (wpAny_runValue (Dg entry_proto_collect' ?_));show de _ _ (newList [] >>= λ x=>again (.builtin "list.__iadd__" ⟨[x,.ref l],[]⟩)) _ _ s;refine ae (CJ (av ⟨Ab _ (by decide +kernel),Dg entry_list_iadd' ?_⟩) (iK _));generalize eG:s.heap.push (seqObj "list" #[] 0)=G;have sG:G.objs.size=s.heap.objs.size+1:=by rw [<-eG,size_push']
 have kG:∀ b u,s.heap.get? b=some u->G.get? b=some u:=λ b u e=>by rw [<-eG];exact ao _ e
 have nG:G.get? s.heap.objs.size=some (seqObj "list" #[] 0):=by rw [<-eG];exact eK _ rfl
 show de _ _ (AG (.ref s.heap.objs.size) (.ref l) (.ref s.heap.objs.size)) _ _ { s with heap:=G }
 unfold AG
 have fin:de (model prog w) A (load s.heap.objs.size >>= λ o=>match o.data with
   | .seq xs _=>pure xs.toList
   | _=>unsupported "internal:collect") Q E { s with heap:=G.update s.heap.objs.size (sf (·++vs.toArray)) }:=by
  refine ae (wpAny_load (zr nG _) ?_);show de _ _ (pure ((#[]:Array af)++vs.toArray).toList) Q E _;rw [show ((#[]:Array af)++vs.toArray).toList=vs by simp];refine av (h _ (by rw [DN,sG]) λ b u e=>?_);rw [pd _ _ _ _ (eM (cf e))];exact kG b u e
 have ty:∃ T:String,o.cls=.type T/\(T = "list"\/T = "tuple"):=by
  rcases hc with e | e
  ·exact ⟨_,e,.inl rfl⟩
  ·exact ⟨_,e,.inr rfl⟩
 obtain ⟨T,hT,hT2⟩:=ty;refine ae (ya (T:=T) ⟨o,kG l o ho,hT⟩ ?_)
 have hb:(yn T == yn "list" || yn T == yn "tuple")=true:=by
  rcases hT2 with rfl | rfl<;>rfl
 rw [if_pos (by rw [Bool.or_assoc,hb,yg])];refine ae (Cu (kG l o ho) hd (ae (Cu (xs:=#[]) (n:=0) nG rfl ?_)));rw [if_neg (by simp)];refine ae (Av (xs:=#[]) (n:=0) nG rfl ?_ (iK _) (by show (#[]++vs.toArray).size<=sizeLine+1;rw [vg];simp;omega));exact av fin
theorem tT {lb:ay->ay->Bool} {D:ay->Prop} {kd:jx} (W:Wk lb) {l:ah} {o:Obj} {vs:List af} {n:Nat} {Q:af->ak->Prop} (ho:s.heap.get? l=some o) (hc:o.cls=.type "list"\/o.cls=.type "tuple") (hd:o.data=.seq vs.toArray n) (hz:vs.length<=sizeLine)
  (hkk:2<=vs.length->∀ (A':eV) (E':af->ak->Prop) (h6:gw),(∀ b o,o.cls≠.type "list"->s.heap.get? b=some o->h6.get? b=some o)->∀ Q:jx->ak->Prop,Q kd { s with heap:=h6 }->de (model prog w) A' (keyKind' vs.toArray) Q E' { s with heap:=h6 })
  (hL:∀ (A':eV) (E':af->ak->Prop) (h6:gw),(∀ b o,o.cls≠.type "list"->s.heap.get? b=some o->h6.get? b=some o)->uY (model prog w) A' E' { s with heap:=h6 } lb D kd) (dd:∀ v∈vs,D (v,v))
  (h:∀ (out:List af) (k:Nat) (h':gw),out.Perm vs->kJZ lb out->(∀ b u,s.heap.get? b=some u->h'.get? b=some u)->h'.get? (s.heap.objs.size+1)=some (seqObj "list" out.toArray k)->Q (.ref (s.heap.objs.size+1)) { s with heap:=h' }) :
  de (model prog w) A (call (.builtin "sorted") [.ref l]) Q E s:=by
 refine Calls.call_function_entry kind_sorted plain_sorted entry_sorted (args_sorted1 _) ?_;unfold zd.«sorted»;refine ae (m:=checkCount "sorted" 1 1 _) (av (ae (kBF ho hc hd hz λ h1 sz1 k1=>?_)));refine ae (CJ ?_ (by simpa using hz));generalize eG:h1.push (seqObj "list" vs.toArray 0)=G
 have nG:G.get? (s.heap.objs.size+1)=some (seqObj "list" vs.toArray 0):=by
  rw [<-eG,<-sz1];exact eK _ rfl
 have kG:∀ b u,s.heap.get? b=some u->G.get? b=some u:=λ b u e=>by
  rw [<-eG];exact ao _ (k1 b u e)
 show de _ _ _ _ _ { s with heap:=G }
 rw [sz1];refine ae (iO (wd slot_list_sort ⟨_,nG,rfl⟩ entry_list_sort (kFR (s:={ s with heap:=G }) W nG hz (λ h2 h6 k6 Q q=>hkk h2 _ _ h6 (λ b o c e=>k6 b o c (kG b o e)) Q q) (λ h6 k6=>hL _ _ h6 λ b o c e=>k6 b o c (kG b o e)) dd λ out pm od=>⟨_,rfl,?_⟩) (args_list_sort _)))
 have hlt:s.heap.objs.size+1<G.objs.size:=cf nG;have up:(G.update (s.heap.objs.size+1) (sf λ _=>#[])).get? (s.heap.objs.size+1)=some (seqObj "list" #[] (if (#[]:Array af).size == vs.toArray.size then 0 else 1)):=zr nG (λ _=>#[]);refine av ⟨_,rfl,h out _ _ pm od (λ b u e=>?_) (zr (ao _ (ao _ up)) (λ _=>out.toArray))⟩;have hb:b≠s.heap.objs.size+1:=eM (om (cf e));unfold sortedHeap;rw [pd _ _ _ _ hb];refine ao _ (ao _ ?_);rw [pd _ _ _ _ hb];exact kG b u e
theorem sorted_tups {l:ah} {o:Obj} {vs:List af} {n:Nat} {Q:af->ak->Prop} (ho:s.heap.get? l=some o) (hc:o.cls=.type "list"\/o.cls=.type "tuple") (hd:o.data=.seq vs.toArray n) (hz:vs.length<=sizeLine)
  (ht:∀ v∈vs,TupI s.heap v)
  (h:∀ (out:List af) (k:Nat) (h':gw),out.Perm vs->kJZ (lbT s.heap) out->(∀ b u,s.heap.get? b=some u->h'.get? b=some u)->h'.get? (s.heap.objs.size+1)=some (seqObj "list" out.toArray k)->Q (.ref (s.heap.objs.size+1)) { s with heap:=h' }) :
  de (model prog w) A (call (.builtin "sorted") [.ref l]) Q E s:=by
 have kt:∀ {h6:gw},(∀ b o,o.cls≠.type "list"->s.heap.get? b=some o->h6.get? b=some o)->∀ b o,o.cls=.type "tuple"->s.heap.get? b=some o->h6.get? b=some o:=λ k6 b o c e=>k6 b o (by rw [c];intro q;injection q with q;exact absurd q (by decide)) e
 refine tT (D:=λ x=>TupI s.heap x.1) (kd:=tuples' true) (kMH s.heap) ho hc hd hz (λ h2 A' E' h6 k6 Q q=>?_) (λ A' E' h6 k6=>?_) (λ v hv=>ht v hv) h
 ·have t6:∀ v∈vs,TupI h6 v:=λ v hv=>((ht v hv).kept (kt k6)).1
  have:∀ us:List af,(∀ v∈us,TupI h6 v)->∃ fs,KatTups h6 us fs/\fs.length=us.length/\∀ v∈fs,∃ k t,v=uu k t:=λ us=>by
   induction us with
   | nil=>intro _;exact ⟨[],.nil,rfl,by simp⟩
   | cons u us ih =>
    intro hu;obtain ⟨fs,a1,a2,a3⟩:=ih λ v hv=>hu v (eZ _ hv);obtain ⟨a,o,xs,m,rfl,e1,e2,e3,e4,e5⟩:=hu u (fv ..);refine ⟨xs[0]::fs,.cons e1 e2 e3 (getElem?_pos xs 0 e5) a1,by simp [a2],λ v hv=>?_⟩;rcases gv.mp hv with rfl | z
    ·exact e4 _ (by simp)
    ·exact a3 v z
  obtain ⟨fs,a1,a2,a3⟩:=this vs t6;refine kat_kind (T:=.type "int") a1 (by omega) (λ v hv=>?_) rfl q;obtain ⟨k,t,rfl⟩:=a3 v hv;exact Looks.of_pure rfl
 ·intro x y hx hy st Q hk q
  have a:=hx.kept (kt k6);have b:=hy.kept (kt k6);refine kDZ (s:={ s with heap:=h6 }) x y a.1 b.1 st Q hk ?_
  show Q (some (lexLt (keyOf h6 x.1) (keyOf h6 y.1))) st;rw [a.2,b.2];exact q
end
end Srt
namespace Srt
theorem perm_back {α β:Type} {f:α->β}:∀ {l' l2:List β},l'.Perm l2->∀ {l:List α},l2=l.map f->∃ m:List α,m.Perm l/\l'=m.map f:=by
 intro l' l2 h
 induction h with
 | nil =>
  intro l e
  match l,e with
  | [],_=>exact ⟨[],.refl _,rfl⟩
 | cons x _ ih =>
  intro l e
  match l,e with
  | y::l,e =>
   rw [iW] at e;injection e with e1 e2
   obtain ⟨m,a,b⟩:=ih e2;exact ⟨y::m,a.cons y,by rw [iW,b,e1]⟩
 | swap x y l0 =>
  intro l e
  match l,e with
  | a::b::l,e =>
   rw [iW,iW] at e;injection e with e1 e2
   injection e2 with e2 e3
   exact ⟨b::a::l,.swap _ _ _,by rw [iW,iW,e1,e2,e3]⟩
 | trans _ _ ih1 ih2 =>
  intro l e;obtain ⟨m,a,b⟩:=ih2 e;obtain ⟨m',a',b'⟩:=ih1 b;exact ⟨m',a'.trans a,b'⟩
end Srt
namespace L2
open PySem PySem.Spec PyProof.Rows
section
variable {X:Cx}
theorem cO:∀ {ps:List (ah×List Int)} {its:List af},Vals (ps.map λ q=>V.ref q.1) its->its=ps.map λ q=>fo q.1
 | [],_,.nil=>rfl
 | p::ps,_,.cons r t=>by
  rw [cO t,show _=fo p.1 from r]
  rfl
theorem mU:∀ (ps:List (ah×List Int)),Vals (ps.map λ q=>V.ref q.1) (ps.map λ q=>fo q.1)
 | []=>.nil
 | p::ps=>.cons rfl (mU ps)
def kNH (H:Hp) (ps:List (ah×List Int)):Prop:=∀ q∈ps,H q.1=some (.tup (q.2.map V.int))/\q.2≠[]
theorem oC {pins:List (ah×Obj)} {σ:St} {H:Hp} {s:ak} (I:Inv X pins σ H s) {a:ah} {ns:List Int} (h:H a=some (.tup (ns.map V.int))) (h0:ns≠[]):Srt.TupI s.heap (.ref a)/\Srt.keyOf s.heap (.ref a)=ns:=by
 obtain ⟨its,rv,⟨o,ho,hc,n,hd⟩,hz⟩:=I.tuple (SqT.of (K:=X.K) h);have hi:=bY rv;have hl:=rv.length;refine ⟨⟨a,o,_,n,rfl,ho,hc,hd,λ u hu=>hi.all u (by simpa using hu),?_⟩,?_⟩
 ·rw [aj] at hl
  have:0<ns.length:=nj.mpr h0;simp;omega
 ·rw [Srt.TupI.key ho hd]
  exact hi.nums
theorem mC:xW X (.builtin "sorted") (λ xs H Q=>∃ (p:ah) (ps:List (ah×List Int)),xs=[.ref p]/\(SqL X.K H p (ps.map λ q=>V.ref q.1)\/SqT X.K H p (ps.map λ q=>V.ref q.1))/\kNH H ps /\
  ∀ (l:ah) (ps':List (ah×List Int)),H l=none->ps'.Perm ps->ps'.Pairwise (λ a b=>Srt.lexLt b.2 a.2=false)->Q (.ref l) (upd H l (.lst (ps'.map λ q=>V.ref q.1)))):=by
 intro pins s σ H xs us Q I r h;obtain ⟨p,ps,rfl,hq,tp,q⟩:=h;obtain ⟨u,rfl,rx⟩:=uA r;cases rx
 have obj:∃ (o:Obj) (n:Nat),s.heap.get? p=some o/\(o.cls=.type "list"\/o.cls=.type "tuple")/\o.data=.seq (ps.map λ q=>fo q.1).toArray n/\ps.length<=sizeLine:=by
  rcases hq with hq | hq
  ·obtain ⟨its,r',pl,hz⟩:=I.list hq
   rw [cO r'] at pl;obtain ⟨o,ho,hc,n,hd⟩:=pl.isList;exact ⟨o,n,ho,.inl hc,hd,by simpa using hz⟩
  ·obtain ⟨its,r',pl,hz⟩:=I.tuple hq
   rw [cO r'] at pl;obtain ⟨o,ho,hc,n,hd⟩:=pl;exact ⟨o,n,ho,.inr hc,hd,by simpa using hz⟩
 obtain ⟨o,n,ho,hc,hd,hz⟩:=obj;refine Srt.sorted_tups ho hc hd (by simpa using hz) (λ v hv=>?_) λ out k h' pm od kp e=>?_
 ·obtain ⟨x,hx,rfl⟩:=gi.mp hv
  exact (oC I (tp x hx).1 (tp x hx).2).1
 ·obtain ⟨ps',pm',rfl⟩:=Srt.perm_back pm rfl
  refine ⟨.ref (s.heap.objs.size+1),_,I.laid (t':=s.toks) kp (zg _) (show ObjOk X.prog X.w _ h' _ (.lst (ps'.map λ q=>V.ref q.1)) from ⟨by simpa [pm'.length_eq] using hz,_,k,mU ps',e⟩),rfl,q _ ps' (I.hok.fresh (zg _)) pm' ?_⟩;refine (kg.mp od).imp_of_mem λ {a b} ha hb hh=>?_;have e1:=(oC I (tp a (pm'.mem_iff.mp ha)).1 (tp a (pm'.mem_iff.mp ha)).2).2;have e2:=(oC I (tp b (pm'.mem_iff.mp hb)).1 (tp b (pm'.mem_iff.mp hb)).2).2;have hh:Srt.lexLt (Srt.keyOf s.heap (.ref b.1)) (Srt.keyOf s.heap (.ref a.1))=false:=hh;rw [e1,e2] at hh;exact hh
end
end L2
namespace Hsh
set_option autoImplicit false
open PySem PySem.Spec PyProof.Rows
def kEK:Nat->List Nat->Bool
 | 0,l=>l.length<=1
 | k+1,l=>match l with
  | []=>true
  | [_]=>true
  | l=>kEK k (l.filter λ n=>(n / 2 ^ k) % 2 == 0) && kEK k (l.filter λ n=>!((n / 2 ^ k) % 2 == 0))
theorem kJP:∀ (k:Nat) (l:List Nat),kEK k l=true->l.Nodup:=by
 intro k
 induction k with
 | zero =>
  intro l h
  match l,h with
  | [],_=>exact xm
  | [x],_=>exact iX.mpr ⟨by simp,xm⟩
  | _::_::_,h=>simp [kEK] at h
 | succ k ih =>
  intro l h
  match l,h with
  | [],_=>exact xm
  | [x],_=>exact iX.mpr ⟨by simp,xm⟩
  | a::b::l,h =>
   unfold kEK at h;rw [jo] at h;have h1:=ih _ h.1;have h2:=ih _ h.2;generalize a::b::l=m at *
   have:∀ m:List Nat,(m.filter λ n=>(n / 2 ^ k) % 2 == 0).Nodup->(m.filter λ n=>!((n / 2 ^ k) % 2 == 0)).Nodup->m.Nodup:=λ m=>by
    induction m with
    | nil=>intro _ _;exact xm
    | cons x m ih =>
     intro a1 a2
     have mem:x∉m:=λ hx=>by
      cases e:(x / 2 ^ k) % 2 == 0 with
      | true =>
       rw [ip,if_pos e] at a1;exact (iX.mp a1).1 (iC.mpr ⟨hx,e⟩)
      | false =>
       rw [ip,if_pos (by rw [e];rfl)] at a2;exact (iX.mp a2).1 (iC.mpr ⟨hx,by rw [e];rfl⟩)
     refine iX.mpr ⟨mem,ih ?_ ?_⟩
     ·rw [ip] at a1
      split at a1
      ·exact (iX.mp a1).2
      ·exact a1
     ·rw [ip] at a2
      split at a2
      ·exact (iX.mp a2).2
      ·exact a2
   exact this m h1 h2
def hp (p q:Nat):Nat:=(reduceHash (EY [hashInt (p:Int),hashInt (q:Int)])+2 ^ 63).toNat
def all:List Nat:=(fc 1764).map λ i=>hp (i / 42) (i % 42)
theorem kHQ:kEK 64 all=true:=by decide +kernel
theorem hp_inj {p q p' q':Nat} (h1:p<42) (h2:q<42) (h3:p'<42) (h4:q'<42) (e:hp p q=hp p' q'):p=p'/\q=q':=by
 have nd:=kJP 64 all kHQ
 have at':∀ p q:Nat,p<42->q<42->all[42*p+q]?=some (hp p q):=λ p q a b=>by
  unfold all;rw [bg,tz (by omega)];show some (hp ((42*p+q) / 42) ((42*p+q) % 42))=_;rw [show (42*p+q) / 42=p by omega,show (42*p+q) % 42=q by omega]
 have a:=at' p q h1 h2;have b:=at' p' q' h3 h4;rw [<-e] at b;have:=(yc (ag.mp a).1 nd).mp (a.trans b.symm);omega
end Hsh
namespace Dct
set_option autoImplicit false
open PySem PySem.Spec PyProof.Rows
section
variable {prog:eU} {w:gk} {A:eV} {E:af->ak->Prop} {s:ak} {κ:Type} [DecidableEq κ] {kd:KeyKind prog w κ}
def fold (xs ys:List (List κ×ah×af)):List (List κ×ah×af):=ys.foldl (λ acc y=>storedH acc y.1 y.2.1 y.2.2) xs
theorem fold_len (xs ys:List (List κ×ah×af)):(fold xs ys).length<=xs.length+ys.length:=by
 induction ys generalizing xs with
 | nil=>exact be _
 | cons y ys ih =>
  have:=ih (storedH xs y.1 y.2.1 y.2.2)
  have l:(storedH xs y.1 y.2.1 y.2.2).length<=xs.length+1:=by
   unfold storedH
   split<;>simp
  rw [iE];unfold fold at *;rw [si];omega
theorem sQ:∀ (xs ys:List (List κ×ah×af)),((xs++ys).map (·.1)).Nodup->fold xs ys=xs++ys
 | xs,[],_=>by rw [ir];rfl
 | xs,y::ys,h=>by
  have no:atKey xs y.1=none:=by
   refine Cv λ j p e=>?_;rw [gq,iW,iT] at h;exact h.2.2 y.1 (gi.mpr ⟨_,dw e,rfl⟩) y.1 (fv ..) rfl
  unfold fold;rw [si,storedH_new no];have:=sQ (xs++[y]) ys (by simpa using h);unfold fold at this;rw [show (y.1,y.2.1,y.2.2)=y from rfl,this];simp
theorem nM (xs ys:List (List κ×ah×af)) (i:Nat) (y:List κ×ah×af) (h:ys[i]?=some y):fold xs (ys.take (i+1))=storedH (fold xs (ys.take i)) y.1 y.2.1 y.2.2:=by
 unfold fold;rw [Cw,h,Ct]
 rfl
theorem gU {d a:ah} {xs:List (List κ×ah×af)} {k:List κ} {v:af} {Q:Unit->ak->Prop} (hu:A.units<cLine) (hk:(tupleKind kd).is s.heap k a) (hm:s.heap.DictOfH (tupleKind kd) d xs) (hz:xs.length<=sizeLine)
  (q:∀ h',h'.DictOfH (tupleKind kd) d (storedH xs k a v)->ma d s.heap h'->Q () { s with heap:=h' }):de (model prog w) A (dictSetHashed d (.ref a) ((tupleKind kd).hash k) v) Q E s:=by
 obtain ⟨o,es,ep,ho,hc,hd,he,his,hn⟩:=hm;have sz:=BZ he;unfold dictSetHashed
 try with_reducible refine iO ?_
 refine ae (wpAny_dictFind_heap (knd:=tupleKind kd) hu hk ho hd he his hn (λ no=>?_) λ j p hj=>?_)
 ·have nk:=not_mem_keys_of_get no
  have e:=storedH_new (Cv no) a v;refine ae (yo (wpAny_updateDictKeys (hz:=by omega) ho hd (q _ ⟨_,_,ep+1,iI _ ho (AB (vw hd _)),hc.mapDictKeys _,vw hd _,?_,?_,?_⟩ (jc ..))))
  ·rw [e]
   simp [he,entryOfKey]
  ·rw [e]
   intro x hx;rcases eY.mp hx with z | z
   ·exact (tupleKind kd).keeps (his x z) ho hd (jc ..)
   ·rw [fw.mp z]
    exact (tupleKind kd).keeps hk ho hd (jc ..)
  ·rw [e,gq,iT]
   refine ⟨hn,by simp,λ x hx y hy z=>nk ?_⟩;have:y=k:=by simpa using hy
   rw [<-this,<-z];exact hx
 ·have e:=storedH_old (atKey_of_get hn hj) a v
  refine ae (yo (ae (wpAny_updateDict ho hd (wpAny_point (q _ ⟨_,_,ep,iI _ ho (AB (DO hd _)),hc.mapDict _,DO hd _,?_,?_,?_⟩ (jc ..))))))
  ·rw [e]
   have m:=modify_map_putAt (entryOfKey (tupleKind kd)) (λ z:DJ=>{ z with val:=v }) k v (λ _ _=>rfl) hn hj
   rw [<-he] at m;obtain ⟨l⟩:=es;simpa using m
  ·rw [e]
   intro x hx;obtain ⟨y,hy,rfl⟩:=gi.mp hx;unfold putAt
   split<;>exact (tupleKind kd).keeps (his y hy) ho hd (jc ..)
  ·rw [e,keys_map_putAt]
   exact hn
theorem kDL {k:List κ} {a:ah} {Q:Bool->ak->Prop} (hk:(tupleKind kd).is s.heap k a) (q:Q false s):de (model prog w) A (Bp (.ref a)) Q E s:=by
 unfold Bp;have hk:IsTupleKey kd s.heap k a:=hk;refine ae (Dh hk.typeIs F.slot_tuple_eq.lookup (av ?_));exact q
theorem sT {id:String} {d:ah} {o:Obj} {es:Array DJ} {ep:Nat} {xs:List (List κ×ah×af)} {Q:Array DJ->ak->Prop} (ho:s.heap.get? d=some o) (hd:o.data=.dict es ep) (he:es.toList=xs.map (entryOfKey (tupleKind kd))) (his:∀ x∈xs,(tupleKind kd).is s.heap x.1 x.2.1)
  (hh:(xs.map λ x=>(tupleKind kd).hash x.1).Nodup) (q:Q es s):de (model prog w) A (zt id d) Q E s:=by
 have few:∀ e∈es,¬ (es.filter λ z=>z.hash == e.hash).size>1:=λ e hin g=>by
  have:(es.toList.map λ z=>z.hash)=xs.map λ x=>(tupleKind kd).hash x.1:=by
   rw [he,AF]
   rfl
  rw [<-this] at hh
  have l:(es.filter λ z=>z.hash == e.hash).size=((es.toList.map λ z=>z.hash).filter λ z=>z == e.hash).length:=by
   rw [<-fk,Array.toList_filter,List.filter_map,aj]
   rfl
  have c:=List.nodup_iff_count.mp hh e.hash;rw [List.count_eq_length_filter] at c;omega
 unfold zt;refine ae (ou ho hd (ae ?_));rw [<-Array.forIn_toList];refine yu _ (λ rest _ s'=>s'=s/\∀ e∈rest,e∈es) _ ?_ ?_ _ _ ⟨rfl,λ e h=>qv.mp h⟩
 ·rintro e rest b s' ⟨rfl,hr⟩
  have hin:=hr e (fv ..)
  obtain ⟨x,hx,rfl⟩ : ∃ x∈xs,e=entryOfKey (tupleKind kd) x:=by
   have:e∈xs.map (entryOfKey (tupleKind kd)):=he ▸ qv.mpr hin;obtain ⟨x,hx,z⟩:=gi.mp this;exact ⟨x,hx,z.symm⟩
  refine ae (kDL (his x hx) ?_);simp only [EC,if_true];rw [if_neg (few _ hin)];exact av ⟨rfl,λ z hz=>hr z (eZ _ hz)⟩
 ·rintro b s' ⟨rfl,_⟩
  exact av q
theorem kDY {nm:String} {d o:ah} {xs ys:List (List κ×ah×af)} {Q:Unit->ak->Prop} (hu:A.units<cLine) (hdo:d≠o) (hoS:(o == sysModules)=false) (hd:s.heap.DictOfH (tupleKind kd) d xs) (ho:s.heap.DictOfH (tupleKind kd) o ys)
  (hz:xs.length+ys.length<=sizeLine) (hh:xs=[]->(ys.map λ y=>(tupleKind kd).hash y.1).Nodup)
  (q:∀ h',h'.DictOfH (tupleKind kd) d (fold xs ys)->ma d s.heap h'->Q () { s with heap:=h' }):de (model prog w) A (BQ nm d o) Q E s:=by
 obtain ⟨od,esd,epd,hod,hcd,hdd,hed,hisd,hnd⟩:=id hd;obtain ⟨oo,eso,epo,hoo,hco,hdo',heo,hiso,hno⟩:=id ho;have szo:=BZ heo;have szd:=BZ hed;unfold BQ;rw [if_neg (by simpa using hdo)];unfold FK;rw [if_neg (by rw [hoS];exact dj)]
 refine ae (av (ae (ou hoo hdo' ?_)))
 have inv0:∃ h' i,s={ s with heap:=h' }/\zh 0 eso.size=zh i (eso.size-i)/\i<=eso.size/\h'.DictOfH (tupleKind kd) d (fold xs (ys.take i))/\h'.get? o=some oo/\ma d s.heap h' :=
  ⟨s.heap,0,rfl,rfl,iK _,by rw [BD];exact hd,hoo,Al _ _⟩
 dsimp only
 split
 ·refine ae (ou hod hdd ?_)
  split
  ·rename_i hemp
   have z:xs=[]:=by
    have h0:esd = #[]:=Cy.mp hemp;rw [h0] at szd;exact qh.mp szd.symm
   subst z;have ff:fold [] ys=ys:=sQ [] ys hno;rw [ff] at q;refine ae (sT hoo hdo' heo hiso (hh rfl) ?_)
   split
   ·refine ae (wpAny_updateDictKeysTo hod hdd (av (q _ ⟨_,_,epd+1,iI _ hod (AB (vw hdd _)),hcd.mapDictKeys _,vw hdd _,heo,λ x hx=>(tupleKind kd).keeps (hiso x hx) hod hdd (jc ..),hno⟩ (jc ..))) ?_)
    simp only [qc] at hz;omega
   ·rename_i hne
    have h0:eso = #[]:=Cy.mp (by simpa using hne)
    have z:ys=[]:=by
     rw [h0] at szo;exact qh.mp szo.symm
    subst z;exact av (q _ hd (Al _ _))
  ·refine ae (zu hoo hdo' (ae (ou hoo hdo' (ae ?_))))
   rw [nh];simp only [yk,Cz,CW,FX];refine yu _ (λ rest _ s'=>∃ h' i,s'={ s with heap:=h' }/\rest=zh i (eso.size-i)/\i<=eso.size/\h'.DictOfH (tupleKind kd) d (fold xs (ys.take i))/\h'.get? o=some oo/\ma d s.heap h') _ ?_ ?_ _ _ inv0
   ·rintro x rest b s' ⟨h',i,rfl,hr,hi,hd',hoo',hs'⟩
    by_cases hlt:i<eso.size
    ·rw [show eso.size-i=(eso.size-(i+1))+1 by omega,we] at hr
     injection hr with h1 h2
     subst h1;refine ae (ou hoo' hdo' ?_);have hy:ys[x]?=some (ys[x]'(by omega)):=aa _;rw [entry_at heo x,hy];generalize ys[x]'(by omega)=y at hy;have hk:(tupleKind kd).is h' y.1 y.2.1:=(tupleKind kd).keeps (hiso y (dw hy)) hod hdd hs';have lz:=fold_len xs (ys.take x);have lt:(ys.take x).length<=ys.length:=by rw [fb];omega
     refine ae (iO (gU (s:={ s with heap:=h' }) hu hk hd' (by omega) λ h'' hd'' hs''=>?_))
     have hoo'':h''.get? o=some oo:=(hs''.2 o (og hdo)).trans hoo';refine ae (zu hoo'' hdo' ?_);rw [if_neg (by simp)];exact av ⟨h'',x+1,rfl,h2,hlt,by rw [nM xs ys x y hy];exact hd'',hoo'',hs'.trans hs''⟩
    ·rw [show eso.size-i=0 by omega] at hr
     exact nomatch hr
   ·rintro b s' ⟨h',i,rfl,hr,hi,hd',hoo',hs'⟩
    have hin:i=eso.size:=by
     by_cases hlt:i<eso.size
     ·rw [show eso.size-i=(eso.size-(i+1))+1 by omega,we] at hr
      exact nomatch hr
     ·omega
    refine av (q h' ?_ hs');rw [hin,szo,ig] at hd';exact hd'
 ·refine ae (zu hoo hdo' (ae (ou hoo hdo' (ae ?_))))
  rw [nh];simp only [yk,Cz,CW,FX];refine yu _ (λ rest _ s'=>∃ h' i,s'={ s with heap:=h' }/\rest=zh i (eso.size-i)/\i<=eso.size/\h'.DictOfH (tupleKind kd) d (fold xs (ys.take i))/\h'.get? o=some oo/\ma d s.heap h') _ ?_ ?_ _ _ inv0
  ·rintro x rest b s' ⟨h',i,rfl,hr,hi,hd',hoo',hs'⟩
   by_cases hlt:i<eso.size
   ·rw [show eso.size-i=(eso.size-(i+1))+1 by omega,we] at hr
    injection hr with h1 h2
    subst h1;refine ae (ou hoo' hdo' ?_);have hy:ys[x]?=some (ys[x]'(by omega)):=aa _;rw [entry_at heo x,hy];generalize ys[x]'(by omega)=y at hy;have hk:(tupleKind kd).is h' y.1 y.2.1:=(tupleKind kd).keeps (hiso y (dw hy)) hod hdd hs';have lz:=fold_len xs (ys.take x);have lt:(ys.take x).length<=ys.length:=by rw [fb];omega
    refine ae (iO (gU (s:={ s with heap:=h' }) hu hk hd' (by omega) λ h'' hd'' hs''=>?_))
    have hoo'':h''.get? o=some oo:=(hs''.2 o (og hdo)).trans hoo';refine ae (zu hoo'' hdo' ?_);rw [if_neg (by simp)];exact av ⟨h'',x+1,rfl,h2,hlt,by rw [nM xs ys x y hy];exact hd'',hoo'',hs'.trans hs''⟩
   ·rw [show eso.size-i=0 by omega] at hr
    exact nomatch hr
  ·rintro b s' ⟨h',i,rfl,hr,hi,hd',hoo',hs'⟩
   have hin:i=eso.size:=by
    by_cases hlt:i<eso.size
    ·rw [show eso.size-i=(eso.size-(i+1))+1 by omega,we] at hr
     exact nomatch hr
    ·omega
   refine av (q h' ?_ hs');rw [hin,szo,ig] at hd';exact hd'
end
end Dct
namespace Dct
set_option autoImplicit false
open PySem PySem.Spec PyProof.Rows
theorem meets_upd {prog:eU} {w:gk} {κ:Type} [DecidableEq κ] (kd:KeyKind prog w κ) (d o:ah) (hdo:d≠o) (hoS:(o == sysModules)=false) :
  MeetsIn prog w (zd.«dict.update» ⟨[.ref d,.ref o],[]⟩) (λ A R s=>A.in1.units<cLine/\∃ xs ys,s.heap.DictOfH (tupleKind kd) d xs/\s.heap.DictOfH (tupleKind kd) o ys/\xs.length+ys.length<=sizeLine/\(xs=[]->(ys.map λ y=>(tupleKind kd).hash y.1).Nodup) /\
   ∀ h',h'.DictOfH (tupleKind kd) d (fold xs ys)->ma d s.heap h'->R (.ok (.ret .none)) { s with heap:=h' }) :=
 .of_wp λ A R s ⟨hu,xs,ys,hd,ho,hz,hh,h⟩=>by
  unfold zd.«dict.update»;refine ae ?_;unfold Et;refine ae (wpAny_notOrdered_dict hd.typeIs ?_);refine av (show de _ _ (BF "dict.update" d (.ref o) [] .none) _ _ s from ?_);unfold BF;refine ae (ya ho.typeIs ?_);rw [if_neg (by decide)];refine ae ?_;unfold Fj;refine ae ?_;unfold EZ;refine ae (wpAny_isInstance ho.typeIs isSubtype_dict_dict ?_);simp only [wx,eD,if_false];refine ae (Dh ho.typeIs F.slot_dict_iter.lookup (av ?_));simp only [beq_self_eq_true,if_true];refine ae (av (kDY hu hdo hoS hd ho hz hh λ h' hd' hs'=>?_));refine show de _ _ (Eu d [] >>= _) _ _ _ from ?_;exact ae (av (av ⟨.none,rfl,h h' hd' hs'⟩))
end Dct
namespace L2
open PySem PySem.Spec PyProof.Rows
section
variable {X:Cx} {pins:List (ah×Obj)} {σ:St} {H:Hp} {s:ak} {a:ah} {y v:V} {u r:af} {o:Option V} {A:eV} {E:af->ak->Prop}
theorem kEM {H':Hp} {Q:Unit->ak->Prop} (hu:A.units<cLine) (I:Inv X pins σ H s) (g:DPut H a y v H') (ry:RelV y u) (rv:RelV v r) (h:∀ s',Inv X pins σ H' s'->Q () s') :
  de (model X.prog X.w) A (dictSet a u r) Q E s:=by
 rcases g with ⟨kvs,k,e,ey,l,eH⟩ | ⟨kvs,k,b,e,ey,eb,l,eH⟩
 ·subst ey eH
  obtain ⟨z,hd,vs,rel,dd⟩:=kKO I.hok e;refine wpAny_dictSet_pairs (hsz:=by rw [<-rel.length];exact z) (kCG ry) dd λ h' dd' hs=>h _ ?_;exact cI I (by rw [e];exact jq) hs (let ⟨q,_,_,hq,_⟩:=dd';⟨q,hq⟩) (kHI (by have:=yN kvs k v;omega) hd (rel.put k rv) dd')
 ·subst ey eH
  cases (show u=fo b from ry)
  obtain ⟨z,hd,xs,rel,dd⟩:=kCP I.hok e;refine wpAny_dictSet_heap (hsz:=by rw [<-rm rel];exact z) hu (pS I.hok eb) dd λ h' dd' hs=>h _ ?_;obtain ⟨q,es,ep,hq,h2,h3,h4,_,h5⟩:=dd';refine cI I (by rw [e];exact jq) hs ⟨q,hq⟩ ⟨by have:=yN kvs k v;omega,hd,_,(rel.put k eb rv).keeps λ c ys ec=>?_,q,es,ep,hq,h2,h3,h4,h5⟩;rw [kH (zK ec e (λ z=>nomatch z))];exact ec
end
def kOZ (D:ah) (tk tv:TE):TB:=λ N σ H=>tk σ H λ y H1=>tv σ H1 λ v H2=>∃ H3,DPut H2 D y v H3/\N σ H3
theorem kBY {X:Cx} {kx vx:iQ} {tk tv:TE} {D:ah} (hu:X.A.units+1<cLine) (hk:PE X kx tk) (hv:PE X vx tv):PBd X (kCO kx vx X.env (.ref D)) (kOZ D tk tv):=by
 intro pins s σ H N I h;unfold kCO;refine ae (thn (hk pins s σ H _ I h) λ ku s1 ⟨y,H1,I1,r1,q1⟩=>?_);refine ae (iO (thn (hv pins s1 σ H1 _ I1 q1) λ vu s2 ⟨x,H2,I2,r2,H3,g,q2⟩=>?_));exact ae (pf (iO (kEM (by omega) I2 g r1 r2 λ s3 I3=>⟨σ,H3,I3,q2⟩)))
section
variable {X:Cx} {tg iter kx vx:iQ} {ifs:List iQ} {sc:ua} {pos:Pos} {Nc:List Str} {js:List (Option Nat)} {wi:TI}
def kPL (js:List (Option Nat)) (wi:TI) (g:TG) (bd:ah->TB):TE:=λ σ H Q=>wi σ H λ J H1=>∀ D,H1 D=none->uD J g (bd D) (λ _ H'=>Q (.ref D) H') (lV js σ) (upd H1 D (.dT []))
theorem kBX {g:TG} {bd:ah->TB} (hx:X.xe=λ _ _=>False) (hc:X.calm=true) (hi:PI X tg iter wi) (S:CS sc X.env.scope) (cap:mB js Nc X.N sc.names=true)
  (hg:∀ C s₂ H₂ fp pins,PG (cxC X Nc sc C s₂ H₂ fp pins) tg g)
  (hb:∀ C s₂ H₂ fp pins D L,PTl (cxC X Nc sc C s₂ H₂ fp pins) (zN ifs (cxC X Nc sc C s₂ H₂ fp pins).env (kCO kx vx (cxC X Nc sc C s₂ H₂ fp pins).env (.ref D)) L) L (bd D))
  (hs:∀ x,foldedSetIterable iter X.env x=pure x:=by intro _;rfl) :
  PE X (.DictComp kx vx [⟨tg,iter,ifs,0⟩] sc pos) (kPL js wi g bd):=by
 intro pins s σ H Q I h;rw [arm_eval_DictComp];have hcl:closureFor sc X.env=pure (fJ sc X.env):=vV λ y hy hf=>I.ok.has y.1 (.inl (S.free y hy hf));refine sk (use:=none) rfl hs hcl S.kind S.names (thn (hi pins s σ H _ I h) λ v s1 h1=>thn h1 λ itv s2 h2=>?_);obtain ⟨it,fp,tn,J,H2,e,I2,T,st2,f2,hw⟩:=h2;subst e;have hlt:∀ b∈fp,b<s2.heap.objs.size:=λ b hb=>let ⟨o,ho,_⟩:=T.obj _ _ st2 b hb;cf ho;refine iR (vk S.nocell (by intro y hy;simp at hy) (λ h₁ hns₁ hsb₁=>?_) S.kind);dsimp only at hns₁ hsb₁ ⊢;generalize hH2:s2.heap.push { cls:=.type "dict",dict:=none,data:=.dict #[] }=G at hns₁ hsb₁ ⊢;have hCs:G.objs.size=s2.heap.objs.size+1:=by rw [<-hH2,qe]
 have hDC:s2.heap.objs.size≠G.objs.size:=by omega
 have hCle:s2.heap.objs.size<=G.objs.size:=by omega
 have old:∀ b o,s2.heap.get? b=some o->h₁.get? b=some o:=λ b o e=>hsb₁.extBut b o (eM (cn (cf e) hCle)) (ao _ (hH2 ▸ ao _ e));have hacc:h₁.get? s2.heap.objs.size=some { cls:=.type "dict",dict:=none,data:=.dict #[] }:=hsb₁.extBut _ _ hDC (ao _ (hH2 ▸ eK _ rfl))
 have new:ObjOk X.prog X.w (upd H2 s2.heap.objs.size (.dT [])) h₁ s2.heap.objs.size (.dT []):=by
  exact ⟨iK _,beq_eq_false_iff_ne.mpr (og (eM I2.big)),[],.nil,_,_,_,hacc,⟨rfl,rfl,rfl⟩,rfl,rfl,xm⟩
 have I4:=bW (js:=js) (Nc:=Nc) (tk:=s2.toks+([]:List (Str×af)).length) I2 S f2 hlt cap hCle (be _) hDC old hns₁ new;have hn:H2 s2.heap.objs.size=none:=I2.fresh
 have f4:∀ b∈fp,vY (cxC X Nc sc G.objs.size s2 H2 fp pins) [] (upd H2 s2.heap.objs.size (.dT [])) b:=λ b hb=>by
  obtain ⟨h0,h1,h2,h3,h4,h5⟩:=f2 b hb;refine ⟨?_,eM (cn (hlt b hb) hCle),λ z=>?_,.inl hb,λ x c z=>?_,λ p hp=>?_⟩
  ·rw [kH (eM (hlt b hb))];exact h0
  ·rcases gv.mp (I2.stkSub b z) with q | q
   ·exact h1 q
   ·exact h2 q
  ·exact h4 x c (lZ sc.names [] (λ z=>nomatch z) z)
  ·rcases eY.mp hp with z | z
   ·exact h5 p z
   ·exact absurd z (by simp)
 have st4:tn 0 h₁:=T.keep _ _ _ st2 λ b hb o e=>old b o e
 have loop:codeAny (model X.prog X.w) X.A (.compLoop (.DictComp kx vx [⟨tg,iter,ifs,0⟩] sc pos) 0 (.ref it) (.ref s2.heap.objs.size) (compEnvC sc (fJ sc X.env) G.objs.size X.env))
   (compPost (model X.prog X.w) X.A X.xe none (EP X pins σ Q) (.ref s2.heap.objs.size) G.objs.size) { s2 with heap:=h₁,toks:=s2.toks+([]:List (Str×af)).length }:=by
  refine vM (X:=cxC X Nc sc G.objs.size s2 H2 fp pins) (.inr ⟨kx,vx,rfl⟩) hx hc (kHY _ _ _ _ _ _ _ _ _ _) T (hg _ _ _ _ _) (hb _ _ _ _ _ _ _) I4 st4 f4 (hw _ hn) λ σ' H' s' I' q=>?_;obtain ⟨m',hm',_⟩:=I'.loc;exact ⟨m',hm',λ h' hs'=>⟨.ref s2.heap.objs.size,H',bX I2 f2 hCle I' hs',rfl,q⟩⟩
 exact wM (.inr ⟨kx,vx,rfl⟩) rfl rfl loop (T.self _ _ _ _ _ st4 loop)
def yW (kvs more:List (List Key×V)):List (List Key×V):=more.foldl (λ acc y=>wN acc y.1 y.2) kvs
theorem KT.fold {H:Hp}:∀ {more:List (List Key×V)} {ys:List (List Key×ah×af)} {kvs:List (List Key×V)} {xs:List (List Key×ah×af)},KT H kvs xs->KT H more ys->KT H (yW kvs more) (Dct.fold xs ys)
 | [],_,_,_,r,.nil=>r
 | p::more,_,kvs,xs,r,.cons (b:=q) z t=>by
  have:=KT.fold (KT.put r q.1 (b:=q.2.1) (y:=p.2) (u:=q.2.2) (by rw [<-z.1];exact z.2.1) z.2.2) t;rw [<-z.1] at this;unfold yW at *;unfold Dct.fold at *;rw [si,si,<-z.1];exact this
def kHS (k:List Key):Prop:=∃ p q:Nat,k=[zc (p:Int),zc (q:Int)]/\p<42/\q<42
theorem kJL {prog:eU} {w:gk}:∀ {ys:List (List Key×ah×af)},(∀ y∈ys,kHS y.1)->(ys.map (·.1)).Nodup->(ys.map λ y=>(tupleKind (qN prog w)).hash y.1).Nodup:=by
 intro ys hp nd;have:ys.map (λ y=>(tupleKind (qN prog w)).hash y.1)=(ys.map (·.1)).map (tupleKind (qN prog w)).hash:=by rw [AF];rfl
 rw [this];refine kg.mpr (nd.imp_of_mem λ {a b} ha hb ne e=>ne ?_);obtain ⟨x,hx,rfl⟩:=gi.mp ha;obtain ⟨y,hy,rfl⟩:=gi.mp hb;obtain ⟨p,q,e1,p1,q1⟩:=hp x hx;obtain ⟨p',q',e2,p2,q2⟩:=hp y hy;rw [e1,e2] at e ⊢
 have:Hsh.hp p q=Hsh.hp p' q':=by
  unfold Hsh.hp;exact congrArg (λ z:Int=>(z+2 ^ 63).toNat) e
 obtain ⟨rfl,rfl⟩:=Hsh.hp_inj p1 q1 p2 q2 this
 rfl
def kNZ:V->List V->Hp->VK->Prop:=λ x vs H Q=>∃ (a b:ah) (kvs more:List (List Key×V)),x=.ref a/\vs=[.ref b]/\a≠b/\H a=some (.dT kvs)/\H b=some (.dT more)/\(∀ y∈more,kHS y.1)/\kvs.length+more.length<=sizeLine/\Q .non (upd H a (.dT (yW kvs more)))
theorem kJB (hu:X.A.units+1<cLine):MtM X "dict.update" kNZ:=by
 intro pins s σ H x vs v us Q I rx rv h;obtain ⟨a,b,kvs,more,rfl,rfl,ab,ha,hb,hp,hz,q⟩:=h;cases rx
 obtain ⟨u,rfl,ru⟩:=rv.one;cases ru
 obtain ⟨za,hda,xs,ra,da⟩:=kCP I.hok ha;obtain ⟨zb,hdb,ys,rb,db⟩:=kCP I.hok hb
 have hp':∀ y∈ys,kHS y.1:=by
  have:∀ {l:List (List Key×V)} {m:List (List Key×ah×af)},KT H l m->(∀ y∈l,kHS y.1)->∀ y∈m,kHS y.1:=by
   intro l m r
   induction r with
   | nil=>intro _ y hy;exact nomatch hy
   | @cons p1 q1 ps qs z t ih =>
    intro hl y hy;rcases gv.mp hy with rfl | hy
    ·rw [<-z.1]
     exact hl _ (fv ..)
    ·exact ih (λ y h=>hl y (eZ _ h)) y hy
  exact this rb hp
 have nd:(ys.map (·.1)).Nodup:=let ⟨_,_,_,_,_,_,_,_,n⟩:=db;n;have lx:=rm ra;have ly:=rm rb;refine call_meetsIn Aw da.typeIs PySem.F.entry_dict_update (PySem.F.args_dict_update_2 _ _) (Dct.meets_upd (qN X.prog X.w) a b ab hdb) ⟨AQ (knd:=qN X.prog X.w) hu,xs,ys,da,db,by omega,λ _=>kJL hp' nd,λ h' dd' hs=>?_⟩;obtain ⟨qo,es,ep,hq,h2,h3,h4,_,h5⟩:=dd';have lf:=rm (KT.fold ra rb);have lz:=Dct.fold_len xs ys;refine ⟨.non,upd H a (.dT (yW kvs more)),cI (t':=s.toks) I (by rw [ha];exact jq) hs ⟨qo,hq⟩ ⟨by omega,hda,_,(KT.fold ra rb).keeps λ c zs ec=>?_,qo,es,ep,hq,h2,h3,h4,h5⟩,rfl,q⟩;rw [kH (zK ec ha (λ z=>nomatch z))];exact ec
end
section
variable {X:Cx}
theorem dW (ns:List Int):∀ j,j<=ns.length->preSum (λ i=>ns.getD i 0) j=(ns.take j).sum:=by
 intro j
 induction j with
 | zero=>intro _;simp [preSum]
 | succ j ih =>
  intro h;rw [preSum,ih (by omega),Cw,BX];have:ns[j]?=some ns[j]:=aa (by omega);rw [this];simp [this]
theorem kLF (ns:List Int) (hb:∀ i∈ns,-(2 ^ 40)<=i/\i<=2 ^ 40) : -(2 ^ 40)*(ns.length:Int)<=ns.sum/\ns.sum<=2 ^ 40*(ns.length:Int):=by
 induction ns with
 | nil=>simp
 | cons x ns ih =>
  have h:=ih λ i hi=>hb i (eZ _ hi);have hx:=hb x (fv ..);rw [AV,iE];omega
theorem kER (hc:X.calm=true):xW X (.builtin "sum") (λ xs H Q=>∃ (a:ah) (ns:List Int),xs=[.ref a]/\SqL X.K H a (ns.map V.int)/\ns.length<=100000/\(∀ i∈ns,-(2 ^ 40)<=i/\i<=2 ^ 40)/\Q (.int ns.sum) H):=by
 intro pins s σ H xs us Q I r h;obtain ⟨a,ns,rfl,hS,hn,hb,q⟩:=h;obtain ⟨u,rfl,r1⟩:=uA r;cases r1
 obtain ⟨its,rv,ht,hz⟩:=I.list hS;have hi:=bY rv;have hl:=ht.isList;have hne:a≠s.heap.objs.size:=by obtain ⟨o,e,_⟩:=hl;exact eM (cf e)
 have sz:its.toArray.size=ns.length:=by rw [eN,<-rv.length,aj]
 refine call_sum_walk (Ca hl ⟨_,[s.heap.objs.size,a],_,_,_,_,λ i=>ns.getD i 0,rfl,Walks.list (A:=X.A.in1) (I.ok.hd hc) _ a hne its.toArray,⟨⟨_,eK _ rfl,rfl,rfl⟩,hl.push _⟩,?_,?_,?_,λ h' tk t' hk=>?_⟩)
 ·intro b hb
  show b<(s.heap.push _).objs.size;rw [qe];have la:a<s.heap.objs.size:=by obtain ⟨o,e,_⟩:=hl;exact cf e
  rcases gv.mp hb with z | z
  ·rw [z]
   exact wg _
  ·rw [fw.mp z]
   exact om la
 ·intro i v e
  have e:its.toArray[i]?=some v:=e;rw [List.getElem?_toArray] at e
  have hlt:i<ns.length:=by
   have:=(ag.mp e).1;rw [<-sz];simpa using this
  obtain ⟨u,e1,t,e2⟩:=rv.get (i:=i) (x:=V.int ns[i]) (by rw [bg,aa hlt];rfl);rw [e] at e1;cases e1
  exact ⟨t,by rw [e2];simp [hlt]⟩
 ·intro j hj
  rw [sz] at hj
  have e1:ns.getD j 0∈ns:=by
   rw [dh,aa hj];exact fg _
  have e2:=hb _ e1;rw [dW ns (j+1) (by omega)];have e3:=kLF (ns.take (j+1)) λ i hi=>hb i (rj hi);have e4:(ns.take (j+1)).length<=100000:=by rw [fb];omega
  show InLong (ns.getD j 0)/\InLong _;unfold InLong;have e5:((ns.take (j+1)).length:Int)<=100000:=by omega
  generalize (ns.take (j+1)).sum=S at *;generalize ((ns.take (j+1)).length:Int)=N at *;omega
 ·rw [sz,dW ns _ (be _),ig]
  refine ⟨.int ns.sum,H,I.kept (λ b o e'=>hk b o (λ z=>?_) (ao _ e')),⟨_,rfl⟩,q⟩;rw [fw.mp z] at e';exact absurd (cf e') (jj _)
end
section
variable {X:Cx}
end
section
variable {prog:eU} {w:gk} {A:eV} {E:af->ak->Prop} {s:ak} {z TI TO i1 i2:ah} {fp1 fp2:List ah} {n1 n2 j:Nat} {P1 P2:Nat->af->Prop} {S1 S2:Nat->gw->Prop} {a b:af}
end
section
variable {X:Cx}
end
end L2
namespace HT
open PySem PySem.Spec PyProof.Rows
section
variable {prog:eU} {w:gk} {A:eV} {E:af->ak->Prop} {s:ak}
theorem cat_tup0 {t b:ah} {ws:List af} {Q:af->ak->Prop} (ht:Dl s.heap t ([]:List af).toArray) (hb:Dl s.heap b ws.toArray) (h:Q (.ref b) s):de (model prog w) A (binaryOp .Add (.ref t) (.ref b)) Q E s:=by
 obtain ⟨⟨cls,dd,data,sl⟩,ho,hc,n,hd⟩:=id ht;obtain ⟨⟨cls2,dd2,data2,sl2⟩,ho2,hc2,n2,hd2⟩:=id hb;simp only at hc hd hc2 hd2;subst hc hd hc2 hd2
 exact Ce ⟨_,ho,rfl⟩ ⟨_,ho2,rfl⟩ Az CG xy xk (wq _ _)
   (tuple_addW0 t b _ ws.toArray n n2 dd dd2 sl sl2 (by simp)) ⟨ho,ho2,h⟩
end
end HT
namespace L2
open PySem PySem.Spec PyProof.Rows
def kNK (H H':Hp):Prop:=∀ b o,H b=some o->H' b=some o
section
variable {X:Cx}
theorem sM {H:Hp} {p:ah} (h:H p=none) (o:HO):kNK H (upd H p o):=λ b u q=>by rw [kH (kF q h)];exact q
def kOA (K:au):V->Option Int->Option Int->Hp->VK->Prop:=λ x lo hi H Q=>∃ a xs,x=.ref a/\H a=some (.tup xs)/\∀ p H',kNK H H'->H' p=some (.tup (uC xs lo hi))->Q (.ref p) H'
theorem kBS:SlR X (kOA X.K):=by
 intro pins s σ H x v vl vu lo hi sl Q I rx hs pl pu h;obtain ⟨a,xs,rfl,hx,q⟩:=h;refine bC pins s σ H _ v vl vu lo hi sl Q I rx hs pl pu ?_;by_cases c:HT.sIx xs.length 0 lo=0/\HT.sIx xs.length xs.length hi=xs.length
 ·refine .inr ⟨a,xs,rfl,SqT.of hx,c,q a H (λ _ _ e=>e) ?_⟩
  rw [hx];unfold uC;rw [c.1,c.2];simp
 ·exact .inl ⟨a,xs,rfl,SqT.of hx,c,λ p np=>q p _ (sM np _) kC⟩
def kOG (K:au):R2:=λ x y H Q=>∃ a b xs ys,x=.ref a/\y=.ref b/\H a=some (.tup xs)/\H b=some (.tup ys)/\xs.length+ys.length<=sizeLine/\∀ p H',kNK H H'->H' p=some (.tup (xs++ys))->Q (.ref p) H'
theorem kIW:OpR X (binaryOp .Add) (kOG X.K):=by
 intro pins s σ H x y v u Q I rx ry h;obtain ⟨a,b,xs,ys,rfl,rfl,ha,hb,hz,q⟩:=h;by_cases c:xs=[]
 ·subst c
  cases rx
  cases ry
  obtain ⟨its,r1,p1,_⟩:=I.tuple (SqT.of (K:=X.K) ha);obtain ⟨its2,r2,p2,_⟩:=I.tuple (SqT.of (K:=X.K) hb);cases r1
  exact HT.cat_tup0 p1 p2 ⟨.ref b,H,I,rfl,q b H (λ _ _ e=>e) (by simpa using hb)⟩
 ·refine fT pins s σ H _ _ v u Q I rx ry ⟨a,b,xs,ys,rfl,rfl,SqT.of ha,SqT.of hb,c,hz,λ e=>q a H (λ _ _ z=>z) (by rw [e,ir];exact ha),λ _ p np=>q p _ (sM np _) kC⟩
end
theorem kDB {k:Bool} {K:au} {a:ah} {xs:List V} {g:TG} {b:TB} {N0:St->Hp->Prop} {σ:St} {H:Hp} (Pv:Nat->St->Hp->Prop) (h0:Pv 0 σ H) (hl:∀ i σ H,i<=xs.length->Pv i σ H->SqX K k H a xs)
  (hs:∀ i x T σ H,xs[i]?=some x->H T=none->Pv i σ H->g (.ref T) σ (upd H T (.tup [.int i,x])) λ σ2 H2=>b (Pv (i+1)) σ2 H2) (hd:∀ σ H,Pv xs.length σ H->N0 σ H):uD (Ite k K a) g b N0 σ H:=by
 refine ⟨λ i m σ H=>m=xs.length-i/\i<=xs.length/\Pv i σ H,⟨xs.length,by simp,iK _,h0⟩,?_⟩;rintro i m σ H ⟨rfl,hle,p⟩;have q1:=hl i σ H hle p;rcases iU i xs.length with hi | hi
 ·refine .inr ⟨⟨xs,xs[i],q1,by simp [hi]⟩,Pv (i+1),λ σ' H' q=>⟨xs.length-(i+1),by omega,rfl,by omega,q⟩,λ x H' hy=>?_⟩
  obtain ⟨T,x1,nT,rfl,e1,rfl⟩:=hy;exact hs i x1 T σ H (e1 xs q1) nT p
 ·obtain rfl:i=xs.length:=by omega
  exact .inl ⟨⟨xs,q1,rfl⟩,hd σ H p⟩
section
variable {X:Cx}
end
end L2
namespace Fc
open Cyc Rnd Tri
def mgN (a b x:Nat):Nat:=if x=b then a else x
def goL (m:List Nat) (ls:List (Nat×Nat)):List Nat:=ls.foldl (λ m l=>m.map (mgN (m.getD l.1 0) (m.getD l.2 0))) m
theorem cC (m:List Nat) (l:Nat×Nat) (ls:List (Nat×Nat)):goL m (l::ls)=goL (m.map (mgN (m.getD l.1 0) (m.getD l.2 0))) ls:=rfl
theorem kCK:∀ (ls:List (Nat×Nat)) (m:List Nat),(goL m ls).length=m.length
 | [],_=>rfl
 | l::ls,m=>by rw [cC,kCK ls,aj]
theorem nK:∀ (ls:List (Nat×Nat)) (m:List Nat) (c:Nat),(∀ x∈goL m ls,x=c)->∃ V:List Nat,V.length<=ls.length+1/\∀ x∈m,x∈V
 | [],m,c,h=>⟨[c],by simp,λ x hx=>by rw [h x hx];simp⟩
 | l::ls,m,c,h=>by
  rw [cC] at h;obtain ⟨V,h1,h2⟩:=nK ls _ c h;refine ⟨m.getD l.2 0::V,by simp;omega,λ x hx=>?_⟩;have:=h2 _ (gi.mpr ⟨x,hx,rfl⟩);unfold mgN at this
  split at this
  ·rename_i e
   rw [e];exact fv ..
  ·exact eZ _ this
theorem bT {m:List Nat} {f:Nat->Nat} {i:Nat} (h:i<m.length):(m.map f).getD i 0=f (m.getD i 0):=by
 rw [dh,dh,bg,aa h]
 rfl
theorem sN:∀ (ls:List (Nat×Nat)) (m:List Nat) (i j:Nat),i<m.length->j<m.length->m.getD i 0=m.getD j 0->(goL m ls).getD i 0=(goL m ls).getD j 0
 | [],_,_,_,_,_,h=>h
 | l::ls,m,i,j,hi,hj,h=>by
  rw [cC];refine sN ls _ i j (by rw [aj];exact hi) (by rw [aj];exact hj) ?_;rw [bT hi,bT hj,h]
theorem sO:∀ (ls:List (Nat×Nat)) (m:List Nat) (i j:Nat),i<m.length->j<m.length->(i,j)∈ls->(goL m ls).getD i 0=(goL m ls).getD j 0
 | l::ls,m,i,j,hi,hj,h=>by
  rw [cC];have hi':i<(m.map (mgN (m.getD l.1 0) (m.getD l.2 0))).length:=by rw [aj];exact hi
  have hj':j<(m.map (mgN (m.getD l.1 0) (m.getD l.2 0))).length:=by rw [aj];exact hj
  rcases gv.mp h with e | h
  ·refine sN ls _ i j hi' hj' ?_
   rw [<-e,bT hi,bT hj];unfold mgN;simp only
   split<;>simp
  ·exact sO ls _ i j hi' hj' h
theorem lJ {F:Nat} {ls:List (Nat×Nat)} (rng:∀ l∈ls,l.1<F/\l.2<F) (all:∀ m:List Nat,m.length=F->(∀ l∈ls,m.getD l.1 0=m.getD l.2 0)->∀ i,i<F->m.getD i 0=m.getD 0 0):F<=ls.length+1:=by
 have hl:=kCK ls (fc F);rw [iN] at hl;have a:=all (goL (fc F) ls) hl λ l hl'=>sO ls _ l.1 l.2 (by rw [iN];exact (rng l hl').1) (by rw [iN];exact (rng l hl').2) hl'
 obtain ⟨V,h1,h2⟩:=nK ls (fc F) ((goL (fc F) ls).getD 0 0) λ x hx=>by
  obtain ⟨i,hi,rfl⟩:=ft.mp hx;rw [<-a i (by omega),dh,aa hi]
  rfl
 have:=eX yx h2;rw [iN] at this;omega
def RN (W:Rows):Nat->Nat->Prop
 | 0,v=>v=0
 | k+1,v=>∃ u,RN W k u/\E W u v
theorem kNW {W:Rows} {v:Nat} (h:Reach W 0 v):∃ k,RN W k v:=by
 induction h with
 | here=>exact ⟨0,rfl⟩
 | more _ e ih =>
  obtain ⟨k,hk⟩:=ih;exact ⟨k+1,_,hk,e⟩
theorem kCD {p:Nat->Prop} (h:∃ k,p k):∃ k,p k/\∀ j,j<k->¬ p j:=by
 obtain ⟨k,hk⟩:=h
 induction k using xc with
 | _ k ih =>
  by_cases c:∃ j,j<k/\p j
  ·obtain ⟨j,hj,hp⟩:=c
   exact ih j hj hp
  ·exact ⟨k,hk,λ j hj hp=>c ⟨j,hj,hp⟩⟩
structure Tree (W:Rows) (par dist:Nat->Nat):Prop where
 e:∀ v,v<W.length->v≠0->E W (par v) v
 d:∀ v,v<W.length->v≠0->dist (par v)+1=dist v
theorem kHZ {W:Rows} (con:∀ p,p<W.length->Reach W 0 p):∃ par dist,Tree W par dist:=by
 have h1:∀ v,∃ k,v<W.length->RN W k v/\∀ j,j<k->¬ RN W j v:=λ v=>by
  by_cases c:v<W.length
  ·obtain ⟨k,hk⟩:=kCD (kNW (con v c))
   exact ⟨k,λ _=>hk⟩
  ·exact ⟨0,λ z=>absurd z c⟩
 have hd:=λ v=>fm (h1 v);generalize hD:(λ v=>iZ (h1 v))=dist at *
 have hd:∀ v,v<W.length->RN W (dist v) v/\∀ j,j<dist v->¬ RN W j v:=λ v hv=>by
  rw [<-hD];exact hd v hv
 have h2:∀ v,∃ u,v<W.length->v≠0->E W u v/\dist u+1=dist v:=λ v=>by
  by_cases c:v<W.length/\v≠0
  ·obtain ⟨a,b⟩:=hd v c.1
   cases e:dist v with
   | zero =>
    rw [e] at a;exact absurd a c.2
   | succ k =>
    rw [e] at a b;obtain ⟨u,hu,eu⟩:=a
    have ul:u<W.length:=by
     obtain ⟨row,er,_⟩:=eu;exact (ag.mp er).1
    obtain ⟨a',b'⟩:=hd u ul;refine ⟨u,λ _ _=>⟨eu,?_⟩⟩;have q1:¬ k<dist u:=λ z=>b' k z hu;have q2:¬ dist u+1<k+1:=λ z=>b _ z ⟨u,a',eu⟩;omega
  ·exact ⟨0,λ z1 z2=>absurd ⟨z1,z2⟩ c⟩
 exact ⟨λ v=>iZ (h2 v),dist,λ v h n=>(fm (h2 v) h n).1,λ v h n=>(fm (h2 v) h n).2⟩
theorem wX {row:List Nat} (nd:row.Nodup) {P:Nat->Prop} {y w0:Nat} (hy:y∈row) (h0:w0∈row) (p0:P w0) (st:∀ w v,w∈row->w≠y->xO row w=some v->P w->P v):P y:=by
 obtain ⟨jy,hj,rfl⟩:=ft.mp hy;obtain ⟨i0,hi,rfl⟩:=ft.mp h0;have idx:∀ i (h:i<row.length),row.idxOf row[i]=i:=λ i h=>(Ay nd).mp (xi (iA (fg h)));have ne:∀ i (h:i<row.length),i≠jy->row[i]≠row[jy]:=λ i h n z=>n ((Ay nd).mp z)
 have step:∀ i (h:i+1<row.length),i+1≠jy->P row[i+1]->P row[i]:=λ i h n p=>by
  refine st _ _ (fg h) (ne _ h n) ?_ p;unfold xO;rw [idx _ h,if_neg (by omega),show i+1-1=i by omega,aa (by omega)]
 have wrap:∀ (h:0<row.length),0≠jy->P row[0]->P (row[row.length-1]'(by omega)):=λ h n p=>by
  refine st _ _ (fg h) (ne _ h n) ?_ p;unfold xO;rw [idx _ h,if_pos rfl,Ah,aa (by omega)]
 have down:∀ k i (h:i+k<row.length),(∀ t,i<t->t<=i+k->t≠jy)->P row[i+k]->P (row[i]'(by omega)):=λ k=>by
  induction k with
  | zero=>exact λ i h _ p=>p
  | succ k ih =>
   intro i h n p;exact ih i (by omega) (λ t h1 h2=>n t h1 (by omega)) (step (i+k) (by omega) (n _ (by omega) (by omega)) p)
 rcases iU i0 jy with c | c
 ·have a:=down i0 0 (by omega) (λ t h1 h2=>by omega) (by simpa using p0)
  have b:=wrap (by omega) (by omega) a;have:=down (row.length-1-jy) jy (by omega) (λ t h1 h2=>by omega) (by simpa [show jy+(row.length-1-jy)=row.length-1 by omega] using b);exact this
 ·have:=down (i0-jy) jy (by omega) (λ t h1 h2=>by omega) (by simpa [show jy+(i0-jy)=i0 by omega] using p0)
  exact this
section
variable {W:Rows} {par dist:Nat->Nat}
theorem rD (dist:Nat->Nat):∀ n:Nat,∃ N,∀ v,v<n->dist v<=N
 | 0=>⟨0,λ v h=>by omega⟩
 | n+1=>by
  obtain ⟨N,h⟩:=rD dist n;refine ⟨max N (dist n),λ v hv=>?_⟩;rcases iU v n with c | c
  ·have:=h v c
   omega
  ·rw [show v=n by omega]
   omega
theorem kFD (S:Nb W) (T:Tree W par dist) (P:Nat->Nat->Prop) (c1:∀ x y v,E W x y->P x y->nxt W (x,y)=(y,v)->P y v)
  (c2:∀ x y,E W x y->¬ ((y≠0/\par y=x)\/(x≠0/\par x=y))->P x y->P y x) {w0:Nat} (e0:E W 0 w0) (p0:P 0 w0):∀ x y,E W x y->P x y:=by
 obtain ⟨N,hN⟩:=rD dist W.length
 have row:∀ z,z<W.length->∃ r,W[z]?=some r/\W.getD z []=r/\r.Nodup/\∀ w,w∈r↔E W z w:=λ z hz=>by
  refine ⟨W[z],aa hz,by rw [dh,aa hz];rfl,S.nd z _ (aa hz),λ w=>⟨λ m=>⟨_,aa hz,m⟩,λ ⟨r,er,m⟩=>?_⟩⟩;rw [aa hz] at er;cases er
  exact m
 have nx:∀ z r w v,W.getD z []=r->xO r w=some v->nxt W (w,z)=(z,v):=λ z r w v e h=>by
  show (z,(xO (W.getD z []) w).getD 0)=(z,v);rw [e,h]
  rfl
 have child:∀ k z,z<W.length->z≠0->N-dist z=k->P (par z) z->P z (par z):=λ k=>by
  induction k using xc with
  | _ k ih =>
   intro z hz z0 hk p;obtain ⟨r,er,eg,nd,mem⟩:=row z hz;have ep:=T.e z hz z0;obtain ⟨v,rv,nv,ev⟩:=wU S ep;refine wX nd (P:=λ w=>P z w) ((mem _).mpr (S.sym _ _ ep)) ((mem v).mpr ev) (c1 _ _ _ ep p nv) λ w u hw nw hu pw=>?_;have ew:=(mem w).mp hw
   have back:P w z:=by
    by_cases t:(w≠0/\par w=z)\/(z≠0/\par z=w)
    ·rcases t with ⟨w0',pw'⟩ | ⟨_,pz⟩
     ·have hwl:=(S.e ew).2.1
      have d1:=T.d w hwl w0';rw [pw'] at d1;have:=hN w hwl;have q:=ih (N-dist w) (by omega) w hwl w0' rfl (by rw [pw'];exact pw);rwa [pw'] at q
     ·exact absurd pz.symm nw
    ·exact c2 z w ew t pw
   exact c1 w z u (S.sym _ _ ew) back (nx z r w u eg hu)
 have all:∀ k v,v<W.length->dist v=k->(v=0\/True)->∀ y,E W v y->P v y:=λ k=>by
  induction k using xc with
  | _ k ih =>
   intro v hv hk _ y ey;obtain ⟨r,er,eg,nd,mem⟩:=row v hv
   have turn:∀ w u,w∈r->xO r w=some u->(v≠0->w=par v->P w v)->P v w->P v u:=λ w u hw hu hp pw=>by
    have ew:=(mem w).mp hw
    have back:P w v:=by
     by_cases t:(w≠0/\par w=v)\/(v≠0/\par v=w)
     ·rcases t with ⟨w0',pw'⟩ | ⟨v0,pv⟩
      ·have hwl:=(S.e ew).2.1
       have q:=child _ w hwl w0' rfl (by rw [pw'];exact pw);rwa [pw'] at q
      ·exact hp v0 pv.symm
     ·exact c2 v w ew t pw
    exact c1 w v u (S.sym _ _ ew) back (nx v r w u eg hu)
   by_cases v0:v=0
   ·subst v0
    exact wX nd (P:=λ w=>P 0 w) ((mem y).mpr ey) ((mem w0).mpr e0) p0 λ w u hw _ hu pw=>turn w u hw hu (λ z=>absurd rfl z) pw
   ·have ep:=T.e v hv v0
    have d1:=T.d v hv v0;have pl:=(S.e ep).1;have pp:=ih (dist (par v)) (by omega) (par v) pl rfl (.inr trivial) v ep;obtain ⟨u,ru,nu,eu⟩:=wU S ep;exact wX nd (P:=λ w=>P v w) ((mem y).mpr ey) ((mem u).mpr eu) (c1 _ _ _ ep pp nu) λ w u' hw _ hu pw=>turn w u' hw hu (λ _ e=>by rw [e];exact pp) pw
 exact λ x y exy=>all _ x (S.e exy).1 rfl (.inr trivial) y exy
end
section
variable {W:Rows} {par dist:Nat->Nat}
theorem fQ (S:Nb W):∃ R:List (Nat×Nat),R.length=(facesS W).length/\(∀ r∈R,r∈kK W)/\(∀ t∈kK W,∃ i,∃ (h:i<R.length),t∈rnd W R[i])/\∀ t i j (hi:i<R.length) (hj:j<R.length),t∈rnd W R[i]->t∈rnd W R[j]->i=j:=by
 have sub:∀ t∈stepsS W,t∈kK W:=λ t ht=>(sortP_perm _).mem_iff.mp ht;have I:=fgo_ok S (stepsS W) sub;obtain ⟨R,r1,r2,r3⟩:=I.reps
 have lf:(facesS W).length=R.length:=by
  rw [show (facesS W).length=(facesU W).length from (sortL_perm _).length_eq];show (fgo W (stepsS W)).1.length=_;rw [r2,aj]
 have nd:=I.nd;rw [r3] at nd;have pw:=(Bg.mp nd).2;refine ⟨R,lf.symm,λ r hr=>sub r (r1 r hr),λ t ht=>?_,λ t i j hi hj h1 h2=>?_⟩
 ·have:=I.cov t ((sortP_perm _).mem_iff.mpr ht)
  rw [r3] at this;obtain ⟨r,hr,h⟩:=xp.mp this;obtain ⟨i,hi,rfl⟩:=ft.mp hr;exact ⟨i,hi,h⟩
 ·rcases yb i j with c | c | c
  ·exact absurd rfl (kl.mp pw i j hi hj c t h1 t h2)
  ·exact c
  ·exact absurd rfl (kl.mp pw j i hj hi c t h2 t h1)
def trP (par:Nat->Nat) (t:Nat×Nat):Bool:=decide ((t.2≠0/\par t.2=t.1)\/(t.1≠0/\par t.1=t.2))
def kt (par:Nat->Nat) (v:Nat):Nat×Nat:=if v<par v then (v,par v) else (par v,v)
theorem tM (S:Nb W) (T:Tree W par dist):W.length-1<=((tiesS W).filter (trP par)).length:=by
 have nd:((fc (W.length-1)).map λ v=>kt par (v+1)).Nodup:=by
  refine kg.mpr (BR.imp_of_mem λ {a b} ha hb hab e=>?_);have ha:=iM.mp ha;have hb:=iM.mp hb;have da:=T.d (a+1) (by omega) (by omega);have db:=T.d (b+1) (by omega) (by omega);unfold kt at e
  have two:par (a+1)=b+1/\par (b+1)=a+1:=by
   split at e<;>split at e<;>injection e with e1 e2<;>omega
  rw [two.1] at da;rw [two.2] at db;omega
 have:=eX nd (l₂:=(tiesS W).filter (trP par)) λ t ht=>by
  obtain ⟨v,hv,rfl⟩:=gi.mp ht;have hv:=iM.mp hv;have e:=T.e (v+1) (by omega) (by omega);have ne:=(S.e e).2.2;unfold kt tiesS trP;rw [iC,iC,mem_stepsS]
  split
  ·rename_i c
   exact ⟨⟨S.sym _ _ e,decide_eq_true c⟩,decide_eq_true (.inr ⟨by show v+1≠0;omega,rfl⟩)⟩
  ·rename_i c
   exact ⟨⟨e,decide_eq_true (by show par (v+1)<v+1;omega)⟩,decide_eq_true (.inl ⟨by show v+1≠0;omega,rfl⟩)⟩
 rw [aj,iN] at this;exact this
theorem kHD (S:Nb W) (con:∀ p,p<W.length->Reach W 0 p) {w0:Nat} (e0:E W 0 w0):W.length+(facesS W).length<=(tiesS W).length+2:=by
 obtain ⟨par,dist,T⟩:=kHZ con;obtain ⟨R,lR,rS,cov,uni⟩:=fQ S
 have hfi:∀ t,∃ i,t∈kK W->∃ (h:i<R.length),t∈rnd W R[i]:=λ t=>by
  by_cases c:t∈kK W
  ·obtain ⟨i,h,m⟩:=cov t c
   exact ⟨i,λ _=>⟨h,m⟩⟩
  ·exact ⟨0,λ z=>absurd z c⟩
 have fis:=λ t=>fm (hfi t);generalize hF:(λ t=>iZ (hfi t))=fi at *
 have fis:∀ t,t∈kK W->∃ (h:fi t<R.length),t∈rnd W R[fi t]:=λ t ht=>by
  subst hF;exact fis t ht
 have fnx:∀ t,t∈kK W->fi (nxt W t)=fi t:=λ t ht=>by
  obtain ⟨h1,m1⟩:=fis t ht;have hn:=bJ S (rS _ (fg h1)) m1;have hs:=rnd_sub S (rS _ (fg h1)) hn;obtain ⟨h2,m2⟩:=fis _ hs;exact uni _ _ _ h2 h1 m2 hn
 have frp:∀ i (h:i<R.length),fi R[i]=i:=λ i h=>by
  have hr:=rS _ (fg h);obtain ⟨h2,m2⟩:=fis _ hr;exact uni _ _ _ h2 h m2 (rnd_self S hr)
 have st:∀ x y,E W x y->(x,y)∈kK W:=λ x y e=>mem_steps.mpr e
 have ls:R.length<=(((tiesS W).filter λ t=>!trP par t).map λ t=>(fi t,fi (t.2,t.1))).length+1:=by
  refine lJ (λ l hl=>?_) λ m lm hl i hi=>?_
  ·obtain ⟨t,ht,rfl⟩:=gi.mp hl
   have ht:=(iC.mp ht).1;unfold tiesS at ht;have e:=mem_stepsS.mp (iC.mp ht).1;exact ⟨(fis t (st _ _ e)).1,(fis (t.2,t.1) (st _ _ (S.sym _ _ e))).1⟩
  ·have all:=kFD S T (λ x y=>m.getD (fi (x,y)) 0=m.getD (fi (0,w0)) 0) (λ x y v e p n=>?_) (λ x y e nt p=>?_) e0 rfl
   ·have key:∀ i,i<R.length->m.getD i 0=m.getD (fi (0,w0)) 0:=λ i hi=>by
     have e:E W R[i].1 R[i].2:=mem_steps.mp (rS _ (fg hi));have:=all _ _ e;rw [show (R[i].1,R[i].2)=R[i] from rfl,frp i hi] at this;exact this
    rw [key i hi,key 0 (by omega)]
   ·have:=fnx _ (st x y e)
    rw [n] at this;show m.getD (fi (y,v)) 0=_;rw [this];exact p
   ·show m.getD (fi (y,x)) 0=_
    have ne:=(S.e e).2.2;rcases iU x y with c | c
    ·have:=hl (fi (x,y),fi (y,x)) (gi.mpr ⟨(x,y),iC.mpr ⟨iC.mpr ⟨mem_stepsS.mpr e,decide_eq_true c⟩,by unfold trP;rw [decide_eq_false nt];rfl⟩,rfl⟩)
     exact this.symm.trans p
    ·have nt':¬ ((x≠0/\par x=y)\/(y≠0/\par y=x)):=λ z=>nt z.symm
     have:=hl (fi (y,x),fi (x,y)) (gi.mpr ⟨(y,x),iC.mpr ⟨iC.mpr ⟨mem_stepsS.mpr (S.sym _ _ e),decide_eq_true (by show y<x;omega)⟩,by unfold trP;rw [decide_eq_false nt'];rfl⟩,rfl⟩);exact this.trans p
 have tc:=tM S T
 have sum:((tiesS W).filter (trP par)).length+((tiesS W).filter λ t=>!trP par t).length=(tiesS W).length:=by
  have:∀ l:List (Nat×Nat),(l.filter (trP par)).length+(l.filter λ t=>!trP par t).length=l.length:=λ l=>by
   induction l with
   | nil=>rfl
   | cons t l ih =>
    rw [ip,ip]
    cases trP par t<;>simp<;>omega
  exact this _
 rw [aj] at ls;have n0:=(S.e e0).1;omega
end
section
variable {W W':Rows}
theorem vQ (S:Nb W) {r t u:Nat×Nat} (h:r∈kK W) (ht:t∈rnd W r) (hu:u∈rnd W r):u∈rnd W t:=by
 obtain ⟨i,rfl⟩:=(jN S h).mp ht;obtain ⟨k,rfl⟩:=(jN S h).mp hu;obtain ⟨p0,_,back,_⟩:=wY S h;have hs:=rnd_sub S h ht;refine (jN S hs).mpr ⟨k+(per W r-i % per W r),?_⟩;have lt:=AZ i p0;rw [aS (nxt W) r back i,<-yB,show k+(per W r-i % per W r)+i % per W r=k+per W r by omega,yB,back]
theorem kBD (S:Nb W) {Q:List (Nat×Nat)} (sub:∀ r∈Q,r∈kK W) (pw:Q.Pairwise λ a b=>b∉rnd W a):Q.length<=(facesS W).length:=by
 obtain ⟨R,lR,rS,cov,uni⟩:=fQ S
 have hfi:∀ t,∃ i,t∈kK W->∃ (h:i<R.length),t∈rnd W R[i]:=λ t=>by
  by_cases c:t∈kK W
  ·obtain ⟨i,h,m⟩:=cov t c
   exact ⟨i,λ _=>⟨h,m⟩⟩
  ·exact ⟨0,λ z=>absurd z c⟩
 have nd:(Q.map λ t=>iZ (hfi t)).Nodup:=by
  refine kg.mpr (pw.imp_of_mem λ {a b} ha hb hab e=>hab ?_);obtain ⟨h1,m1⟩:=fm (hfi a) (sub a ha);obtain ⟨h2,m2⟩:=fm (hfi b) (sub b hb)
  have m2':b∈rnd W R[iZ (hfi a)]:=by
   simp only [e];exact m2
  exact vQ S (rS _ (fg h1)) m1 m2'
 have:=eX nd (l₂:=fc R.length) λ x hx=>by
  obtain ⟨t,ht,rfl⟩:=gi.mp hx;exact iM.mpr (fm (hfi t) (sub t ht)).1
 rw [aj,iN,lR] at this;exact this
end
section
variable {W W' L:Rows}
def Flat (W:Rows):Prop:=W.length+(facesS W).length=(tiesS W).length+2
end
section
variable {W W':Rows}
end
def RC (W:Rows) (C:List Nat):Nat->Nat->Prop
 | 0,v=>v∈C
 | k+1,v=>∃ u,RC W C k u/\E W u v
theorem kNX {W:Rows} {C:List Nat} {c v:Nat} (hc:c∈C) (h:Reach W c v):∃ k,RC W C k v:=by
 induction h with
 | here=>exact ⟨0,hc⟩
 | more _ e ih =>
  obtain ⟨k,hk⟩:=ih;exact ⟨k+1,_,hk,e⟩
structure CTree (W:Rows) (C:List Nat) (par dist:Nat->Nat):Prop where
 e:∀ v,v<W.length->v∉C->E W (par v) v
 d:∀ v,v<W.length->v∉C->dist (par v)+1=dist v
theorem kHL {W:Rows} {C:List Nat} (con:∀ v,v<W.length->∃ c∈C,Reach W c v):∃ par dist,CTree W C par dist:=by
 have h1:∀ v,∃ k,v<W.length->RC W C k v/\∀ j,j<k->¬ RC W C j v:=λ v=>by
  by_cases c:v<W.length
  ·obtain ⟨c0,hc0,r⟩:=con v c
   obtain ⟨k,hk⟩:=kCD (kNX hc0 r);exact ⟨k,λ _=>hk⟩
  ·exact ⟨0,λ z=>absurd z c⟩
 have hd:=λ v=>fm (h1 v);generalize hD:(λ v=>iZ (h1 v))=dist at *
 have hd:∀ v,v<W.length->RC W C (dist v) v/\∀ j,j<dist v->¬ RC W C j v:=λ v hv=>by
  rw [<-hD];exact hd v hv
 have h2:∀ v,∃ u,v<W.length->v∉C->E W u v/\dist u+1=dist v:=λ v=>by
  by_cases c:v<W.length/\v∉C
  ·obtain ⟨a,b⟩:=hd v c.1
   cases e:dist v with
   | zero =>
    rw [e] at a;exact absurd a c.2
   | succ k =>
    rw [e] at a b;obtain ⟨u,hu,eu⟩:=a
    have ul:u<W.length:=by
     obtain ⟨row,er,_⟩:=eu;exact (ag.mp er).1
    obtain ⟨a',b'⟩:=hd u ul;refine ⟨u,λ _ _=>⟨eu,?_⟩⟩;have q1:¬ k<dist u:=λ z=>b' k z hu;have q2:¬ dist u+1<k+1:=λ z=>b _ z ⟨u,a',eu⟩;omega
  ·exact ⟨0,λ z1 z2=>absurd ⟨z1,z2⟩ c⟩
 exact ⟨λ v=>iZ (h2 v),dist,λ v h n=>(fm (h2 v) h n).1,λ v h n=>(fm (h2 v) h n).2⟩
section
variable {W:Rows} {C:List Nat} {par dist:Nat->Nat} {lab:Nat->Nat->Nat}
theorem oS (S:Nb W) {z:Nat} (hz:z<W.length):∃ r,W[z]?=some r/\r.Nodup/\(∀ w,w∈r↔E W z w)/\∀ w v,xO r w=some v->nxt W (w,z)=(z,v):=by
 refine ⟨W[z],aa hz,S.nd z _ (aa hz),λ w=>⟨λ m=>⟨_,aa hz,m⟩,λ ⟨r,er,m⟩=>?_⟩,λ w v h=>?_⟩
 ·rw [aa hz] at er
  cases er
  exact m
 ·show (z,(xO (W.getD z []) w).getD 0)=(z,v)
  rw [dh,aa hz];show (z,(xO W[z] w).getD 0)=(z,v);rw [h]
  rfl
def Fit (W:Rows) (lab:Nat->Nat->Nat):Prop:=∀ x y v,E W x y->nxt W (x,y)=(y,v)->lab y v=lab x y
theorem kJG (S:Nb W) (T:CTree W C par dist) (c1:Fit W lab)
  (c2:∀ x y,E W x y->¬ ((y∉C/\par y=x)\/(x∉C/\par x=y)\/Nx C x y\/Nx C y x)->lab x y=lab y x):∀ x y,E W x y->¬ Nx C x y->¬ Nx C y x->lab x y=lab y x:=by
 obtain ⟨N,hN⟩:=rD dist W.length
 have child:∀ k z,z<W.length->z∉C->N-dist z=k->lab (par z) z=lab z (par z):=λ k=>by
  induction k using xc with
  | _ k ih =>
   intro z hz z0 hk;obtain ⟨r,er,nd,mem,nx⟩:=oS S hz;have ep:=T.e z hz z0;obtain ⟨v,rv,nv,ev⟩:=wU S ep;refine (wX nd (P:=λ w=>lab z w=lab (par z) z) ((mem _).mpr (S.sym _ _ ep)) ((mem v).mpr ev) (c1 _ _ _ ep nv) λ w u hw nw hu pw=>?_).symm;have ew:=(mem w).mp hw
   have back:lab z w=lab w z:=by
    by_cases t:(w∉C/\par w=z)\/(z∉C/\par z=w)\/Nx C z w\/Nx C w z
    ·rcases t with ⟨w0',pw'⟩ | ⟨_,pz⟩ | h | h
     ·have hwl:=(S.e ew).2.1
      have d1:=T.d w hwl w0';rw [pw'] at d1;have:=hN w hwl;have q:=ih (N-dist w) (by omega) w hwl w0' rfl;rwa [pw'] at q
     ·exact absurd pz.symm nw
     ·exact absurd (kX h).1 z0
     ·exact absurd (kX h).2 z0
    ·exact c2 z w ew t
   rw [c1 w z u (S.sym _ _ ew) (nx w u hu),<-back,pw]
 intro x y e n1 n2;by_cases t:(y∉C/\par y=x)\/(x∉C/\par x=y)\/Nx C x y\/Nx C y x
 ·rcases t with ⟨h,rfl⟩ | ⟨h,rfl⟩ | h | h
  ·exact child _ y (S.e e).2.1 h rfl
  ·exact (child _ x (S.e e).1 h rfl).symm
  ·exact absurd h n1
  ·exact absurd h n2
 ·exact c2 x y e t
theorem kCF (S:Nb W) (c1:Fit W lab) (sy:∀ x y,E W x y->¬ Nx C x y->¬ Nx C y x->lab x y=lab y x) {z w w':Nat} (hz:z∉C) (e:E W z w) (e':E W z w'):lab z w=lab z w':=by
 obtain ⟨r,er,nd,mem,nx⟩:=oS S (S.e e).1;refine wX nd (P:=λ u=>lab z u=lab z w') ((mem w).mpr e) ((mem w').mpr e') rfl λ u v hu _ hv p=>?_;have eu:=(mem u).mp hu;rw [c1 u z v (S.sym _ _ eu) (nx u v hv),<-sy z u eu (λ h=>hz (kX h).1) (λ h=>hz (kX h).2)];exact p
theorem pR (S:Nb W) (nd:C.Nodup) (c1:Fit W lab) (ce:∀ p q,Nx C p q->E W p q) (sy:∀ x y,E W x y->¬ Nx C x y->¬ Nx C y x->lab x y=lab y x) {p c n:Nat} (h1:Nx C p c) (h2:Nx C c n):lab c n=lab p c:=by
 have e1:=ce _ _ h1;have e2:=ce _ _ h2;obtain ⟨r,er,ndr,mem,nx⟩:=oS S (S.e e2).1;obtain ⟨v,rv,nv,ev⟩:=wU S e1;refine wX ndr (P:=λ u=>lab c u=lab p c) ((mem n).mpr e2) ((mem v).mpr ev) (c1 _ _ _ e1 nv) λ u v hu ne hv q=>?_;have eu:=(mem u).mp hu;rw [c1 u c v (S.sym _ _ eu) (nx u v hv)];by_cases up:u=p
 ·rw [up]
 ·rw [<-sy c u eu (λ h=>ne (zJ nd h h2)) (λ h=>up (zU nd h h1))]
  exact q
theorem kJF (S:Nb W) (nd:C.Nodup) (c1:Fit W lab) (ce:∀ p q,Nx C p q->E W p q) (sy:∀ x y,E W x y->¬ Nx C x y->¬ Nx C y x->lab x y=lab y x) {p c n w:Nat} (h1:Nx C p c) (h2:Nx C c n) (e:E W c w):lab c w=lab p c\/lab c w=lab n c:=by
 have e2:=ce _ _ h2;obtain ⟨r,er,ndr,mem,nx⟩:=oS S (S.e e2).1;refine wX ndr (P:=λ u=>lab c u=lab p c\/lab c u=lab n c) ((mem w).mpr e) ((mem n).mpr e2) (.inl (pR S nd c1 ce sy h1 h2)) λ u v hu ne hv q=>?_;have eu:=(mem u).mp hu;rw [c1 u c v (S.sym _ _ eu) (nx u v hv)];by_cases un:u=n
 ·exact .inr (by rw [un])
 ·by_cases up:u=p
  ·exact .inl (by rw [up])
  ·rw [<-sy c u eu (λ h=>un (zJ nd h h2)) (λ h=>up (zU nd h h1))]
   exact q
theorem kJH (S:Nb W) (T:CTree W C par dist) (nd:C.Nodup) (c1:Fit W lab) (ce:∀ p q,Nx C p q->E W p q) (sy:∀ x y,E W x y->¬ Nx C x y->¬ Nx C y x->lab x y=lab y x) {p q:Nat} (h:Nx C p q) (eq:lab p q=lab q p) :
  ∀ x y,E W x y->lab x y=lab p q:=by
 have one:∀ c n,Nx C c n->lab c n=lab p q->lab n c=lab p q->∀ w,E W c w->lab c w=lab p q:=λ c n hn a b w e=>by
  obtain ⟨v,hv⟩:=aG (kX hn).1;have hv:=zR nd (kX hn).1 hv;rcases kJF S nd c1 ce sy hv hn e with z | z
  ·rw [z,<-pR S nd c1 ce sy hv hn,a]
  ·rw [z,b]
 have onC:∀ y∈C,∀ w,E W y w->lab y w=lab p q:=λ y hy=>by
  refine wX nd (P:=λ c=>∀ w,E W c w->lab c w=lab p q) hy (kX h).1 (one p q h rfl eq.symm) λ c v hc _ hv z=>?_;have hv:=zR nd hc hv;obtain ⟨n,hn⟩:=pP hc;refine one v c hv ?_ (z v (S.sym _ _ (ce _ _ hv)));rw [<-pR S nd c1 ce sy hv hn];exact z n (ce _ _ hn)
 have tree:∀ k z,z<W.length->dist z=k->∀ w,E W z w->lab z w=lab p q:=λ k=>by
  induction k using xc with
  | _ k ih =>
   intro z hz hk w e;by_cases hc:z∈C
   ·exact onC z hc w e
   ·have ep:=T.e z hz hc
    have d1:=T.d z hz hc;rw [kCF S c1 sy hc e (S.sym _ _ ep),<-sy _ _ ep (λ h=>hc (kX h).2) (λ h=>hc (kX h).1)];exact ih _ (by omega) _ (S.e ep).1 rfl _ ep
 exact λ x y e=>tree _ x (S.e e).1 rfl y e
def rQ (v u:Nat):Nat×Nat:=if v<u then (v,u) else (u,v)
theorem kFE {v u w x:Nat} (h:rQ v u=rQ w x):(v=w/\u=x)\/(v=x/\u=w):=by
 unfold rQ at h
 split at h<;>split at h<;>injection h with h1 h2<;>omega
theorem kMC {v w:Nat} (nd:C.Nodup) (h1:Nx C v w) (h2:Nx C w v):C.length<=2:=by
 have all:∀ x∈C,x=v\/x=w:=λ x hx=>by
  refine wX nd (P:=λ x=>x=v\/x=w) hx (kX h1).1 (.inl rfl) λ y u hy _ hu p=>?_;have hu:=zR nd hy hu;rcases p with rfl | rfl
  ·exact .inr (zU nd hu h2)
  ·exact .inl (zU nd hu h1)
 have:=eX nd (l₂:=[v,w]) λ x hx=>by
  rcases all x hx with rfl | rfl<;>simp
 simpa using this
def CtP (C:List Nat) (par:Nat->Nat) (t:Nat×Nat):Prop:=(t.2∉C/\par t.2=t.1)\/(t.1∉C/\par t.1=t.2)\/Nx C t.1 t.2\/Nx C t.2 t.1
open Classical in
theorem sY (S:Nb W) (T:CTree W C par dist) (nd:C.Nodup) (l3:3<=C.length) (ce:∀ p q,Nx C p q->E W p q):W.length<=((tiesS W).filter λ t=>decide (CtP C par t)).length:=by
 have up:∀ v,∃ u,v<W.length->(v∈C/\Nx C v u)\/(v∉C/\u=par v):=λ v=>by
  by_cases c:v∈C
  ·obtain ⟨u,hu⟩:=pP c
   exact ⟨u,λ _=>.inl ⟨c,hu⟩⟩
  ·exact ⟨par v,λ _=>.inr ⟨c,rfl⟩⟩
 have ups:=λ v=>fm (up v);generalize hU:(λ v=>iZ (up v))=f at *
 have ups:∀ v,v<W.length->(v∈C/\Nx C v (f v))\/(v∉C/\f v=par v):=λ v hv=>by
  rw [<-hU];exact ups v hv
 have ndl:((fc W.length).map λ v=>rQ v (f v)).Nodup:=by
  refine kg.mpr (BR.imp_of_mem λ {a b} ha hb hab e=>?_);have ha:=iM.mp ha;have hb:=iM.mp hb;rcases kFE e with ⟨z,_⟩ | ⟨z1,z2⟩
  ·omega
  ·rcases ups a ha with ⟨ca,na⟩ | ⟨ca,na⟩<;>rcases ups b hb with ⟨cb,nb⟩ | ⟨cb,nb⟩
   ·rw [z2] at na
    rw [<-z1] at nb;have:=kMC nd na nb;omega
   ·rw [z2] at na
    exact cb (kX na).2
   ·rw [<-z1] at nb
    exact ca (kX nb).2
   ·have da:=T.d a ha ca
    have db:=T.d b hb cb;rw [<-na,z2] at da;rw [<-nb,<-z1] at db;omega
 have:=eX ndl (l₂:=(tiesS W).filter λ t=>decide (CtP C par t)) λ t ht=>by
  obtain ⟨v,hv,rfl⟩:=gi.mp ht;have hv:=iM.mp hv
  have two:E W v (f v)/\CtP C par (v,f v)/\CtP C par (f v,v):=by
   rcases ups v hv with ⟨c,n⟩ | ⟨c,n⟩
   ·exact ⟨ce _ _ n,.inr (.inr (.inl n)),.inr (.inr (.inr n))⟩
   ·rw [n]
    exact ⟨S.sym _ _ (T.e v hv c),.inr (.inl ⟨c,rfl⟩),.inl ⟨c,rfl⟩⟩
  obtain ⟨e,p1,p2⟩:=two;have ne:=(S.e e).2.2;unfold rQ tiesS;rw [iC,iC,mem_stepsS]
  split
  ·rename_i c
   exact ⟨⟨e,decide_eq_true c⟩,decide_eq_true p1⟩
  ·rename_i c
   exact ⟨⟨S.sym _ _ e,decide_eq_true (by show f v<v;omega)⟩,decide_eq_true p2⟩
 rw [aj,iN] at this;exact this
open Classical in
theorem kMO (S:Nb W) (con:∀ v,v<W.length->Reach W 0 v) (fl:W.length+(facesS W).length=(tiesS W).length+2) (nd:C.Nodup) (l3:3<=C.length) (ce:∀ p q,Nx C p q->E W p q) :
  ∃ lab:Nat->Nat->Nat,Fit W lab/\(∀ x y,E W x y->¬ Nx C x y->¬ Nx C y x->lab x y=lab y x)/\∀ p q,Nx C p q->lab p q≠lab q p:=by
 refine iL λ no=>?_
 obtain ⟨c0,hc0⟩ : ∃ c,c∈C:=by
  cases C with
  | nil=>simp at l3
  | cons c C=>exact ⟨c,fv⟩
 obtain ⟨c1,hc1⟩:=pP hc0;have e01:=ce _ _ hc1;have lc:=(S.e e01).1;obtain ⟨par,dist,T⟩:=kHL (C:=C) λ v hv=>⟨c0,hc0,(Reach.symm S.sym (con c0 lc)).trans (con v hv)⟩;obtain ⟨R,lR,rS,cov,uni⟩:=fQ S
 have hfi:∀ t,∃ i,t∈kK W->∃ (h:i<R.length),t∈rnd W R[i]:=λ t=>by
  by_cases c:t∈kK W
  ·obtain ⟨i,h,m⟩:=cov t c
   exact ⟨i,λ _=>⟨h,m⟩⟩
  ·exact ⟨0,λ z=>absurd z c⟩
 have fis:=λ t=>fm (hfi t);generalize hF:(λ t=>iZ (hfi t))=fi at *
 have fis:∀ t,t∈kK W->∃ (h:fi t<R.length),t∈rnd W R[fi t]:=λ t ht=>by
  subst hF;exact fis t ht
 have fnx:∀ t,t∈kK W->fi (nxt W t)=fi t:=λ t ht=>by
  obtain ⟨h1,m1⟩:=fis t ht;have hn:=bJ S (rS _ (fg h1)) m1;have hs:=rnd_sub S (rS _ (fg h1)) hn;obtain ⟨h2,m2⟩:=fis _ hs;exact uni _ _ _ h2 h1 m2 hn
 have frp:∀ i (h:i<R.length),fi R[i]=i:=λ i h=>by
  have hr:=rS _ (fg h);obtain ⟨h2,m2⟩:=fis _ hr;exact uni _ _ _ h2 h m2 (rnd_self S hr)
 have st:∀ x y,E W x y->(x,y)∈kK W:=λ x y e=>mem_steps.mpr e
 have ls:R.length<=(((tiesS W).filter λ t=>!decide (CtP C par t)).map λ t=>(fi t,fi (t.2,t.1))).length+1:=by
  refine lJ (λ l hl=>?_) λ m lm hl i hi=>?_
  ·obtain ⟨t,ht,rfl⟩:=gi.mp hl
   have ht:=(iC.mp ht).1;unfold tiesS at ht;have e:=mem_stepsS.mp (iC.mp ht).1;exact ⟨(fis t (st _ _ e)).1,(fis (t.2,t.1) (st _ _ (S.sym _ _ e))).1⟩
  ·have f1:Fit W (λ x y=>m.getD (fi (x,y)) 0):=λ x y v e n=>by
    have:=fnx _ (st x y e);rw [n] at this;show m.getD (fi (y,v)) 0=_;rw [this]
   have sy:=kJG (lab:=λ x y=>m.getD (fi (x,y)) 0) S T f1 λ x y e nt=>by
    show m.getD (fi (x,y)) 0=m.getD (fi (y,x)) 0;have ne:=(S.e e).2.2;rcases iU x y with c | c
    ·exact hl (fi (x,y),fi (y,x)) (gi.mpr ⟨(x,y),iC.mpr ⟨iC.mpr ⟨mem_stepsS.mpr e,decide_eq_true c⟩,by rw [decide_eq_false (show ¬ CtP C par (x,y) from nt)];rfl⟩,rfl⟩)
    ·have nt':¬ CtP C par (y,x):=λ z=>nt (by
      rcases z with z | z | z | z
      ·exact .inr (.inl z)
      ·exact .inl z
      ·exact .inr (.inr (.inr z))
      ·exact .inr (.inr (.inl z)))
     exact (hl (fi (y,x),fi (x,y)) (gi.mpr ⟨(y,x),iC.mpr ⟨iC.mpr ⟨mem_stepsS.mpr (S.sym _ _ e),decide_eq_true (by show y<x;omega)⟩,by rw [decide_eq_false nt'];rfl⟩,rfl⟩)).symm
   have ex:∃ p q,Nx C p q/\m.getD (fi (p,q)) 0=m.getD (fi (q,p)) 0:=iL λ z=>no ⟨_,f1,sy,λ p q h e=>z ⟨p,q,h,e⟩⟩;obtain ⟨p,q,h,e⟩:=ex;have all:=kJH S T nd f1 ce sy h e
   have key:∀ i,i<R.length->m.getD i 0=m.getD (fi (p,q)) 0:=λ i hi=>by
    have e:E W R[i].1 R[i].2:=mem_steps.mp (rS _ (fg hi));have:=all _ _ e;rw [show (R[i].1,R[i].2)=R[i] from rfl,frp i hi] at this;exact this
   rw [key i hi,key 0 (by omega)]
 have tc:=sY S T nd l3 ce
 have sum:((tiesS W).filter λ t=>decide (CtP C par t)).length+((tiesS W).filter λ t=>!decide (CtP C par t)).length=(tiesS W).length:=by
  have:∀ l:List (Nat×Nat),(l.filter λ t=>decide (CtP C par t)).length+(l.filter λ t=>!decide (CtP C par t)).length=l.length:=λ l=>by
   induction l with
   | nil=>rfl
   | cons t l ih =>
    rw [ip,ip]
    cases decide (CtP C par t)<;>simp<;>omega
  exact this _
 rw [aj] at ls;omega
end
end Fc
namespace Tri
open Cyc
end Tri
namespace Tri
open Cyc Rnd
section
variable {L L2:Rows} {Os Ps:List (List Nat)} {A M C:List Nat} {f l:Nat}
end
section
variable {W:Rows} {ms:List Nat} {n:Nat}
end
section
variable {W:Rows} {T ahead su sv:List Nat} {u v:Nat}
end
section
variable {ms:List Nat} {k:Nat}
variable {W:Rows} {a b c:Nat} {Fs Ts:List (List Nat)}
end
end Tri
namespace Fc
open Cyc Rnd Tri
section
variable {W:Rows} {C:List Nat} {lab:Nat->Nat->Nat}
theorem kGL (A:List Nat) (x y:Nat) (B:List Nat):Nx (A++x::y::B) x y:=by
 show Adj ((A++x::y::B)++(A++x::y::B).head?.toList) x y;rw [eh];exact (cM A x _ x y).mpr (.inr (.inl ⟨rfl,rfl⟩))
theorem kMI (S:Nb W) (c1:Fit W lab) {k t:Nat} {row A B:List Nat} (er:W[k]?=some row):∀ (seg:List Nat),Ro row (A++seg++t::B)->(∀ z∈seg.tail,lab k z=lab z k)->∀ z∈seg,lab k z=lab t k:=by
 have one:∀ (u v:Nat) (A B:List Nat),Ro row (A++u::v::B)->lab k u=lab v k:=λ u v A B ro=>by
  have r:R W k u v:=⟨row,er,(ro.nx u v).mpr (kGL A u v B)⟩;exact c1 v k u (S.sym _ _ (vB r).2) (uL S.nd r)
 suffices H:∀ (n:Nat) (seg A B:List Nat) (t:Nat),seg.length=n->Ro row (A++seg++t::B)->(∀ z∈seg.tail,lab k z=lab z k)->∀ z∈seg,lab k z=lab t k from λ seg=>H _ seg A B t rfl
 intro n
 induction n with
 | zero =>
  intro seg A B t hn _ _ z hz;rw [qh.mp hn] at hz;cases hz
 | succ n ih =>
  intro seg A B t hn ro sy z hz;have ne:seg≠[]:=λ e=>by rw [e] at hn;cases hn
  obtain ⟨I,u,rfl⟩ : ∃ I u,seg=I++[u]:=⟨seg.dropLast,seg.getLast ne,(ke ne).symm⟩;have hu:lab k u=lab t k:=one u t (A++I) B (by simpa using ro);rcases eY.mp hz with m | m
  ·have ln:I.length=n:=by simpa using hn
   have q:=ih I A (t::B) u ln (by simpa using ro) (λ z hz=>by
    cases I with
    | nil=>cases hz
    | cons i I=>exact sy z (by simp at hz ⊢;exact .inl hz)) z m
   rw [q,<-hu]
   cases I with
   | nil=>cases m
   | cons i I=>exact (sy u (by simp)).symm
  ·rw [fw.mp m]
   exact hu
end
section
variable {W:Rows} {T off:List Nat} {a b:Nat}
theorem kAU {l:List Nat} {x:Nat} (h:l.getLast?=some x):∃ I,l=I++[x]:=by
 have ne:l≠[]:=λ z=>by rw [z] at h;cases h
 rw [jv ne] at h;exact ⟨l.dropLast,by rw [<-du h];exact (ke ne).symm⟩
end
section
variable {W:Rows} {T off:List Nat} {a b:Nat}
end
section
variable {W:Rows} {a b c:Nat}
theorem kFT (S:Nb W) {z n p:Nat} (h:R W z n p) (np:n≠p):∃ row ins,W[z]?=some row/\Ro row ins/\ins.head?=some p/\ins.getLast?=some n:=by
 obtain ⟨row,er,x⟩:=h;have nd:=S.nd _ _ er;obtain ⟨X,Y,rfl⟩:=AU (kX x).2;have ro:Ro (X++p::Y) (p::(Y++X)):=⟨X,p::Y,rfl,by simp⟩;have ro':Ro (X++p::Y) ((Y++X)++[p]):=⟨X++[p],Y,by simp,by simp⟩;refine ⟨_,p::(Y++X),er,ro,rfl,?_⟩;generalize Y++X=L at *;rcases List.eq_nil_or_concat L with rfl | ⟨L',n',rfl⟩
 ·have:=(kX ((ro.nx n p).mp x)).1
  simp at this;exact absurd this np
 ·rw [List.concat_eq_append] at *
  have:=zU nd x ((ro'.nx n' p).mpr (by rw [eh];exact kGL L' n' p []));rw [this,<-vj,List.getLast?_concat]
end
section
variable {W W':Rows}
theorem kJA {row:List Nat} {a:Nat} (nd:row.Nodup) (h:Nx row a a):∀ x∈row,x=a:=λ x hx =>
 wX nd (P:=λ x=>x=a) hx (kX h).1 rfl λ w v hw _ hv p=>by
  have hv:=zR nd hw hv;subst p;exact zU nd hv h
theorem kAX (S:Nb W) {r:Nat×Nat} (hr:r∈kK W) (j:Nat):E W (it (nxt W) j r).1 (it (nxt W) (j+1) r).1:=mem_steps.mp (show ((it (nxt W) j r).1,(it (nxt W) j r).2)∈kK W from (lC S).it j hr)
theorem kJI (S:Nb W) {r:Nat×Nat} (hr:r∈kK W) (j:Nat):R W (it (nxt W) (j+1) r).1 (it (nxt W) (j+2) r).1 (it (nxt W) j r).1:=by
 obtain ⟨z,rz,nz,_⟩:=wU S (kAX S hr j);have:nxt W (it (nxt W) j r)=((it (nxt W) (j+1) r).1,z):=nz
 have e:(it (nxt W) (j+2) r).1=z:=by
  show (it (nxt W) (j+1) r).2=z;show (nxt W (it (nxt W) j r)).2=z;rw [this]
 rw [e];exact rz
theorem kLK (G:Wb W) (fl:Flat W) {a b c d:Nat} (r1:R W b c a) (r2:R W c d b) (ac:a≠c) (bd:b≠d) (e1:E W a c) (e2:E W b d):d=a:=by
 refine iL λ da=>?_;have S:=G.toNb;have eba:=(vB r1).2;have ebc:=(vB r1).1;have ecd:=(vB r2).1;have ab:=(S.e eba).2.2;have bc:=(S.e ebc).2.2;have cd:=(S.e ecd).2.2
 have ndC:[a,b,c].Nodup:=by
  simp;exact ⟨⟨ab,ac⟩,bc.symm⟩
 have ce:∀ p q,Nx [a,b,c] p q->E W p q:=λ p q h=>by
  rw [nx3] at h;rcases h with ⟨rfl,rfl⟩ | ⟨rfl,rfl⟩ | ⟨rfl,rfl⟩
  ·exact S.sym _ _ eba
  ·exact ebc
  ·exact S.sym _ _ e1
 obtain ⟨lab,c1,sy,uneq⟩:=kMO S G.con fl ndC (by simp) ce;have nab:Nx [a,b,c] a b:=(nx3 ..).mpr (.inl ⟨rfl,rfl⟩);have nbc:Nx [a,b,c] b c:=(nx3 ..).mpr (.inr (.inl ⟨rfl,rfl⟩))
 have dC:d∉[a,b,c]:=by
  simp;exact ⟨da,bd.symm,cd⟩
 have kb:lab b d=lab c b:=by
  obtain ⟨row,ins,er,ro,hh,ht⟩:=kFT S r1 ac.symm;obtain ⟨row',er',m⟩:=id e2;rw [er] at er'
  cases er'
  obtain ⟨I,rfl⟩:=kAU ht;have nd:=ro.nd.mp (S.nd _ _ er)
  have dI:d∈I:=by
   rcases eY.mp ((ro.mem d).mp m) with z | z
   ·exact z
   ·exact absurd (fw.mp z) cd
  refine kMI S c1 (A:=[]) (B:=[]) (t:=c) er I (by simpa using ro) (λ z hz=>?_) d dI;have zI:=List.mem_of_mem_tail hz;have ez:E W b z:=⟨row,er,(ro.mem z).mpr (iJ _ zI)⟩;refine sy b z ez (λ hn=>?_) (λ hn=>?_)
  ·have:=zJ ndC hn nbc
   exact (iT.mp nd).2.2 z zI c (by simp) this
  ·have:=zU ndC hn nab
   subst this
   cases I with
   | nil=>cases hz
   | cons i I =>
    have:i=z:=du hh;subst this;exact (iX.mp (iT.mp nd).1).1 hz
 have kc:lab c d=lab b c:=c1 b c d ebc (uL S.nd r2);have s1:lab b d=lab d b:=sy b d e2 (λ h=>dC (kX h).2) (λ h=>dC (kX h).1);have s2:lab c d=lab d c:=sy c d ecd (λ h=>dC (kX h).2) (λ h=>dC (kX h).1);have s3:lab d b=lab d c:=kCF S c1 sy dC (S.sym _ _ e2) (S.sym _ _ ecd);exact uneq b c nbc (by rw [<-kc,s2,<-s3,<-s1,kb])
theorem kNA (G:Wb W) (fl:Flat W) {r:Nat×Nat} (hr:r∈kK W) (h:per W r≠3):∃ j,j<per W r/\(it (nxt W) j r).1≠(it (nxt W) (j+2) r).1/\¬ E W (it (nxt W) j r).1 (it (nxt W) (j+2) r).1:=by
 refine iL λ no=>?_;have S:=G.toNb;obtain ⟨p0,_,back,first⟩:=wY S hr
 have all:∀ j,(it (nxt W) j r).1=(it (nxt W) (j+2) r).1\/E W (it (nxt W) j r).1 (it (nxt W) (j+2) r).1:=λ j=>by
  refine iL λ z=>no ⟨j % per W r,AZ _ p0,?_⟩;have e1:it (nxt W) (j % per W r) r=it (nxt W) j r:=(aS (nxt W) r back j).symm
  have e2:it (nxt W) (j % per W r+2) r=it (nxt W) (j+2) r:=by
   rw [show j % per W r+2=2+j % per W r by omega,yB,e1,<-yB,BM]
  rw [e1,e2];exact ⟨λ q=>z (.inl q),λ q=>z (.inr q)⟩
 have ne:∀ j,(it (nxt W) j r).1≠(it (nxt W) (j+2) r).1:=λ j e=>by
  have r1:=kJI S hr j;rw [<-e] at r1
  have lone:∀ {x y z:Nat},R W x y y->E W x z->z=y:=λ ⟨row,er,n⟩ ⟨row',er',m⟩=>by
   rw [er] at er'
   cases er'
   exact kJA (S.nd _ _ er) n _ m
  have e23:=kAX S hr (j+2);rcases all (j+1) with q | q
  ·have r2:=kJI S hr (j+1)
   rw [<-q] at r2;have three:=G.three
   have cl:∀ x,Reach W (it (nxt W) j r).1 x->x=(it (nxt W) j r).1\/x=(it (nxt W) (j+1) r).1:=λ x rx=>by
    induction rx with
    | here=>exact .inl rfl
    | more _ ex ih =>
     rcases ih with z | z
     ·rw [z] at ex
      rw [<-e] at r2;exact .inr (lone r2 ex)
     ·rw [z] at ex
      exact .inl (lone r1 ex)
   have al:=(S.e (kAX S hr j)).1;have to:∀ x,x<W.length->Reach W (it (nxt W) j r).1 x:=λ x hx=>(Reach.symm S.sym (G.con _ al)).trans (G.con x hx);have q0:=cl 0 (to 0 (by omega));have q1:=cl 1 (to 1 (by omega));have q2:=cl 2 (to 2 (by omega));omega
  ·have:=lone r1 q
   rw [e] at this;exact (S.e e23).2.2 this
 have three:∀ j,(it (nxt W) (j+3) r).1=(it (nxt W) j r).1:=λ j =>
  kLK G fl (kJI S hr j) (kJI S hr (j+1)) (ne j) (ne (j+1)) ((all j).resolve_left (ne j)) ((all (j+1)).resolve_left (ne (j+1)))
 have i3:it (nxt W) 3 r=r:=vi (three 0) (three 1)
 have le:per W r<=3:=by
  refine iL λ z=>first 3 (by omega) (by omega) i3
 rcases (show per W r=1\/per W r=2 by omega) with q | q
 ·rw [q] at back
  have:=(S.e (kAX S hr 0)).2.2;exact this (congrArg wu back)
 ·rw [q] at back
  exact ne 0 (congrArg wu back).symm
theorem kKI {p v q u:Nat} (h:Ins W W' p v q u) {x y:Nat} (e:E W x y):E W' x y:=by
 obtain ⟨row,er,m⟩:=e;by_cases c1:x=p
 ·subst c1
  obtain ⟨r,r',e1,e2,ro⟩:=h.rp;rw [er] at e1;cases e1
  have hv:v∈row:=by
   obtain ⟨r2,e,m⟩:=h.ep;rw [er] at e;cases e
   exact m
  exact ⟨r',e2,(ro.mem y).mp ((jC hv (h.nb.nd _ _ er)).mpr (.inl m))⟩
 ·by_cases c2:x=q
  ·subst c2
   obtain ⟨r,r',e1,e2,ro⟩:=h.rq;rw [er] at e1;cases e1
   have hv:u∈row:=by
    obtain ⟨r2,e,m⟩:=h.eq;rw [er] at e;cases e
    exact m
   exact ⟨r',e2,(ro.mem y).mp ((jC hv (h.nb.nd _ _ er)).mpr (.inl m))⟩
  ·exact ⟨row,by rw [h.ro x c1 c2];exact er,m⟩
theorem kGT {p v q u:Nat} (h:Ins W W' p v q u) {r:Nat×Nat} (hr:r∈kK W) (n1:(p,v)∉rnd W r) (n2:(q,u)∉rnd W r):∀ j,it (nxt W') j r=it (nxt W) j r
 | 0=>rfl
 | j+1=>by
  show nxt W' (it (nxt W') j r)=nxt W (it (nxt W) j r);rw [kGT h hr n1 n2 j];have m1:it (nxt W) j r∈rnd W r:=(jN h.nb hr).mpr ⟨j,rfl⟩;have m2:=bJ h.nb hr m1;have ms:=rnd_sub h.nb hr m1;generalize it (nxt W) j r=t at *;obtain ⟨x,y⟩:=t;exact h.other (mem_steps.mp ms) (λ z=>n1 (z ▸ m2)) (λ z=>n2 (z ▸ m2))
theorem kEE {p v q u m:Nat} (h:Ins W W' p v q u) (hm:m<per W (p,v)) (em:it (nxt W) m (p,v)=(q,u)):(facesS W).length+1<=(facesS W').length:=by
 have S:=h.nb;have S':=h.nb';have hs:(p,v)∈kK W:=mem_steps.mpr h.ep;obtain ⟨p0,_,back,first⟩:=wY S hs;obtain ⟨m0,w1,b1,w2,b2⟩:=h.faces back first hm em;obtain ⟨R,lR,rS,cov,uni⟩:=fQ S;obtain ⟨i0,l0,mi0⟩:=cov (p,v) hs;have nqp:¬ E W q p:=λ z=>h.ne (S.sym _ _ z);have up:∀ {t:Nat×Nat},t∈kK W->t∈kK W':=λ {t} ht=>mem_steps.mpr (kKI h (mem_steps.mp (show (t.1,t.2)∈kK W from ht)))
 have newpq:E W' p q:=by
  obtain ⟨r,r',e1,e2,ro⟩:=h.rp
  have hv:v∈r:=by
   obtain ⟨r2,e,m⟩:=h.ep;rw [e1] at e;cases e
   exact m
  exact ⟨r',e2,(ro.mem q).mp ((jC hv (S.nd _ _ e1)).mpr (.inr rfl))⟩
 have spq:(p,q)∈kK W':=mem_steps.mpr newpq
 have sqp:(q,p)∈kK W':=mem_steps.mpr (S'.sym _ _ newpq)
 have old:∀ j,it (nxt W) j (p,v)∈rnd W (p,v):=λ j=>(jN S hs).mpr ⟨j,rfl⟩
 have rpq:∀ t∈rnd W' (p,q),t=(p,q)\/t∈rnd W (p,v):=λ t ht=>by
  obtain ⟨j,rfl⟩:=(jN S' spq).mp ht;rw [aS (nxt W') (p,q) b2 j];have lt:=AZ j (show 0<per W (p,v)-m+1 by omega);rcases xh (j % (per W (p,v)-m+1)) with z | z
  ·rw [z]
   exact .inl rfl
  ·rw [show j % (per W (p,v)-m+1)=(j % (per W (p,v)-m+1)-1)+1 by omega,w2 _ (by omega)]
   exact .inr (old _)
 have rqp:∀ t∈rnd W' (q,p),t=(q,p)\/t∈rnd W (p,v):=λ t ht=>by
  obtain ⟨j,rfl⟩:=(jN S' sqp).mp ht;rw [aS (nxt W') (q,p) b1 j];have lt:=AZ j (show 0<m+1 by omega);rcases xh (j % (m+1)) with z | z
  ·rw [z]
   exact .inl rfl
  ·rw [show j % (m+1)=(j % (m+1)-1)+1 by omega,w1 _ (by omega)]
   exact .inr (old _)
 have notr:∀ i (hi:i<R.length),i≠i0->R[i]∉rnd W (p,v):=λ i hi ne z=>by
  have hri:=rS _ (fg hi);have a:=vQ S (rS _ (fg l0)) mi0 (rnd_self S (rS _ (fg l0)));have b:R[i]∈rnd W R[i0]:=vQ S hs a z;exact ne (uni _ i i0 hi l0 (rnd_self S hri) b)
 have notr':∀ i (hi:i<R.length),i≠i0->∀ {t},t∈rnd W (p,v)->t∉rnd W R[i]:=λ i hi ne t ht z=>by
  have hri:=rS _ (fg hi);have b:R[i]∈rnd W t:=vQ S hri z (rnd_self S hri);have hts:=rnd_sub S hs ht;have c1:(p,v)∈rnd W t:=vQ S hs ht (rnd_self S hs);exact notr i hi ne (vQ S hts c1 b)
 have qu:(q,u)∈rnd W (p,v):=(jN S hs).mpr ⟨m,em⟩;have pv:(p,v)∈rnd W (p,v):=rnd_self S hs;have le:=kBD S' (Q:=(p,q)::(q,p)::R.eraseIdx i0) (λ t ht=>?_) ?_
 ·rw [iE,iE,zj,if_pos l0] at le
  omega
 ·rcases gv.mp ht with rfl | ht
  ·exact spq
  rcases gv.mp ht with rfl | ht
  ·exact sqp
  ·exact up (rS t ((ym ..).subset ht))
 ·have inR:∀ t∈R.eraseIdx i0,∃ i,∃ (hi:i<R.length),i≠i0/\R[i]=t:=λ t ht=>by
   obtain ⟨j,hj,rfl⟩:=ft.mp ht;rw [zj,if_pos l0] at hj;rw [List.getElem_eraseIdx]
   split
   ·exact ⟨j,by omega,by omega,rfl⟩
   ·exact ⟨j+1,by omega,by omega,rfl⟩
  have stepE:∀ t∈R.eraseIdx i0,E W t.1 t.2:=λ t ht=>mem_steps.mp (show (t.1,t.2)∈kK W from rS t ((ym ..).subset ht));refine uk.mpr ⟨λ t ht=>?_,uk.mpr ⟨λ t ht=>?_,?_⟩⟩
  ·rcases gv.mp ht with rfl | ht
   ·intro z
    rcases rpq _ z with q1 | q1
    ·injection q1 with a1 a2
     exact h.pq a2
    ·exact nqp (mem_steps.mp (rnd_sub S hs q1))
   ·obtain ⟨i,hi,ne,rfl⟩:=inR t ht
    intro z;rcases rpq _ z with q1 | q1
    ·have:=stepE _ ht
     rw [q1] at this;exact h.ne this
    ·exact notr i hi ne q1
  ·obtain ⟨i,hi,ne,rfl⟩:=inR t ht
   intro z;rcases rqp _ z with q1 | q1
   ·have:=stepE _ ht
    rw [q1] at this;exact nqp this
   ·exact notr i hi ne q1
  ·have pw:R.Pairwise λ a b=>b∉rnd W a:=kl.mpr λ i j hi hj ij z=>by
    have:=uni _ i j hi hj z (rnd_self S (rS _ (fg hj)));omega
   refine (pw.sublist (ym ..)).imp_of_mem λ {x y} hx hy hxy z=>hxy ?_;obtain ⟨i,hi,ne,rfl⟩:=inR x hx;have hri:=rS _ (fg hi);obtain ⟨j,rfl⟩:=(jN S' (up hri)).mp z;rw [kGT h hri (notr' i hi ne pv) (notr' i hi ne qu) j];exact (jN S hri).mpr ⟨j,rfl⟩
theorem kHA (G:Wb W) (fl:Flat W) {p v q u m:Nat} (h:Ins W W' p v q u) (len:W'.length=W.length) (st:(kK W').length=(kK W).length+2) (hm:m<per W (p,v)) (em:it (nxt W) m (p,v)=(q,u)):Wb W'/\Flat W':=by
 have S:=h.nb;have S':=h.nb';have con:∀ x,x<W'.length->Reach W' 0 x:=λ x hx=>Reach.sub (λ a b e=>kKI h e) (G.con x (by omega));have three:=G.three;have G':Wb W':=⟨S',by omega,con⟩;refine ⟨G',?_⟩;have f1:=kEE h hm em;obtain ⟨row,er⟩ : ∃ row,W'[0]?=some row:=⟨_,aa (by omega)⟩;obtain ⟨w0,hw⟩:=List.exists_mem_of_ne_nil row (G'.ne er);have eu:=kHD S' con ⟨row,er,hw⟩;have t1:=ties_len S;have t2:=ties_len S';unfold Flat at *;omega
end
def oddL (f:List Nat):Bool:=f.length != 3
noncomputable def oddF (W:Rows):Option (List Nat):=((facesS W).filter oddL).head?
def arnd (f:List Nat):List Nat:=f++f.take 3
def freeJ (W:Rows) (f:List Nat) (j:Nat):Bool:=decide ((arnd f).getD j 0≠(arnd f).getD (j+2) 0/\(arnd f).getD (j+2) 0∉W.getD ((arnd f).getD j 0) [])
def cutJ (W:Rows) (f:List Nat):Nat:=((fc f.length).filter (freeJ W f)).headD 0
section
variable {W:Rows}
theorem face_of (S:Nb W) {f:List Nat} (hf:f∈facesS W):∃ r∈kK W,f=(rnd W r).map (·.1):=by
 have sub:∀ t∈stepsS W,t∈kK W:=λ t ht=>(sortP_perm _).mem_iff.mp ht;have I:=fgo_ok S (stepsS W) sub;obtain ⟨R,r1,r2,r3⟩:=I.reps;have hf:=(sortL_perm _).mem_iff.mp hf;have hf:f∈(fgo W (stepsS W)).1:=hf;rw [r2] at hf;obtain ⟨r,hr,rfl⟩:=gi.mp hf;exact ⟨r,sub r (r1 r hr),rfl⟩
theorem kJX (S:Nb W) {r:Nat×Nat} (hr:r∈kK W) (h3:3<=per W r) {i:Nat} (hi:i<per W r+3):(arnd ((rnd W r).map (·.1))).getD i 0=(it (nxt W) i r).1:=by
 obtain ⟨p0,_,back,_⟩:=wY S hr;have lf:((rnd W r).map (·.1)).length=per W r:=by unfold rnd;simp
 have at':∀ k,k<per W r->((rnd W r).map (·.1))[k]?=some (it (nxt W) k r).1:=λ k hk=>by
  unfold rnd;rw [AF,bg,tz hk]
  rfl
 unfold arnd;rw [dh];rcases iU i (per W r) with c | c
 ·rw [cu (by omega),at' i c]
  rfl
 ·rw [bz (by omega),lf,me (by omega),at' _ (by omega)]
  show (it (nxt W) (i-per W r) r).1=_
  have:it (nxt W) i r=it (nxt W) (i-per W r) r:=by
   conv=>lhs;rw [show i=(i-per W r)+per W r by omega,yB,back]
  rw [this]
theorem cut_at_j (G:Wb W) (fl:Flat W) {f:List Nat} (hf:f∈facesS W) (odd:f.length≠3) :
  4<=f.length/\cutJ W f<f.length/\freeJ W f (cutJ W f)=true/\E W ((arnd f).getD (cutJ W f) 0) ((arnd f).getD (cutJ W f+1) 0)/\E W ((arnd f).getD (cutJ W f+2) 0) ((arnd f).getD (cutJ W f+3) 0) /\
   it (nxt W) 2 ((arnd f).getD (cutJ W f) 0,(arnd f).getD (cutJ W f+1) 0)=((arnd f).getD (cutJ W f+2) 0,(arnd f).getD (cutJ W f+3) 0):=by
 have S:=G.toNb;obtain ⟨r,hr,rfl⟩:=face_of S hf;obtain ⟨p0,_,back,first⟩:=wY S hr;have lf:((rnd W r).map (·.1)).length=per W r:=by unfold rnd;simp
 rw [lf] at odd ⊢;obtain ⟨j,hj,n1,n2⟩:=kNA G fl hr odd
 have p4:4<=per W r:=by
  refine iL λ z=>?_;rcases (show per W r=1\/per W r=2 by omega) with q | q
  ·rw [q] at back
   exact (S.e (kAX S hr 0)).2.2 (congrArg wu back)
  ·rw [q] at back
   have e:it (nxt W) (j+2) r=it (nxt W) j r:=by rw [yB,back]
   exact n1 (by rw [e])
 have at':∀ {i},i<per W r+3->(arnd ((rnd W r).map (·.1))).getD i 0=(it (nxt W) i r).1:=λ hi=>kJX S hr (by omega) hi
 have fj:freeJ W ((rnd W r).map (·.1)) j=true:=by
  unfold freeJ;rw [at' (show j<per W r+3 by omega),at' (show j+2<per W r+3 by omega),decide_eq_true_iff];refine ⟨n1,λ m=>n2 ?_⟩;rw [dh] at m
  cases e:W[(it (nxt W) j r).1]? with
  | none=>rw [e] at m;cases m
  | some row =>
   rw [e] at m;exact ⟨row,e,m⟩
 have mj:cutJ W ((rnd W r).map (·.1))∈(fc ((rnd W r).map (·.1)).length).filter (freeJ W ((rnd W r).map (·.1))):=by
  have ne:j∈(fc ((rnd W r).map (·.1)).length).filter (freeJ W ((rnd W r).map (·.1))):=iC.mpr ⟨iM.mpr (by rw [lf];exact hj),fj⟩;unfold cutJ;generalize (fc ((rnd W r).map (·.1)).length).filter (freeJ W ((rnd W r).map (·.1)))=L at *
  cases L with
  | nil=>cases ne
  | cons x L=>simp
 obtain ⟨m1,m2⟩:=iC.mp mj;have m1:=iM.mp m1;rw [lf] at m1;generalize cutJ W ((rnd W r).map (·.1))=k at *;refine ⟨p4,m1,m2,?_⟩;rw [at' (show k<per W r+3 by omega),at' (show k+1<per W r+3 by omega),at' (show k+2<per W r+3 by omega),at' (show k+3<per W r+3 by omega)];exact ⟨kAX S hr k,kAX S hr (k+2),rfl⟩
end
def kKG (W W1:Rows):Prop:=∃ (f:List Nat) (p v q u:Nat) (rp rq a b:List Nat),oddF W=some f/\p=(arnd f).getD (cutJ W f) 0/\v=(arnd f).getD (cutJ W f+1) 0/\q=(arnd f).getD (cutJ W f+2) 0/\u=(arnd f).getD (cutJ W f+3) 0 /\
 W[p]?=some rp/\W[q]?=some rq/\Ro (qF rp v q) a/\Can a/\Ro (qF rq u p) b/\Can b/\a.Nodup/\b.Nodup/\W1=zQ W p q a b
inductive Fd:Rows->Rows->Prop
 | done {W:Rows}:oddF W=none->Fd W W
 | step {W W1 X:Rows}:kKG W W1->Fd W1 X->Fd W X
theorem odd_none {W:Rows} (h:oddF W=none):∀ f∈facesS W,f.length=3:=λ f hf=>by
 unfold oddF at h
 have e:(facesS W).filter oddL=[]:=by
  cases z:(facesS W).filter oddL with
  | nil=>rfl
  | cons x l=>rw [z] at h;cases h
 have:=List.filter_eq_nil_iff.mp e f hf;unfold oddL at this;simpa using this
theorem odd_some {W:Rows} {f:List Nat} (h:oddF W=some f):f∈facesS W/\f.length≠3:=by
 unfold oddF at h;have:=iC.mp (List.mem_of_head? h);refine ⟨this.1,?_⟩;have:=this.2;unfold oddL at this;simpa using this
theorem tV {W:Rows} {p q:Nat} {rp rq a b:List Nat} (hp:W[p]?=some rp) (hq:W[q]?=some rq) (pq:p≠q) (la:a.length=rp.length+1) (lb:b.length=rq.length+1):(kK (zQ W p q a b)).length=(kK W).length+2:=by
 rw [qQ,qQ];unfold zQ;have s1:=yQ W p rp a hp;have s2:=yQ (W.set p a) q rq b (by rw [di pq];exact hq);omega
theorem fill_turn {W0 W:Rows} {T:List (Nat×Nat)} (G:Wb W) (fl:Flat W) (P:Plus W0 W T) {f:List Nat} (hf:oddF W=some f) {p v q u:Nat} (ep:p=(arnd f).getD (cutJ W f) 0) (ev:v=(arnd f).getD (cutJ W f+1) 0) (eq:q=(arnd f).getD (cutJ W f+2) 0) (eu:u=(arnd f).getD (cutJ W f+3) 0) :
  ∃ rp rq,W[p]?=some rp/\W[q]?=some rq/\v∈rp/\u∈rq/\p≠q/\q∉rp/\it (nxt W) 2 (p,v)=(q,u)/\∀ a b,Ro (qF rp v q) a->Can a->Ro (qF rq u p) b->Can b ->
   Wb (zQ W p q a b)/\Flat (zQ W p q a b)/\Plus W0 (zQ W p q a b) (T++[key p q])/\kKG W (zQ W p q a b)/\(kK (zQ W p q a b)).length=(kK W).length+2:=by
 have S:=G.toNb;obtain ⟨h1,h2⟩:=odd_some hf;obtain ⟨p4,cj,fj,eA,eB,itq⟩:=cut_at_j G fl h1 h2;rw [<-ep,<-ev] at eA;rw [<-eq,<-eu] at eB;rw [<-ep,<-ev,<-eq,<-eu] at itq;unfold freeJ at fj;rw [<-ep,<-eq] at fj;obtain ⟨n1,n2⟩:=of_decide_eq_true fj;obtain ⟨rp,hp,mv⟩:=id eA;obtain ⟨rq,hq,mu⟩:=id eB;have gp:W.getD p []=rp:=by rw [dh,hp];rfl
 rw [gp] at n2;refine ⟨rp,rq,hp,hq,mv,mu,n1,n2,itq,λ a b ra ca rb cb=>?_⟩
 have nq:p∉rq:=λ z=>by
  obtain ⟨r,e,m⟩:=S.sym q p ⟨rq,hq,z⟩;rw [hp] at e;cases e
  exact n2 m
 have I:=kMS S hp hq n1 mv mu n2 ra rb;have na:=ra.nd.mp (yU mv (S.nd _ _ hp) n2);have nb:=rb.nd.mp (yU mu (S.nd _ _ hq) nq);have st:=tV (a:=a) (b:=b) hp hq n1 (by rw [<-ra.perm.length_eq,jD mv]) (by rw [<-rb.perm.length_eq,jD mu]);have hs:(p,v)∈kK W:=mem_steps.mpr eA;obtain ⟨p0,_,back,_⟩:=wY S hs
 have m2:2<per W (p,v):=by
  refine iL λ z=>?_
  have key:it (nxt W) 2 (p,v)=(p,v):=by
   rcases (show per W (p,v)=1\/per W (p,v)=2 by omega) with c | c
   ·rw [c] at back
    show nxt W (it (nxt W) 1 (p,v))=(p,v);rw [back];exact back
   ·rw [c] at back
    exact back
  rw [itq] at key;exact n1 (congrArg wu key).symm
 obtain ⟨G',fl'⟩:=kHA G fl I (xD ..) st m2 itq;exact ⟨G',fl',P.put hp hq n1 mv mu n2 ra rb ca cb,⟨f,p,v,q,u,rp,rq,a,b,hf,ep,ev,eq,eu,hp,hq,ra,ca,rb,cb,na,nb,rfl⟩,st⟩
end Fc
namespace Fc
open Tri Cyc Rnd
section
variable {W:Rows}
theorem kCM (S:Nb W):∀ {R:List (Nat×Nat)},(∀ r∈R,r∈kK W)->(R.flatMap (rnd W)).Nodup->R.Pairwise λ a b=>b∉rnd W a
 | [],_,_=>.nil
 | r::R,h,nd=>by
  rw [List.flatMap_cons] at nd;obtain ⟨_,n2,n3⟩:=iT.mp nd;refine .cons (λ b hb m=>n3 b m b (xp.mpr ⟨b,hb,rnd_self S (h b (eZ _ hb))⟩) rfl) (kCM S (λ x hx=>h x (eZ _ hx)) n2)
theorem kHC (S:Nb W) {T T':List (Nat×Nat)} (hT:∀ t∈T,t∈kK W) (hT':∀ t∈T',t∈kK W) (cov':∀ t∈kK W,t∈T'):(fgo W T).1.length<=(fgo W T').1.length:=by
 have fi:=fgo_ok S T hT;have fi':=fgo_ok S T' hT';obtain ⟨Q,q1,q2,q3⟩:=fi.reps;obtain ⟨R,r1,r2,r3⟩:=fi'.reps;have sub:∀ r∈Q,r∈kK W:=λ r hr=>hT r (q1 r hr);have rS:∀ r∈R,r∈kK W:=λ r hr=>hT' r (r1 r hr);have pw:Q.Pairwise λ a b=>b∉rnd W a:=kCM S sub (by rw [<-q3];exact fi.nd)
 have cov:∀ t∈kK W,∃ i,∃ (h:i<R.length),t∈rnd W R[i]:=λ t ht=>by
  have:=fi'.cov t (cov' t ht);rw [r3] at this;obtain ⟨r,hr,m⟩:=xp.mp this;obtain ⟨i,hi,rfl⟩:=ft.mp hr;exact ⟨i,hi,m⟩
 have hfi:∀ t,∃ i,t∈kK W->∃ (h:i<R.length),t∈rnd W R[i]:=λ t=>by
  by_cases c:t∈kK W
  ·obtain ⟨i,h,m⟩:=cov t c
   exact ⟨i,λ _=>⟨h,m⟩⟩
  ·exact ⟨0,λ z=>absurd z c⟩
 have nd:(Q.map λ t=>iZ (hfi t)).Nodup:=by
  refine kg.mpr (pw.imp_of_mem λ {a b} ha hb hab e=>hab ?_);obtain ⟨h1,m1⟩:=fm (hfi a) (sub a ha);obtain ⟨h2,m2⟩:=fm (hfi b) (sub b hb)
  have m2':b∈rnd W R[iZ (hfi a)]:=by
   simp only [e];exact m2
  exact vQ S (rS _ (fg h1)) m1 m2'
 have:=eX nd (l₂:=fc R.length) λ x hx=>by
  obtain ⟨t,ht,rfl⟩:=gi.mp hx;exact iM.mpr (fm (hfi t) (sub t ht)).1
 rw [aj,iN] at this;rw [q2,r2,aj,aj];exact this
theorem fgo_num (S:Nb W):(fgo W (kK W)).1.length=(facesS W).length:=by
 have e:(facesS W).length=(fgo W (stepsS W)).1.length:=(sortL_perm _).length_eq;have hs:∀ t∈stepsS W,t∈kK W:=λ t h=>(sortP_perm _).mem_iff.mp h;rw [e];exact Nat.le_antisymm (kHC S (λ t h=>h) hs λ t h=>(sortP_perm _).mem_iff.mpr h) (kHC S hs (λ t h=>h) λ t h=>h)
end
end Fc
namespace Tri
open Cyc Rnd
theorem kHV {L:Rows} (G:Wb L) {q:Nat} {row row':List Nat} (e:L[q]?=some row) (p:row'.Perm row):Wb (L.set q row'):=by
 have hq:=(ag.mp e).1
 have at':∀ (x:Nat) (r:List Nat),(L.set q row')[x]?=some r->∃ r0,L[x]?=some r0/\r.Perm r0:=λ x r h=>by
  rw [DA] at h
  split at h
  ·rename_i z
   subst z;cases h
   exact ⟨row,e,p⟩
  ·exact ⟨r,h,.refl _⟩
 have to':∀ (x:Nat) (r0:List Nat),L[x]?=some r0->∃ r,(L.set q row')[x]?=some r/\r.Perm r0:=λ x r0 h=>by
  rw [DA];by_cases z:q=x
  ·subst z
   rw [e] at h;cases h
   exact ⟨row',by rw [if_pos rfl,if_pos hq],p⟩
  ·exact ⟨r0,by rw [if_neg z];exact h,.refl _⟩
 have ee:∀ a b,E (L.set q row') a b↔E L a b:=λ a b=>by
  constructor
  ·rintro ⟨r,h,m⟩
   obtain ⟨r0,h0,pm⟩:=at' a r h;exact ⟨r0,h0,pm.mem_iff.mp m⟩
  ·rintro ⟨r,h,m⟩
   obtain ⟨r0,h0,pm⟩:=to' a r h;exact ⟨r0,h0,pm.mem_iff.mpr m⟩
 refine ⟨⟨λ x r h=>?_,λ x r a h m=>?_,λ a b h=>(ee b a).mpr (G.sym a b ((ee a b).mp h))⟩,by rw [sg];exact G.three,λ x hx=>?_⟩
 ·obtain ⟨r0,h0,pm⟩:=at' x r h
  exact pm.nodup_iff.mpr (G.nd x r0 h0)
 ·obtain ⟨r0,h0,pm⟩:=at' x r h
  rw [sg];exact G.rng x r0 a h0 (pm.mem_iff.mp m)
 ·rw [sg] at hx
  have:=G.con x hx;clear hx
  induction this with
  | here=>exact .here _
  | more _ h ih=>exact .more ih ((ee _ _).mpr h)
theorem kIR {row:List Nat} {j i:Nat} (h:j<row.length):((row.eraseIdx j).take i++row[j]::(row.eraseIdx j).drop i).Perm row:=by
 refine .trans wj ?_;rw [iF]
 have e:row=row.take j++row[j]::row.drop (j+1):=by
  rw [<-kr h,iF]
 rw [List.eraseIdx_eq_take_drop_succ];refine .trans wj.symm ?_;rw [<-e]
end Tri
namespace Ex
open PySem
section
variable {prog:eU} {w:gk} {A:eV} {E:af->ak->Prop} {h:gw} {g:Array Dm} {d:Drawn} {t:Nat} {os:OsState} {M:tw}
variable {nm q:Str} {C N:ah} {bs bm bmB:List af} {hdct:Bool} {sn:List Str} {sub:List af} {ab:Bool} {col:Option Bool} {dd:Option ah} {k0 k1 k2 k3 k5:Option af} {B newId initId:String}
structure Up (B:String) (bm:List af):Prop where
 b:bm.contains (.type B)=true
 a:bm.contains (.type "AttributeError")=false
 n:bm.contains (.type "NameError")=false
theorem kEQ (F:BS B newId initId bmB) (U:Up B bm) {rest:List af} {Q:Unit->ak->Prop} (hC:h.get? C=some (excClassObj nm q C N bs bm hdct sn sub ab col dd k0 k1 k2 k3 k5 newId))
  (hq:Q () ⟨h,g,d,t,os⟩):de M A (checkBuiltinCall newId ⟨.ref C::rest,[]⟩) Q E ⟨h,g,d,t,os⟩:=by
 have c1:(fo C::bm).contains (.type B)=true:=by rw [ph,U.b,yg]
 have c2:=F.noStar;simp only [checkBuiltinCall,F.newKind,F.newSplit,F.newRow]
 repeat (first | refine ow hC ?_ | (refine AC hC ?_;rw [c1]) | refine wpAny_staticBase_exc hC ?_ | refine DP hC ?_ | simp only [bne_self_eq_false,eD,if_false] | wp_step)
 exact hq
theorem kJO (F:BS B newId initId bmB) (U:Up B bm) {rest:List af} {R:Ds->ak->Prop} (hC:h.get? C=some (excClassObj nm q C N bs bm hdct sn sub ab col dd k0 k1 k2 k3 k5 newId)) (hrest:rest.length<=sizeLine)
  (hq:R (.ok (.ret (.ref (h.objs.size+1)))) ⟨(h.push { cls:=.type "tuple",data:=.seq rest.toArray }).push { cls:=.ref C,data:=.fields #[.ref h.objs.size,.none,.none,.none,.bool false,.none] },g,d,t,os⟩) :
  codeAny (model prog w) A (.builtin newId ⟨.ref C::rest,[]⟩) R ⟨h,g,d,t,os⟩:=by
 have e0:=F.ends;have e1:(fo C::bm).contains (.type B)=true:=by rw [ph,U.b,yg]
 have e2:(fo C::bm).contains (.type "AttributeError")=false:=by rw [ph,U.a];rfl
 have e3:(fo C::bm).contains (.type "NameError")=false:=by rw [ph,U.n];rfl
 refine codeAny_builtinAt F.entry ?_;unfold zd.«BaseException.__new__»;refine wpAt_bind ?_;show wpAt _ _ _ (stack >>= λ _=>_) _ _ _;refine wpAt_bind (wpAt_stack λ p below=>wpAt_of_wpAny ?_)
 wp_walk
 refine wpAt_of_wpAny ?_;rw [F.owner]
 repeat (first | with_reducible refine wpAny_madeHere_exc F.canon hC ?_ | with_reducible refine ow hC ?_ | (with_reducible refine AC hC ?_;first | rw [e1] | rw [e2] | rw [e3]) | wp_step)
 show R _ _;rw [qe];exact hq
end
structure Aft (l:List Env) (e T:ah) (oe:Obj) (h h':gw):Prop where
 k:∀ b o,b≠e->b∉l.filterMap (·.frame)->h.get? b=some o->h'.get? b=some o
 f:∀ b o,b≠e->h.get? b=some o->∃ sl,h'.get? b=some { o with slots:=sl }
 e:h'.get? e=some (oe.mapFields (·.setIfInBounds 1 (.ref T)))
 n:h.objs.size<=T
 t:∃ oT ts,h'.get? T=some oT/\oT.data=.fields ts/\ts[3]?=some .none
section
variable {M:tw} {A:eV} {E:af->ak->Prop} {s:ak}
theorem entry {base:gw} {env:Env} {outer:List Env} {L e:ah} {oe:Obj} {vs:Array af} {head:af} {hadNext:Bool} {Q:Unit->ak->Prop}
  (hfr:A.frames=some (env::outer)) (hl:s.heap.FunFrames base (env::outer)) (hf:env.frame=some L) (he:s.heap.get? e=some oe) (hd:oe.data=.fields vs) (hsz:1<vs.size)
  (q:∀ h' T,Aft (env::outer) e T oe s.heap h'->Q () { s with heap:=h' }) :
  de M A (do let a <-frameOf env;let pl <-entryPlaceOf L hadNext;let b <-CF head a .none (rawInt L) .none pl;setField (.ref e) 1 b) (λ _ s'=>de M A (setFlight (.ref e) none) Q E s') E s:=by
 have hene:e∉(env::outer).filterMap (·.frame):=λ hm=>by
  obtain ⟨_,o,ho,hnf⟩:=hl.mem hm;rw [he] at ho;cases ho
  exact hnf vs hd
 refine ae (wpAny_frameOf_fun hfr hl hf λ h1 S=>?_);refine ae (wpAny_entryPlaceOf λ pl hpl=>?_);unfold CF newFields;refine ae (iR ?_ (hpl.sizeOk5 _ _ _ _ _));generalize hO:({ cls:=.type "traceback",dict:=none,data:=.fields ([head,.ref L,.none,rawInt L,.none]++(if pl.isEmpty then fh 6 jg else pl)).toArray }:Obj)=oT;have dT:oT.data=.fields ([head,.ref L,.none,rawInt L,.none]++(if pl.isEmpty then fh 6 jg else pl)).toArray:=by rw [<-hO]
 have e1:h1.get? e=some oe:=(S.2.1 e hene).trans he;have e2:=ao (h:=h1) oT e1;refine vm e2 hd hsz ?_;have nTe:h1.objs.size≠e:=jm (cf e1);have d3:=ji hd (·.setIfInBounds 1 (fo h1.objs.size));have e3:=iI (tm (·.setIfInBounds 1 (fo h1.objs.size))) e2 (lg d3);have nfT:oT.isFreed=false:=lg dT;have T3:((h1.push oT).update e (tm (·.setIfInBounds 1 (fo h1.objs.size)))).get? h1.objs.size=some oT:=(ie (h1.push oT) _ (og nTe)).trans (eK h1 nfT);unfold setFlight;refine ae (kq e3 d3 (x:=.ref h1.objs.size) (by simp [hsz]) ?_);rw [if_pos (show (fo h1.objs.size != jg)=true from by simp)]
 have szT:3<([head,.ref L,.none,rawInt L,.none]++(if pl.isEmpty then fh 6 jg else pl)).toArray.size:=by
  simp only [eN,eI,iE,qc]<;>omega
 refine vm T3 dT szT (q _ h1.objs.size ?_)
 have keep:∀ b o,b≠e->h1.get? b=some o->(((h1.push oT).update e (tm (·.setIfInBounds 1 (fo h1.objs.size)))).update h1.objs.size (tm (·.setIfInBounds 3 ((none:Option ah).elim jg λ f=>rawInt f)))).get? b=some o:=λ b o hbe hb=>by
  have hbT:h1.objs.size≠b:=jm (cf hb);rw [ie _ _ hbT,ie _ _ (og hbe)];exact ao _ hb
 refine ⟨λ b o nb nf hb=>keep b o nb ((S.2.1 b nf).trans hb),λ b o nb hb=>?_,?_,?_,?_⟩
 ·obtain ⟨sl,z⟩:=S.2.2 b o hb
  exact ⟨sl,keep b _ nb z⟩
 ·rw [ie _ _ nTe]
  exact e3
 ·exact Ck S.1.symm
 ·refine ⟨_,_,iI _ T3 (lg (ji dT _)),ji dT _,?_⟩
  simp only [kh];rw [if_pos trivial,if_pos szT]
  rfl
theorem leave1N {base:gw} {env:Env} {outer:List Env} {L e:ah} {oe:Obj} {vs:Array af} {Q:Unit->ak->Prop}
  (hfr:A.frames=some (env::outer)) (hl:s.heap.FunFrames base (env::outer)) (hf:env.frame=some L) (he:s.heap.get? e=some oe) (hd:oe.data=.fields vs) (h1:vs[1]?=some .none)
  (q:∀ h' T,Aft (env::outer) e T oe s.heap h'->Q () { s with heap:=h' }):de M A (noteFrame (.ref e) env) (λ _ s'=>de M A (setFlight (.ref e) none) Q E s') E s:=by
 unfold noteFrame;simp only [hf];refine ae (kq he hd h1 ?_);rw [if_neg (by decide)];exact entry hfr hl hf he hd (iH.mp h1).1 q
theorem leave2N {base:gw} {env:Env} {outer:List Env} {L e T:ah} {oe oT:Obj} {vs ts:Array af} {Q:Unit->ak->Prop}
  (hfr:A.frames=some (env::outer)) (hl:s.heap.FunFrames base (env::outer)) (hf:env.frame=some L) (he:s.heap.get? e=some oe) (hd:oe.data=.fields vs) (h1:vs[1]?=some (.ref T))
  (nT:T≠e) (hT:s.heap.get? T=some oT) (dT:oT.data=.fields ts) (t3:ts[3]?=some .none)
  (q:∀ h1 h' T',(∀ b,b≠T->h1.get? b=s.heap.get? b)->h1.get? T=some (oT.mapFields (·.setIfInBounds 3 .none))->h1.objs.size=s.heap.objs.size->Aft (env::outer) e T' oe h1 h'->Q () { s with heap:=h' }):de M A (noteFrame (.ref e) env) (λ _ s'=>de M A (setFlight (.ref e) none) Q E s') E s:=by
 unfold noteFrame;simp only [hf];refine ae (kq he hd h1 ?_);rw [if_pos (show (fo T != jg)=true from by simp)];refine ae (kq hT dT t3 ?_);rw [if_neg (show ¬ ((jg == rawInt L)=true) from by simp [rawInt])];refine ae (vm hT dT (iH.mp t3).1 ?_);have other:∀ b,b≠T->(s.heap.update T (tm (·.setIfInBounds 3 jg))).get? b=s.heap.get? b:=λ b hb=>ie _ _ (og hb)
 have noRec:∀ b o,s.heap.get? b=some o->(∀ vs,o.data≠.fields vs)->b≠T:=λ b o hb nf z=>by
  rw [z,hT] at hb;cases hb
  exact nf ts dT
 exact entry hfr (hl.of_keeps λ b o hb nf=>⟨o,(other b (noRec b o hb nf)).trans hb,rfl⟩) hf ((other e (og nT)).trans he) hd (iH.mp h1).1
  λ h' T' a=>q _ h' T' other (iI _ hT (lg (ji dT _))) (DN _ _ _) a
end
end Ex
namespace Ex
open PySem PySem.W PyProof.Rows Builtin.ObjectAttr
section
variable {prog:eU} {w:gk} {M:tw} {A:eV} {E:af->ak->Prop} {s:ak} {K:Fw} {x C:ah} {name:Str} {v:af}
structure XK0 (K:Fw) (C:ah):Prop where
 cd:∃ cd,clsIn K C=some cd/\cd.hasDict=true/\cd.mro.isEmpty=false/\∀ self,refuseLoop self "__setattr__" cd.mro=pure ()
 bx:mroIn K C (.type "BaseException")=some true
 ob:mroIn K C (.type "object")=some true
 ty:typeIn K (.ref C)=some (.type "type")
 sa:findIn K (.ref C) "__setattr__" = some (some (.builtin "object.__setattr__"))
 ga:findIn K (.ref C) "__getattribute__" = some (some (.builtin "BaseException.__getattribute__"))
 gh:findIn K (.ref C) "__getattr__" = some none
 cl:findIn K (.ref C) "__class__" = some (some (.builtin "object.__class__"))
 cg:specialIn K (.builtin "object.__class__") "__get__" = some (some (.builtin "getset_descriptor.__get__"))
 ct:takesIn K (.builtin "object.__class__")=some true
theorem set_exc {vs:Array af} {sl:Array (Option af)} {Q:Unit->ak->Prop} (F:XK0 K C) (hn:findIn K (.ref C) name=some none) (X:K.In s.heap) (hx:s.heap.get? x=some ⟨.ref C,none,.fields vs,sl⟩)
  (q:∀ h' tk',h'.get? x=some ⟨.ref C,some s.heap.objs.size,.fields vs,sl⟩->h'.Ns1 s.heap.objs.size (λ y=>if y=name then some v else none) ->
   (∀ b o,b≠x->s.heap.get? b=some o->h'.get? b=some o)->Q () { s with heap:=h',toks:=tk' }) :
  de (model prog w) A (setAttr (.ref x) name v) Q E s:=by
 have I:InstAt s.heap x ⟨.ref C,none,.fields vs,sl⟩ C none:=⟨hx,rfl,rfl,trivial⟩;refine set_plain X I F.sa ?_;obtain ⟨h,g,d,t,os⟩:=s;have SF:=PySem.F.store_object;obtain ⟨cd,hc,hd,ne,hp⟩:=F.cd;have sub:Ba (model prog w) h (isInstance (.ref x) (.type "object")) true:=I.type.andThen (zk X F.ob);refine zm SF.slot.plain SF.entry (@check_slot (model prog w) _ _ ⟨h,g,d,t+1,os⟩ "object.__setattr__" "object" "__setattr__" (.ref x) [.str name t,v] [] _ SF.kind SF.split sub (SF.args (.ref x) (.str name t) v) ?_);have hm:Ba (model prog w) h (mroOf (.ref C)) cd.mro:=(looks_clsIn X hc).andThen .now;rw [osa_eq,refuse_eq];refine ae (ae (I.type.at (ae (hm.at ?_))));rw [hp];refine av (ae (I.type.at (ae ((BU X hn).at (ae (av ?_))))));show de _ _ (storeInOwnDict (.ref x) (.ref C) (.str name t) name v false) _ _ _;refine ae (av (ae (ae (Bq hx (ae ((looks_clsIn X hc).at ?_))))));rw [hd];have x1:(h.push { cls:=.type "dict",data:=.dict #[] }).get? x=some ⟨.ref C,none,.fields vs,sl⟩:=ao _ hx;have nx:x≠h.objs.size:=eM (cf hx);refine ae (wpAny_alloc' (ae (wpAny_update' x1 (av ?_))))
 have gd:((h.push { cls:=.type "dict",data:=.dict #[] }).update x λ o=>{ cls:=o.cls,dict:=some h.objs.size,data:=o.data,slots:=o.slots }).get? h.objs.size=some { cls:=.type "dict",data:=.dict #[] } :=
  (pd _ _ _ _ nx.symm).trans (DC rfl rfl)
 have nd:((h.push { cls:=.type "dict",data:=.dict #[] }).update x λ o=>{ cls:=o.cls,dict:=some h.objs.size,data:=o.data,slots:=o.slots }).Ns h.objs.size (λ _=>none) :=
  ⟨_,#[],_,gd,rfl,λ e he=>absurd he (by simp),λ _=>rfl⟩
 show de _ _ (storeInDict h.objs.size (.str name t) name v) _ _ _;unfold storeInDict newKeyGuard;refine ae (av (ae (wpAny_nsSet1 (Heap.Ns1.of_empty nd) λ h' hn' hs=>?_)));obtain ⟨oD,esD,epD,hoD,hdD,hcD⟩:=hn'.count (Within.cons name v Within.nil);refine ae (wpAny_lookBehind hoD (by rw [hdD];exact pastItsLine_dict (je hcD (by rw [iE,qc,vh];omega))) (av ?_));exact q h' _ ((hs.2 x nx).trans (iI _ x1 rfl)) hn' λ b o nb hb=>(hs.2 b (eM (cf hb))).trans ((pd _ _ _ _ nb).trans (ao _ hb))
end
section
variable {prog:eU} {w:gk} {A:eV} {E:af->ak->Prop} {s:ak} {K:Fw} {x C:ah} {ox:Obj} {od:Option Obj} {name:Str} {v:af}
theorem kJM {tk:Tok} {R:Ds->ak->Prop} (F:XK0 K C) (X:K.In s.heap) (I:InstAt s.heap x ox C od)
  (h:de (model prog w) A.in1 (zd.«object.__getattribute__» ⟨[.ref x,.str name tk],[]⟩) (λ fin s'=>match fin with | .done f=>R (.ok f) s' | .again c'=>c'.quiet=true/\codeAny (model prog w) A c' R s') (λ e s'=>R (.error e) s') s) :
  codeAny (model prog w) A (.call (.builtin "BaseException.__getattribute__") ⟨[.ref x,.str name tk],[]⟩) R s:=by
 have sub:Ba (model prog w) s.heap (isInstance (.ref x) (.type "BaseException")) true:=I.type.andThen (zk X F.bx);have k1:builtinKind "BaseException.__getattribute__" = some .slot:=by decide +kernel
 have k2:splitId "BaseException.__getattribute__" = some ("BaseException","__getattribute__"):=by decide +kernel
 exact zm Ac.ga.plain PySem.F.entry_bexc_ga (@check_slot (model prog w) _ _ s "BaseException.__getattribute__" "BaseException" "__getattribute__" (.ref x) [.str name tk] [] _ k1 k2 sub (PySem.F.args_bexc_ga _ _) h)
theorem kHO {tk:Tok} {fill expr:Bool} {Q:af->ak->Prop} (F:XK0 K C) (X:K.In s.heap) (I:InstAt s.heap x ox C od)
  (h:de (model prog w) A.in1 (zd.«object.__getattribute__» ⟨[.ref x,.str name tk],[]⟩) (λ fin s'=>match fin with | .done (.ret v)=>de (model prog w) A (handedOut v) Q E s' | _=>False) (λ _ _=>False) s) :
  de (model prog w) A (getAttrBy (.ref x) (.str name tk) fill expr) Q E s:=by
 obtain ⟨hh,g,d,t,os⟩:=s;have L0:=I.type (M:=model prog w);have L1:=BU (M:=model prog w) X F.ga;have L2:=BU (M:=model prog w) X F.gh;unfold getAttrBy;refine iO (ae (L0.at (ae (L1.at ?_))));have n1:(ze "BaseException.__getattribute__" == ze "object.__getattribute__")=false:=by decide +kernel
 show de _ _ (if (onTheHeap (.ref C) && ze "BaseException.__getattribute__" == .builtin "object.__getattribute__")=true then _ else _) _ _ _;rw [n1,Bool.and_false,if_neg dj];unfold getAttrByItsOwn;refine ae (m:=hookBefore (.ref C)) (L2.at ?_)
 have cg:callGetattribute (.ref x) (.str name tk) (.builtin "BaseException.__getattribute__") expr=boundAndCalled (.builtin "BaseException.__getattribute__") (.ref x) (.str name tk):=by
  unfold callGetattribute;rw [show (expr && onTheHeap (ze "BaseException.__getattribute__"))=false from by cases expr<;>rfl,if_neg dj]
 rw [cg];refine ae (CI (iO ?_));unfold boundAndCalled;rw [Ac.ga.bind (.ref x)];refine ae (av ?_);refine yp (kJM F X I (lj h (λ fin s' z=>?_) λ _ _ z=>z.elim));rcases fin with (_ | _ | _ | _) | _<;>first | exact z | exact z.elim
theorem get_exc {expr:Bool} {Q:af->ak->Prop} (F:XK0 K C) (X:K.In s.heap) (I:InstAt s.heap x ox C od) (hf:findObj K C od name=some (.value v)) (hv:handedIn v=true)
  (q:Q v { s with toks:=s.toks+1 }):de (model prog w) A (getAttr (.ref x) name expr) Q E s:=by
 unfold getAttr;refine ae (wpAny_mkText (kHO (s:={ s with toks:=s.toks+1 }) F X I ?_))
 obtain ⟨hh,g,d,t,os⟩:=s;have L0:=I.type (M:=model prog w);have L1:=looks_find (M:=model prog w) X I hf;refine ae (av (ae (av (ae (L0.at (ae (L1.at (av ?_))))))));show de _ _ (handedOut v) _ _ _;rw [handedOut_of hv];exact av q
theorem kEO {Q:Option af->ak->Prop} (F:XK0 K C) (X:K.In s.heap) (I:InstAt s.heap x ox C od) (q:Q (some (.ref C)) { s with toks:=s.toks+1 }) :
  de (model prog w) A (getAttr? (.ref x) "__class__") Q E s:=by
 obtain ⟨cd,hc,_⟩:=F.cd
 have hf:findObj K C od "__class__" = some (.bind (.builtin "getset_descriptor.__get__") (.builtin "object.__class__")):=by
  unfold findObj;rw [hc,F.cl];simp only [DK,F.cg,F.ct]
 unfold getAttr? getAttrBy?;refine ae (wpAny_mkText (ae (CI (kHO (s:={ s with toks:=s.toks+1 }) F X I ?_))))
 obtain ⟨hh,g,d,t,os⟩:=s;have L0:=I.type (M:=model prog w);have L1:=looks_find (M:=model prog w) X I hf;refine ae (av (ae (av (ae (L0.at (ae (L1.at ?_)))))));show de _ _ (holding [ze "object.__class__"] (call (.builtin "getset_descriptor.__get__") [.builtin "object.__class__",.ref x,.ref C]) >>= ret) _ _ _;refine ae (iO (yp (class_get (s:=⟨hh,g,d,t+1,os⟩) (ox:=ox) (od:=od) X I F.ob (av ?_))));show de _ _ (handedOut (.ref C)) _ _ _;exact av (av q)
end
section
variable {prog:eU} {w:gk} {A:eV} {E:af->ak->Prop} {s:ak} {K:Fw} {x C:ah} {ox:Obj} {od:Option Obj} {name:Str} {v:af}
theorem isT (F:XK0 K C) {M:tw} {h:gw} (X:K.In h):Ba M h (isType (.ref C)) true:=by
 obtain ⟨cd,hc,_⟩:=F.cd;unfold clsIn at hc
 split at hc
 ·rename_i c' d' cd' sl' ho
  intro A' Q' E' s' k q;unfold isType loadHead;exact ae (Bq (k _ _ (X _ _ ho)) (av q))
 ·cases hc
theorem kitx_exc (F:XK0 K C):KitX K (.ref x) (.ref C) (λ h=>InstAt h x ox C od) where
 ty:=λ _ _ _ I=>I.type
 it:=λ _ _ X _=>isT F X
 ne:=λ h tp dd its n sl X htp=>by
  obtain ⟨cd,hc,_⟩:=F.cd;refine Bool.eq_false_iff.mpr λ q=>?_;have e:C=tp:=Ew (beq_iff_eq.mp q);subst e;unfold clsIn at hc
  split at hc
  ·rename_i c' d' cd' sl' ho
   have z:=(X _ _ ho).symm.trans htp;cases z
  ·cases hc
 ca:=λ X I k=>kEO F X I k
theorem raise_exc {env:Env} {m:Sem af} {Q:Flow->ak->Prop} (hh:A.handled=none)
  (h:de (model prog w) A m (λ u s1=>∃ e C od vs sl,u=.ref e/\XK0 K C/\K.In s1.heap/\s1.heap.get? e=some ⟨.ref C,od,.fields vs,sl⟩/\vs[1]?=some .none/\E (.ref e) s1) E s) :
  de (model prog w) A (raiseStmt env (some m) none) Q E s:=by
 unfold raiseStmt;refine ae (lj h (λ u s1 h1=>?_) λ _ _ z=>z);obtain ⟨e,C,od,vs,sl,rfl,F,X,he,t1,q⟩:=h1;obtain ⟨hp,g,d,tk,os⟩:=s1;have T:Ba (model prog w) hp (typeOf (.ref e)) (.ref C):=(Fz he).andThen .now
 have nt:Ba (model prog w) hp (isType (.ref e)) false:=by
  intro A' Q' E' s' k q;unfold isType loadHead;exact ae (Bq (k _ _ he) (av q))
 have B:Ba (model prog w) hp (isInstance (.ref e) (.type "BaseException")) true:=T.andThen (zk X F.bx);have TT:=looks_typeIn (M:=model prog w) X F.ty
 have n1:Ba (model prog w) hp (isExcClass (.ref e)) false:=by
  unfold isExcClass;exact nt.andThen .now
 have xf:Ba (model prog w) hp (excFromValue (.ref e) "exceptions must derive from BaseException") (.ref e):=by
  unfold excFromValue;exact n1.andThen (B.andThen .now)
 refine ae (av (ae (iO (xf.at ?_))))
 have ri:Ba (model prog w) hp (raisedInstance (.ref e)) (.ref e):=by
  unfold raisedInstance;exact T.andThen (TT.andThen .now)
 refine ae (nt.at ?_);show de _ _ (raisedInstance (.ref e) >>= λ e=>setFlight e none >>= λ _=>raiseNew e) _ _ _;refine ae (ri.at (ae ?_));unfold setFlight;refine ae (kq he rfl t1 ?_);rw [if_neg (by decide)];exact av (wpAny_raiseNew_none hh q)
theorem match_exc {D:ah} {b:Bool} {Q:Bool->ak->Prop} (F:XK0 K C) (G:XK0 K D) (X:K.In s.heap) (I:InstAt s.heap x ox C od) (hm:mroIn K C (.ref D)=some b) (hb:instIn K (.ref D) (.type "tuple")=some false) (hB:mroIn K D (.type "BaseException")=some true)
  (q:Q b s):de (model prog w) A (excMatches (.ref x) (.ref D)) Q E s:=by
 obtain ⟨h,g,d,tk,os⟩:=s;have T:=I.type (M:=model prog w);have L1:=looks_instIn (M:=model prog w) X hb
 have L2:Ba (model prog w) h (isExcClass (.ref D)) true:=by
  unfold isExcClass;exact (isT G X).andThen (zk X hB)
 have L3:=zk (M:=model prog w) X hm;unfold excMatches
 repeat lk
 cases b with
 | true=>exact av (av (av q))
 | false=>exact av (av (av q))
theorem init_exc {rest:List af} {vs:Array af} {dd:Option ah} {sl:Array (Option af)} {t0:ah} {R:Ds->ak->Prop} (F:XK0 K C) (hV:mroIn K C (.type "ValueError")=some true) (X:K.In s.heap)
  (hx:s.heap.get? x=some ⟨.ref C,dd,.fields vs,sl⟩) (h0:vs[0]?=some (.ref t0)) (hl:rest.length<=sizeLine)
  (q:∀ h' T,h'.get? x=some ⟨.ref C,dd,.fields (vs.setIfInBounds 0 (.ref T)),sl⟩->(∀ b o,b≠x->s.heap.get? b=some o->h'.get? b=some o)->R (.ok (.ret .none)) { s with heap:=h' }) :
  codeAny (model prog w) A (.call (.builtin "ValueError.__init__") ⟨.ref x::rest,[]⟩) R s:=by
 have B:=Ad;obtain ⟨h,g,d,tk,os⟩:=s;have T:Ba (model prog w) h (typeOf (.ref x)) (.ref C):=(Fz hx).andThen .now;have sub:Ba (model prog w) h (isInstance (.ref x) (.type "ValueError")) true:=T.andThen (zk X hV);have st:∀ (a b:String) (n:Nat),Bind.check ⟨.positional,"*","ValueError",.self,[⟨"args",.varPos,false⟩]⟩ a b n (List.map (λ x=>x.fst) ({ pos:=fo x::rest }:Args).kw)=pure ():=λ a b n=>check_star_args _ _ _ _ _ _;refine zm B.init.plain B.initEntry ?_;simp only [checkBuiltinCall,B.initKind,B.initSplit,B.initRow];refine ae (sub.at ?_);rw [if_neg (by decide)];obtain ⟨cd,hc,_⟩:=F.cd
 obtain ⟨cc,dC,slC,ho⟩ : ∃ cc dC slC,K.lookup C=some ⟨cc,dC,.cls cd,slC⟩:=by
  unfold clsIn at hc
  split at hc
  ·rename_i c' d' cd' sl' ho
   cases hc
   exact ⟨_,_,_,ho⟩
  ·cases hc
 have hC:h.get? C=some ⟨cc,dC,.cls cd,slC⟩:=X _ _ ho;have c2:=B.noStar
 repeat (first | with_reducible refine ow hx ?_ | with_reducible refine ow hC ?_ | wp_step)
 refine wpAny_onRaise ?_;rw [st];refine av ?_;unfold zd.«BaseException.__init__»;show de _ _ (newTuple rest >>= λ t=>zo (.ref x) 0 t >>= λ _=>ret .none) _ _ _;unfold newTuple;refine ae (iR ?_ (by show rest.toArray.size<=sizeLine;rw [eN];exact hl));have x1:=ao (h:=h) { cls:=.type "tuple",data:=.seq rest.toArray } hx;have sz:0<vs.size:=(iH.mp h0).1;unfold zo;refine ae (ae (kq x1 rfl h0 (ae (vm x1 rfl sz (wpAny_letGo (av ?_))))));refine q _ h.objs.size (iI _ x1 rfl) λ b o nb hb=>?_;rw [ie _ _ (og nb)];exact ao _ hb
end
section
variable {prog:eU} {w:gk} {A:eV} {E:af->ak->Prop} {h:gw} {g:Array Dm} {d:Drawn} {t:Nat} {os:OsState} {K:Fw}
variable {nm q:Str} {C N:ah} {bs bm bmB:List af} {hdct:Bool} {sn:List Str} {sub:List af} {ab:Bool} {col:Option Bool} {dd:Option ah} {k0 k1 k2 k3 k5:Option af} {B newId initId:String}
theorem tI (F:BS B newId initId bmB) (U:Up B bm) {rest:List af} {fI:ah} {Q:Fin->ak->Prop} (hrest:rest.length<=sizeLine) (X:K.In h)
  (hC:h.get? C=some (excClassObj nm q C N bs bm hdct sn sub ab col dd k0 k1 k2 k3 k5 newId)) (hi:findIn K (.ref C) "__init__" = some (some (.ref fI))) (hfn:typeIn K (.ref fI)=some (.type "function"))
  (hq:∀ h' e,h.objs.size<=e->EH h h' e (.ref C) rest->de (model prog w) A (call (.ref fI) (.ref e::rest)) (λ r s'=>r=.none/\Q (.done (.ret (.ref e))) s') E ⟨h',g,d,t,os⟩) :
  de (model prog w) A (zd.«type.__call__» ⟨.ref C::rest,[]⟩) Q E ⟨h,g,d,t,os⟩:=by
 repeat (first | with_reducible refine ow hC ?_ | with_reducible refine DP hC ?_ | wp_step)
 refine codeAny_call_builtin_code (Ab _ F.quiet) (kEQ F U hC (kJO F U hC hrest ?_));show de _ _ _ _ _ _;have k2:∀ {b:ah} {o:Obj},h.get? b=some o->((h.push { cls:=.type "tuple",data:=.seq rest.toArray }).push { cls:=.ref C,data:=.fields #[.ref h.objs.size,.none,.none,.none,.bool false,.none] }).get? b=some o:=λ e=>ao _ (ao _ e);have X1:K.In ((h.push { cls:=.type "tuple",data:=.seq rest.toArray }).push { cls:=.ref C,data:=.fields #[.ref h.objs.size,.none,.none,.none,.bool false,.none] }):=λ a o e=>k2 (X a o e);have hC₁:=k2 hC;have hget:((h.push { cls:=.type "tuple",data:=.seq rest.toArray }).push { cls:=.ref C,data:=.fields #[.ref h.objs.size,.none,.none,.none,.bool false,.none] }).get? (h.objs.size+1)=some { cls:=.ref C,data:=.fields #[.ref h.objs.size,.none,.none,.none,.bool false,.none] }:=by heap_get
 have hcC:(fo C::bm).contains (.ref C)=true:=by simp
 unfold isInstance
 repeat (first | with_reducible refine ow hget ?_ | (with_reducible refine AC hC₁ ?_;rw [hcC]) | wp_step)
 show de _ _ (typeLookup (.ref C) _) _ _ _;refine (BU (M:=model prog w) X1 hi).at ?_;refine iO (ae ?_);unfold bindSpecial;refine ae ((looks_typeIn (M:=model prog w) X1 hfn).at ?_);rw [if_pos (by decide)];refine av (ae (lj (hq _ (h.objs.size+1) (zg _) ⟨λ b o hb=>k2 hb,zf (zg _),h.objs.size,hget,zf (be _),ao _ (DC rfl rfl)⟩) (λ r s' hr=>?_) λ _ _ x=>x));obtain ⟨rfl,hQ⟩:=hr
 wp_walk
 exact hQ
theorem call_excK (F:BS B newId initId bmB) (U:Up B bm) {rest:List af} {fI:ah} {Q:af->ak->Prop} (hrest:rest.length<=sizeLine) (X:K.In h)
  (hC:h.get? C=some (excClassObj nm q C N bs bm hdct sn sub ab col dd k0 k1 k2 k3 k5 newId)) (hi:findIn K (.ref C) "__init__" = some (some (.ref fI))) (hfn:typeIn K (.ref fI)=some (.type "function"))
  (hq:∀ h' e,h.objs.size<=e->EH h h' e (.ref C) rest ->
   de (model prog w) (A.under (.builtin "type.__call__" ⟨.ref C::rest,[]⟩)) (call (.ref fI) (.ref e::rest)) (λ r s'=>r=.none/\Q (.ref e) s') E ⟨h',g,d,t,os⟩) :
  de (model prog w) A (call (.ref C) rest) Q E ⟨h,g,d,t,os⟩:=by
 have f1:=tc_lookup;have f2:=tc_bind (.ref C);have hT:(⟨h,g,d,t,os⟩ : ak).TypeIs (.ref C) "type":=⟨_,hC,rfl⟩;refine yp (Df ?_);show de _ _ (callAny (.ref C) ⟨rest,[]⟩) _ _ _
 repeat (any_goals (first | assumption | with_reducible refine ow hC ?_ | wp_step))
 refine ⟨rfl,?_⟩;refine codeAny_call_builtin_at (Ab _ (by decide +kernel)) entry_typeCall (wpAny_check_type_call_sub hC (tI F U hrest X hC hi hfn λ h' e he hm=>?_));exact hq h' e he hm
end
end Ex
namespace L2
open PySem PySem.Spec PyProof.Rows
def XO (e C:ah) (dx:Option ah) (t1:af) (h:gw):Prop:=∃ vs sl,h.get? e=some ⟨.ref C,dx,.fields vs,sl⟩/\(∃ t0,vs[0]?=some (.ref t0))/\vs[1]?=some t1
def TrB (T:ah) (h:gw):Prop:=∃ o ts,h.get? T=some o/\o.data=.fields ts/\ts[3]?=some .none
theorem XO.ok {P:eU} {w:gk} {H:Hp} {h:gw} {e C:ah} {dx:Option ah} {t1:af} (x:XO e C dx t1 h):ObjOk P w H h e (.ext (XO e C dx t1)):=by
 refine ⟨x,?_,λ h1 h2 y k=>?_⟩
 ·obtain ⟨vs,sl,e,_⟩:=x
  exact ⟨_,e⟩
 ·obtain ⟨vs,sl,e,r⟩:=y
  exact ⟨vs,sl,k _ e,r⟩
theorem TrB.ok {P:eU} {w:gk} {H:Hp} {h:gw} {T:ah} (x:TrB T h):ObjOk P w H h T (.ext (TrB T)):=by
 refine ⟨x,?_,λ h1 h2 y k=>?_⟩
 ·obtain ⟨o,ts,e,_⟩:=x
  exact ⟨_,e⟩
 ·obtain ⟨o,ts,e,r⟩:=y
  exact ⟨o,ts,k _ e,r⟩
theorem aZ {H:Hp} {a:ah} {o:HO} (h:H a=some o):upd H a o=H:=by
 funext b
 by_cases e:b=a
 ·subst e;rw [kC,h]
 ·rw [kH e]
section
variable {P:eU} {w:gk} {H:Hp} {h h':gw} {a d:ah} {o1 o2:HO} {fs ex:List ah}
theorem HOk.two (ok:HOk P w H h) (mu:Mut (H a)) (hd:h.objs.size<=d) (k:∀ b u,b≠a->h.get? b=some u->h'.get? b=some u)
  (n1:ObjOk P w (upd (upd H d o1) a o2) h' d o1) (n2:ObjOk P w (upd (upd H d o1) a o2) h' a o2):HOk P w (upd (upd H d o1) a o2) h':=λ b u q=>by
 have nown:∀ c y,H c=some (.own y)->c≠a:=λ c y r z=>by subst z;rw [r] at mu;exact mu
 have ntup:∀ c xs,H c=some (.tup xs)->c≠a:=λ c xs r z=>by subst z;rw [r] at mu;exact mu
 have nd:H d=none:=ok.fresh hd;by_cases hb:b=a
 ·subst hb;rw [kC] at q;cases q;exact n2
 ·rw [kH hb] at q
  by_cases hbd:b=d
  ·subst hbd;rw [kC] at q;cases q;exact n1
  ·rw [kH hbd] at q
   refine (ok b u q).stay (λ c v hc r=>k c v ?_ r) (λ c r=>by rw [kH (nown c b r),kH (kF r nd)];exact r) λ c xs r=>by rw [kH (ntup c xs r),kH (kF r nd)];exact r
   rcases hc with rfl | hc
   ·exact hb
   ·exact nown c b hc
theorem Un.two (mu:Mut (H a)) (hd:h.objs.size<=d) (nd:H d=none) (k:∀ b u,b≠a->h.get? b=some u->h'.get? b=some u) (he:∃ u,h'.get? a=some u):Un fs ex H (upd (upd H d o1) a o2) h h':=by
 have hx:∀ b,H b=none->b≠a:=λ b n z=>by subst z;rw [n] at mu;exact mu
 have hm:∀ b u,H b=some u->¬ Mut (some u)->b≠a:=λ b u q nm z=>by subst z;rw [q] at mu;exact nm mu
 refine ⟨λ b u q n _ _=>k b u (hx b n) q,λ b u q n _ _=>⟨u.slots,k b u (hx b n) q⟩,λ b u q n _=>by rw [kH (hx b n),kH (eM (cn (cf q) hd))];exact n,λ b u q _=>?_,
  λ b xs q=>by rw [kH (hm b _ q λ z=>z),kH (kF q nd)];exact q,λ b u xs q=>by rw [kH (hm b _ q λ z=>z),kH (kF q nd)];exact q,
  λ b ps q=>⟨#[],by rw [kH (hm b _ q λ z=>z),kH (kF q nd),q];simp⟩⟩
 by_cases hb:b=a
 ·subst hb;exact he
 ·exact ⟨u,k b u hb q⟩
end
structure XM (K:au) (C f:ah):Prop where
 x0:Ex.XK0 K C
 obj:∃ nm q N bs bm hdct sn sub ab col dd k0 k1 k2 k3 k5,K.lookup C=some (excClassObj nm q C N bs bm hdct sn sub ab col dd k0 k1 k2 k3 k5 "ValueError.__new__")/\Ex.Up "ValueError" bm
 init:gx K (.ref C) "__init__" = some (some (.ref f))
 fn:dn K (.ref f)=some (.type "function")
 kp:bj K (.ref C)=true
def kLA (C:ah) (sp:Sp) (t:TA):TE:=λ σ H Q=>t σ H λ vs H1=>∀ x,H1 x=none->sp (.ref x::vs) (upd H1 x (.ext (XO x C none .none))) (λ v H2=>v=.non/\Q (.ref x) H2) E0
section
variable {X:Cx} {k:Nat} {f C:ah} {fd:eO} {ps:List Str} {sp:Sp} {x m:Str} {p pos apos:Pos} {e o:iQ} {es:List iQ} {ta:TE} {t:TA}
theorem kDJ {pins:List (ah×Obj)} {σ:St} {H:Hp} {s:ak} {Q:VK} {us:List af} {vs:List V} (M:XM X.K C f) (F:FnOk X.prog X.w X.K X.mg X.base CX0 k f fd ps sp) (hr:Room (k+1) X.A) (hb:Binds X.K fd ps []) (hs:ps.length<=100)
  (I:Inv X pins σ H s) (r:Vals vs us)
  (h:∀ x,H x=none->sp (.ref x::vs) (upd H x (.ext (XO x C none .none))) (λ v H2=>v=.non/\Q (.ref x) H2) E0) :
  de (model X.prog X.w) X.A (call (.ref C) us) (EP X pins σ Q) X.xe s:=by
 have hl0:us.length+1=ps.length:=by
  have:=F.len _ _ _ _ (h s.heap.objs.size (I.hok.fresh (be _)));rw [iE,r.length] at this;exact this
 obtain ⟨nm,q,N,bs,bm,hdct,sn,sub,ab,col,dd,k0,k1,k2,k3,k5,lk,U⟩:=M.obj;obtain ⟨h0,g,d,tk,os⟩:=s;have KX:X.K.In h0:=I.kIn;refine Ex.call_excK (K:=X.K) (fI:=f) Ad U (by rw [vh];omega) KX (KX _ _ lk) M.init M.fn λ h' x hx hm=>?_
 have I2:Inv X pins σ (upd H x (.ext (XO x C none .none))) ⟨h',g,d,tk,os⟩:=by
  refine I.laid (t':=tk) hm.keeps hx (XO.ok ?_);obtain ⟨t0,e0,_⟩:=hm.there;exact ⟨_,_,e0,⟨t0,rfl⟩,rfl⟩
 have hq:=h x (I.hok.fresh hx);have r2:Vals (V.ref x::vs) (fo x::us):=.cons rfl r;have hl:((fo x::us)++[]).length=ps.length:=by rw [ir,iE];exact hl0
 have bb:=hb _ (fo x::us) I2.kIn hl;rw [ir] at bb;refine yp (xv (F.run _ X.stack _ _ ⟨fo x::us,[]⟩ (fo x::us) _ _ E0 (hr.make C us []) (I2.env0.make C us []) bb r2 hq) λ rr s' hq'=>?_)
 cases rr with
 | error e=>exact hq'.elim
 | ok fl =>
  cases fl with
  | ret u =>
   obtain ⟨v,H',I3,rv,ev,q3⟩:=I2.after hq';subst ev;exact ⟨rv,⟨V.ref x,H',I3,rfl,q3⟩⟩
  | next=>exact jh hq'
  | brk=>exact jh hq'
  | cont=>exact jh hq'
theorem kGC (M:XM X.K C f) (F:FnOk X.prog X.w X.K X.mg X.base CX0 k f fd ps sp) (hr:Room (k+1) X.A) (hg:Gl X x) (hm:X.mg x=some (.ref C)) (hb:Binds X.K fd ps []) (hs:ps.length<=100)
  (ha:PA X (e::es) t) (hdb:(x == ("__debug__" : Str))=false:=by decide) (he:starEach (e::es) X.env=(false,eval e X.env)::starEach es X.env:=by rfl) (hpl:(backTo pos (starEach es X.env)).any (·.1)=false:=by rfl) :
  PE X (.Call (.Name x p) (e::es) [] pos) (kLA C sp t):=by
 intro pins s σ H Q I h;refine ug (aJ I hg hm ?_ hdb);refine xg (h₀:=X.base) I.ok.mod.kin M.kp (thn (ha pos pins s σ H _ I h) λ us s1 ⟨vs,H1,I1,r,q⟩=>⟨I1.kIn,?_⟩) he hpl;exact kDJ M F hr hb hs I1 r q
end
def kLB (K:au) (t:TA):TE:=λ σ H Q=>t σ H λ vs H1=>∃ a C dx rest,vs=.ref a::rest/\H1 a=some (.ext (XO a C dx .none))/\Ex.XK0 K C/\md K C (.type "ValueError")=some true/\rest.length<=100/\Q .non H1
def kNU (K:au) (ta tv:TE) (f:Str):TS:=λ D σ H=>tv σ H λ y H1=>ta σ H1 λ x H2=>∃ a C,x=.ref a/\H2 a=some (.ext (XO a C none .none))/\Ex.XK0 K C/\gx K (.ref C) f=some none /\
 ∀ d,H2 d=none->d≠a->D.nx σ (upd (upd H2 d (.xd [(f,y)])) a (.ext (XO a C (some d) .none)))
section
variable {X:Cx} {k:Nat} {f C:ah} {fd:eO} {ps:List Str} {sp:Sp} {x m:Str} {p pos apos pos':Pos} {e o value:iQ} {es:List iQ} {ta tv:TE} {t:TA}
theorem kGD {pl:Sem Bool} (hg:Gl X "ValueError") (hm:X.mg "ValueError" = none) (hc:ur X.K (.type "ValueError") (.type "type") "__init__" = some (.val (.builtin "ValueError.__init__"))) (ha:PA X (e::es) t)
  (hst:starEach (e::es) X.env=(false,eval e X.env)::starEach es X.env:=by rfl) (hpl:(backTo pos (starEach es X.env)).any (·.1)=false:=by rfl)
  (ht:eval (.Call (.Attribute (.Name "ValueError" p) "__init__" apos) (e::es) [] pos) X.env=(do
   let ov <-eval (.Name "ValueError" p) X.env
   standAt apos.atName
   let (f,first) <-holding [ov] (getMethod ov "__init__" pl)
   callWith pos f first (backTo pos (starEach (e::es) X.env)) (backToKw pos (keywordEach [] X.env))):=by rfl) :
  PE X (.Call (.Attribute (.Name "ValueError" p) "__init__" apos) (e::es) [] pos) (kLB X.K t):=by
 intro pins s σ H Q I h;have bv:bootBuiltins "ValueError" = some (.type "ValueError"):=by decide +kernel
 refine Bh (pl:=pl) (aR I hg hm bv ?_) ht;obtain ⟨m,fr⟩:=I.fr;refine PySem.W.method_type fr I.ok.mod.kin rfl (by decide +kernel) hc rfl ?_;have I0:=I.tok (s.toks+1);refine yq (thn (ha pos pins _ σ H _ I0 h) λ us s1 ⟨vs,H1,I1,r,a,C,dx,rest,ev,ha,x0,hV,hl,q⟩=>?_) hst hpl;subst ev
 obtain ⟨u,us,rfl,ru,rr⟩ : ∃ u us',us=u::us'/\RelV (.ref a) u/\Vals rest us':=by
  cases r with
  | cons a b=>exact ⟨_,_,rfl,a,b⟩
 cases ru
 obtain ⟨⟨ws,sl,he,⟨t0,h0⟩,h1⟩,_⟩:=I1.hok a _ ha;refine yp (Ex.init_exc (K:=X.K) x0 hV I1.kIn he h0 (by rw [<-rr.length,vh];omega) λ h' T g1 g2=>?_);refine ⟨.non,H1,?_,rfl,q⟩
 have:=I1.write (h':=h') (t':=s1.toks) (x:=a) (e:=a) (o:=.ext (XO a C dx .none)) (by rw [ha];exact jq) (.inl rfl) (λ b u nb e=>g2 b u nb e) ⟨_,g1⟩
  (XO.ok ⟨_,_,g1,⟨T,by rw [kh];rw [if_pos rfl,if_pos (iH.mp h0).1]⟩,by rw [yj (by decide)];exact h1⟩)
 rw [aZ ha] at this;exact this
theorem kGF {pl:Sem Bool} {D:ah} {d:Str} {mc:af} (hg:Gl X d) (hm:X.mg d=some (.ref D)) (h1:vc X.K (.ref D) "__getattribute__" = some (some (.builtin "type.__getattribute__"))) (h2:Bb X.K D mc=true)
  (h3:ur X.K (.ref D) mc "__init__" = some (.val (.ref f))) (hk:bj X.K (.ref f)=true) (F:FnOk X.prog X.w X.K X.mg X.base CX0 k f fd ps sp) (hr:Room k X.A) (hb:Binds X.K fd ps []) (ha:PA X (e::es) t)
  (hd:(d == ("__debug__" : Str))=false:=by decide) (hst:starEach (e::es) X.env=(false,eval e X.env)::starEach es X.env:=by rfl) (hpl:(backTo pos (starEach es X.env)).any (·.1)=false:=by rfl)
  (ht:eval (.Call (.Attribute (.Name d p) "__init__" apos) (e::es) [] pos) X.env=(do
   let ov <-eval (.Name d p) X.env
   standAt apos.atName
   let (f,first) <-holding [ov] (getMethod ov "__init__" pl)
   callWith pos f first (backTo pos (starEach (e::es) X.env)) (backToKw pos (keywordEach [] X.env))):=by rfl) :
  PE X (.Call (.Attribute (.Name d p) "__init__" apos) (e::es) [] pos) (mR sp [] E0 t):=by
 intro pins s σ H Q I h;refine Bh (pl:=pl) (aJ I hg hm ?_ hd) ht;refine PySem.W.method_cls I.kIn h1 (PySem.W.cls_value I.kIn h2 h3 rfl ?_);have I0:=I.tok (s.toks+1);refine xg (first:=[]) (h₀:=X.base) I.ok.mod.kin hk (thn (ha pos pins _ σ H _ I0 h) λ us s1 ⟨vs,H1,I1,r,q⟩=>⟨I1.kIn,?_⟩) hst hpl;exact kFS F hr hb .nil kKF I1 r q
theorem kIP {f:Str} (ha:PE X o ta) (hv:PE X value tv) (hs:swapsWith value (some (.Attribute o f pos')) pos.line X.env=pure false):PS X (.Assign [.Attribute o f pos'] value pos) (kNU X.K ta tv f):=by
 intro pins s σ H D I h;refine plainObj_wpAny_Assign_Attribute (thn (hv pins s σ H _ I h) λ u s1 ⟨y,H1,I1,ry,q⟩=>thn (ha pins s1 σ H1 _ I1 q) λ ov s2 ⟨x,H2,I2,rx,a,C,ex,ea,x0,n,q2⟩=>?_) hs;subst ex;obtain rfl:ov=fo a:=rx;obtain ⟨⟨ws,sl,he,t0,h1⟩,_⟩:=I2.hok a _ ea;have mu:Mut (H2 a):=by rw [ea];exact jq
 have nd:H2 s2.heap.objs.size=none:=I2.hok.fresh (be _);have na:s2.heap.objs.size≠a:=jm (cf he);refine Ex.set_exc (K:=X.K) x0 n I2.kIn he λ h' tk' g1 g2 g3=>⟨σ,_,?_,q2 s2.heap.objs.size nd na⟩;refine I2.un (t':=tk') (Un.two mu (be _) nd g3 ⟨_,g1⟩) (HOk.two I2.hok mu (be _) g3 ?_ (XO.ok ⟨_,_,g1,t0,h1⟩));refine ⟨_,g2,λ g=>?_⟩;show RelO (Bn g [(f,y)]) (if g=f then some u else none);by_cases e:g=f
 ·subst e
  rw [if_pos rfl,List.lookup_cons_self];exact ry
 ·rw [if_neg e]
  have:(g == f)=false:=by simpa using e
  simp only [Bn,this]
  trivial
end
def XAt (H:Hp) (a C:ah) (dx:Option ah) (t1:af):Prop:=H a=some (.ext (XO a C dx t1))/\∀ d,dx=some d->∃ fs,H d=some (.xd fs)
def kNM (K:au) (ta:TE) (f:Str):TE:=λ σ H Q=>ta σ H λ x H1=>∃ a C d t1 fs v,x=.ref a/\H1 a=some (.ext (XO a C (some d) t1))/\H1 d=some (.xd fs)/\Ex.XK0 K C/\gx K (.ref C) f=some none/\fs.lookup f=some v/\Q v H1
section
variable {X:Cx} {pins:List (ah×Obj)} {σ:St} {H:Hp} {s:ak} {e:iQ} {f:Str} {pos:Pos} {ta:TE}
theorem XAt.inst (I:Inv X pins σ H s) {a C:ah} {dx:Option ah} {t1:af} (x:XAt H a C dx t1):∃ ox od,Dr s.heap a ox C od:=by
 obtain ⟨⟨ws,sl,he,_⟩,_⟩:=I.hok a _ x.1
 cases dx with
 | none=>exact ⟨_,none,he,rfl,rfl,trivial⟩
 | some d =>
  obtain ⟨fs,hd⟩:=x.2 d rfl;obtain ⟨mA,⟨o,es,ep,e,_⟩,_⟩:=I.hok d _ hd;exact ⟨_,some o,he,rfl,rfl,e⟩
theorem kIS (he:PE X e ta) (hb:attributeBase e f X.env (eval e X.env)=eval e X.env):PE X (.Attribute e f pos) (kNM X.K ta f):=by
 intro pins s σ H Q I h;refine kJW hb (thn (he pins s σ H _ I h) λ u s1 ⟨x,H1,I1,rx,a,C,d,t1,fs,v,ex,ea,ed,x0,n,l,q⟩=>?_);subst ex;obtain rfl:u=fo a:=rx;obtain ⟨⟨ws,sl,hx,_⟩,_⟩:=I1.hok a _ ea;obtain ⟨mA,ns,hm⟩:=I1.hok d _ ed;obtain ⟨od,ho,hl⟩:=nA ns;obtain ⟨u,hu,ru⟩:=RelO.some_of (v:=v) (o:=mA f) (by rw [<-l];exact hm f);obtain ⟨cd,hc,hd,_⟩:=x0.cd;have hdi:Aj X.K C=true:=by unfold Aj;rw [hc];exact hd
 exact Ex.get_exc x0 I1.kIn (ox:=⟨.ref C,some d,.fields ws,sl⟩) (od:=some od) ⟨hx,rfl,rfl,ho⟩ (PySem.W.findObj_own hdi n rfl (by rw [hl,hu])) (kEG ru) ⟨v,H1,I1.tok _,ru,q⟩
theorem qG:xW X (.builtin "isinstance") (λ xs H Q=>∃ a C dx t1 y u b,xs=[.ref a,y]/\RelV y u/\(∀ u',RelV y u'->u'=u)/\XAt H a C dx t1/\Ex.XK0 X.K C/\xu X.K (.ref C) u=some b/\Q (.bl b) H):=by
 intro pins s σ H xs us Q I r h;obtain ⟨a,C,dx,t1,y,u,b,rfl,ry,uy,xa,x0,e,q⟩:=h;obtain ⟨u1,u2,rfl,r1,r2⟩:=mN r;cases r1
 obtain rfl:=uy _ r2;obtain ⟨ox,od,J⟩:=xa.inst I;exact ja (Ex.kitx_exc x0) I.kIn J e (λ z=>nomatch z) λ tk=>⟨.bl b,H,I.tok _,rfl,q⟩
theorem kBH:xW X (.builtin "isinstance") (λ xs H Q=>∃ a C dx t1 tp ys us b,xs=[.ref a,.ref tp]/\H tp=some (.tup ys)/\Vals ys us/\(∀ us',Vals ys us'->us'=us)/\XAt H a C dx t1/\Ex.XK0 X.K C/\yh X.K (.ref C) us=some b/\Q (.bl b) H):=by
 intro pins s σ H xs us Q I r h;obtain ⟨a,C,dx,t1,tp,ys,us,b,rfl,ht,vy,uy,xa,x0,e,q⟩:=h;obtain ⟨u1,u2,rfl,r1,r2⟩:=mN r;cases r1
 cases r2
 obtain ⟨ox,od,J⟩:=xa.inst I;obtain ⟨_,its,rv,o,ho,hc,n,hd,hdd⟩:=I.hok tp _ ht;obtain rfl:=uy _ rv;obtain ⟨oc,odi,oda,osl⟩:=o;dsimp only at hc hd hdd;subst hc hd hdd;exact PySem.W.kia_tup (Ex.kitx_exc x0) I.kIn J ho e (λ z=>nomatch z) λ tk=>⟨.bl b,H,I.tok _,rfl,q⟩
end
abbrev tr2 (H:Hp) (a C:ah) (dx:Option ah) (T:ah):Hp:=upd (upd H T (.ext (TrB T))) a (.ext (XO a C dx (.ref T)))
section
variable {P:eU} {w:gk} {H H1 H2:Hp} {h h1 h2 h':gw} {a C T:ah} {dx:Option ah} {t1:af} {l:List Env} {fs fs':List ah}
theorem Un.transL (x:Un fs [] H H1 h h1) (y:Un fs' [] H1 H2 h1 h2) (hs:∀ b o,h.get? b=some o->b∈fs'->b∈fs):Un fs [] H H2 h h2 where
 keep:=λ c ob q n hc hx=>y.keep c ob (x.keep c ob q n hc hx) (x.free c ob q n hx) (λ z=>hc (hs c ob q z)) hx
 slot:=λ c ob q n hc hx=>by
  obtain ⟨sl,e1⟩:=x.slot c ob q n hc hx;obtain ⟨sl',e2⟩:=y.any e1 (x.free c ob q n hx) hx;exact ⟨sl',e2⟩
 free:=λ c ob q n hx=>by
  obtain ⟨o',e1⟩:=x.there c ob q hx;exact y.free c o' e1 (x.free c ob q n hx) hx
 there:=λ c ob q hx=>by
  obtain ⟨o',e1⟩:=x.there c ob q hx;exact y.there c o' e1 hx
 tups:=λ c xs q=>y.tups c xs (x.tups c xs q)
 frzs:=λ c ob xs q=>y.frzs c ob xs (x.frzs c ob xs q)
 tbls:=λ c ps q=>by
  obtain ⟨m1,e1⟩:=x.tbls c ps q;obtain ⟨m2,e2⟩:=y.tbls c _ e1;exact ⟨m1++m2,by rw [e2,AH]⟩
theorem aft (ok:HOk P w H h) (ea:H a=some (.ext (XO a C dx t1))) (fr:∀ b∈frs l,H b=none) {vs:Array af} {sl:Array (Option af)} {t0:ah} (h0:vs[0]?=some (.ref t0)) (hv1:vs[1]?=some t1)
  (A:Ex.Aft l a T ⟨.ref C,dx,.fields vs,sl⟩ h h'):H T=none/\T≠a/\Un (frs l) [] H (tr2 H a C dx T) h h'/\HOk P w (tr2 H a C dx T) h':=by
 have nT:H T=none:=ok.fresh A.n;have na:T≠a:=λ z=>by subst z;rw [nT] at ea;cases ea
 have mu:Mut (H a):=by rw [ea];exact jq
 have nown:∀ c y,H c=some (.own y)->c≠a:=λ c y r z=>by subst z;rw [r] at mu;exact mu
 have hx:∀ b,H b=none->b≠a:=λ b n z=>by subst z;rw [n] at mu;exact mu
 have hm:∀ b u,H b=some u->¬ Mut (some u)->b≠a:=λ b u q nm z=>by subst z;rw [q] at mu;exact nm mu
 have nfr:∀ b u,H b=some u->b∉frs l:=λ b u q z=>by rw [fr b z] at q;cases q
 unfold tr2;refine ⟨nT,na,⟨λ b u q n nf _=>A.k b u (hx b n) nf q,λ b u q n _ _=>A.f b u (hx b n) q,λ b u q n _=>?_,λ b u q _=>?_,λ b xs q=>?_,λ b u xs q=>?_,λ b ps q=>⟨#[],?_⟩⟩,λ b u q=>?_⟩
 ·rw [kH (hx b n),kH (eM (cn (cf q) A.n))];exact n
 ·by_cases hb:b=a
  ·subst hb;exact ⟨_,A.e⟩
  ·obtain ⟨sl,z⟩:=A.f b u hb q
   exact ⟨_,z⟩
 ·rw [kH (hm b _ q λ z=>z),kH (kF q nT)];exact q
 ·rw [kH (hm b _ q λ z=>z),kH (kF q nT)];exact q
 ·rw [kH (hm b _ q λ z=>z),kH (kF q nT),q];simp
 ·by_cases hb:b=a
  ·subst hb
   rw [kC] at q;cases q
   refine XO.ok ⟨_,_,A.e,⟨t0,?_⟩,?_⟩
   ·rw [yj (by decide)];exact h0
   ·rw [kh,if_pos rfl,if_pos (iH.mp hv1).1]
  ·rw [kH hb] at q
   by_cases hbT:b=T
   ·subst hbT
    rw [kC] at q;cases q
    obtain ⟨oT,ts,e1,e2,e3⟩:=A.t;exact TrB.ok ⟨oT,ts,e1,e2,e3⟩
   ·rw [kH hbT] at q
    refine (ok b u q).stay (λ c v hc r=>?_) (λ c r=>by rw [kH (nown c b r),kH (kF r nT)];exact r) λ c xs r=>by rw [kH (hm c _ r λ z=>z),kH (kF r nT)];exact r
    rcases hc with rfl | hc
    ·exact A.k c v hb (nfr c _ q) r
    ·exact A.k c v (nown c b hc) (nfr c _ hc) r
end
section
variable {X:Cx} {pins:List (ah×Obj)} {σ:St} {H:Hp} {s:ak} {a C:ah} {dx:Option ah} {t1:af}
theorem kCC {M:tw} {Q:Unit->ak->Prop} {E:af->ak->Prop} (I:Inv X pins σ H s) (hst:X.stack=X.env::X.outer) (hf:X.env.frame=some X.env.locals) (ea:H a=some (.ext (XO a C dx t1)))
  (ht:t1=.none\/∃ T,t1=.ref T/\T≠a/\H T=some (.ext (TrB T)))
  (q:∀ T h',H T=none->T≠a->Un (frs X.stack) [] H (tr2 H a C dx T) s.heap h'->HOk X.prog X.w (tr2 H a C dx T) h'->Q () { s with heap:=h' }):de M X.A (noteFrame (.ref a) X.env) (λ _ s'=>de M X.A (setFlight (.ref a) none) Q E s') E s:=by
 obtain ⟨⟨vs,sl,he,⟨t0,h0⟩,h1⟩,_⟩:=I.hok a _ ea;have fr:=I.stkFree;have fun0:=I.stack;have frm:=I.ok.frames;rw [hst] at fr fun0 frm q;rcases ht with rfl | ⟨T0,rfl,nT,eT⟩
 ·refine Ex.leave1N frm fun0 hf he rfl h1 λ h' T A=>?_
  obtain ⟨z1,z2,z3,z4⟩:=aft I.hok ea fr h0 h1 A;exact q T h' z1 z2 z3 z4
 ·obtain ⟨⟨oT,ts,e1,e2,e3⟩,_⟩:=I.hok T0 _ eT
  refine Ex.leave2N frm fun0 hf he rfl h1 nT e1 e2 e3 λ g h' T g1 g2 g3 A=>?_;have mu:Mut (H T0):=by rw [eT];exact jq
  have kk:∀ b u,b≠T0->s.heap.get? b=some u->g.get? b=some u:=λ b u nb e=>(g1 b nb).trans e;have tb:TrB T0 g:=⟨_,_,g2,ji e2 _,by rw [kh,if_pos rfl,if_pos (iH.mp e3).1]⟩
  have hok1:HOk X.prog X.w H g:=by
   have:=I.hok.write (x:=T0) (e:=T0) (o':=.ext (TrB T0)) mu (.inl rfl) kk ⟨_,g2⟩ (TrB.ok tb);rw [aZ eT] at this;exact this
  have un1:Un (frs (X.env::X.outer)) [] H H s.heap g:=by
   have:=Un.write (fs:=frs (X.env::X.outer)) (ex:=[]) (o:=.ext (TrB T0)) mu (.inl rfl) kk ⟨_,g2⟩;rw [aZ eT] at this;exact this
  obtain ⟨z1,z2,z3,z4⟩:=aft hok1 ea fr h0 h1 A;exact q T h' z1 z2 (un1.trans z3) z4
theorem kGO {M:tw} {Q:Unit->ak->Prop} {E:af->ak->Prop} (I:Inv X pins σ H s) (hst:X.stack=X.env::X.outer) (hf:X.env.frame=some X.env.locals) (ea:H a=some (.ext (XO a C dx t1)))
  (ht:t1=.none\/∃ T,t1=.ref T/\T≠a/\H T=some (.ext (TrB T)))
  (q:∀ T h',H T=none->T≠a->Un (frs X.stack) [] H (tr2 H a C dx T) s.heap h'->HOk X.prog X.w (tr2 H a C dx T) h'->Q () { s with heap:=h' }):de M X.A (leaving X.env (.ref a)) Q E s:=by
 unfold leaving;exact ae (kCC I hst hf ea ht q)
end
def CXo (P:eU) (w:gk):CXT:=λ outer H s E e s'=>∃ a C dx T H',e=.ref a/\s'.os=s.os/\AD s'.gens/\Un (frs outer) [] H H' s.heap s'.heap/\HOk P w H' s'.heap /\
 XAt H' a C dx (.ref T)/\T≠a/\H' T=some (.ext (TrB T))/\E (.ref C) dx H'
def kLI (K:au) (te:TE) (E:XK):TS:=λ _ σ H=>te σ H λ x H1=>∃ a C dx,x=.ref a/\XAt H1 a C dx .none/\Ex.XK0 K C/\∀ T,H1 T=none->T≠a->E (.ref C) dx (tr2 H1 a C dx T)
section
variable {X:Cx} {m:iQ} {te:TE} {pos:Pos} {E:XK}
theorem kFY (hm:PE X m te) (hc:X.calm=true) (hst:X.stack=X.env::X.outer) (hf:X.env.frame=some X.env.locals) (hex:X.ex=[])
  (hx:X.xe=λ e s'=>de (model X.prog X.w) X.A (leaving X.env e) (λ _ s''=>CXo X.prog X.w X.outer X.H₀ X.s₀ E e s'') (λ e' s''=>CXo X.prog X.w X.outer X.H₀ X.s₀ E e' s'') s') :
  PS X (.Raise (some m) none pos) (kLI X.K te E):=by
 intro pins s σ H D I h;rw [arm_exec_Raise];refine ae (pf (Ex.raise_exc (K:=X.K) (I.ok.hd hc) ?_))
 have step:de (model X.prog X.w) X.A (eval m X.env) (λ u s1=>∃ e C od vs sl,u=.ref e/\Ex.XK0 X.K C/\X.K.In s1.heap/\s1.heap.get? e=some ⟨.ref C,od,.fields vs,sl⟩/\vs[1]?=some .none/\X.xe (.ref e) s1) X.xe s:=by
  refine thn (hm pins s σ H _ I h) λ u s1 ⟨x,H1,I1,rx,a,C,dx,ex,xa,x0,q⟩=>?_;subst ex;obtain rfl:u=fo a:=rx;obtain ⟨⟨vs,sl,he,t0,h1⟩,_⟩:=I1.hok a _ xa.1;refine ⟨a,C,dx,vs,sl,rfl,x0,I1.kIn,he,h1,?_⟩;rw [hx];refine kGO I1 hst hf xa.1 (.inl rfl) λ T h' nT na un hok=>?_;refine ⟨a,C,dx,T,_,rfl,I1.os,I1.bare,?_,hok,⟨kC,λ d e=>?_⟩,na,?_,q T nT na⟩
  ·have b0:=I1.base
   rw [hex] at b0;refine b0.transL un λ b o e hb=>?_;rcases gv.mp (I1.stkSub b hb) with z | z
   ·subst z
    exact absurd (cn (cf e) I1.ok.above) (jj _)
   ·exact z
  ·obtain ⟨fs,z⟩:=xa.2 d e
   refine ⟨fs,?_⟩;have n1:d≠a:=λ y=>by subst y;rw [xa.1] at z;cases z
   unfold tr2;rw [kH n1,kH (kF z nT)];exact z
  ·unfold tr2
   rw [kH na,kC]
 first
  | exact step
  | exact ae (lj step (λ v s₃ h₃=>ae (pf (av h₃))) λ _ _ x=>x)
  | (simp only [evalOpt,EG];exact step)
end
section
variable {X:Cx} {pins:List (ah×Obj)} {σ:St} {H:Hp} {s:ak} {a C:ah} {dx:Option ah} {t1:af}
theorem fW {M:tw} {A:eV} {E:af->ak->Prop} {i:Nat} {x:Str} {pos:Pos} {Q:Unit->ak->Prop} (I:Inv X pins σ H s) (hN:X.N.Nodup) (hi:X.N[i]?=some x) (hk:X.env.scope.names.lookup x=some .local)
  (h:∀ s',Inv X pins (σ.set i none) H s'->Q () s'):de M A (do bindName X.env x .none;unbindBehindTheSuite X.env x pos) Q E s:=by
 obtain ⟨m,hn,hl⟩:=id I.loc;have hcls:(X.env.scope.kind == .class || (X.env.scope.kind == .module && X.env.locals != X.env.globals))=false:=by rw [I.ok.kind];rfl
 have hiσ:i<σ.length:=by rw [I.len];exact (ag.mp hi).1
 refine wpAny_nameGoes_keeps hk hn hcls λ h' v hn' hs=>?_;have neL:∀ b o,X.s₀.heap.get? b=some o->b≠X.env.locals:=λ b o e=>eM (cn (cf e) I.ok.above);refine h _ ⟨I.ok,I.os,I.bare,⟨λ b o e n hb hx=>(hs.2 b (neL b o e)).trans (I.base.keep b o e n hb hx),λ b o e n hb hx=>?_,I.base.free,λ b o e hx=>?_,I.base.tups,I.base.frzs,I.base.tbls⟩,⟨_,hn',λ j y v' e1 e2 e3=>?_⟩,λ y c e=>?_,I.free,I.freeC,λ p hp=>?_,λ b ob e=>?_,by simpa using I.len⟩
 ·obtain ⟨sl,e1⟩:=I.base.slot b o e n hb hx
  exact ⟨sl,(hs.2 b (neL b o e)).trans e1⟩
 ·obtain ⟨o',e1⟩:=I.base.there b o e hx
  exact ⟨o',(hs.2 b (neL b o e)).trans e1⟩
 ·by_cases hj:j=i
  ·subst hj
   rw [fz hiσ] at e2;cases e2
  ·rw [di (og hj)] at e2
   obtain ⟨u',r',q⟩:=hl j y v' e1 e2 e3;refine ⟨u',r',?_⟩;rcases q with ⟨k,e⟩ | ⟨k,c,e,z⟩
   ·refine .inl ⟨k,?_⟩
    have ny:y≠x:=λ e=>hj (lD hN e1 (e ▸ hi));show (if y=x then v else m y)=_;rw [if_neg ny];exact e
   ·exact .inr ⟨k,c,e,z.sameBut hs (I.cne y c e)⟩
 ·obtain ⟨w',z⟩:=I.cell y c e
  exact ⟨w',z.sameBut hs (I.cne y c e)⟩
 ·obtain ⟨e,n,ne,nf,d⟩:=I.pin p hp
  exact ⟨(hs.2 p.1 ne).trans e,n,ne,nf,d⟩
 ·have fr:=I.free
  refine (I.hok b ob e).stay (λ c w' hc q=>(hs.2 c ?_).trans q) (λ _ q=>q) λ _ _ q=>q;rintro rfl;rcases hc with rfl | hc
  ·rw [fr] at e;cases e
  ·rw [fr] at hc;cases hc
def Cx.hand (X:Cx) (a:ah):Cx:={ X with A:=X.A.mark (some (.ref a)),calm:=false,xe:=λ _ _=>False }
theorem mark_frames {A:eV} {v:Option af}:(A.mark v).frames=A.frames:=by first | rfl | simp [Around.mark]
theorem Inv.hand (I:Inv X pins σ H s) (a:ah):Inv (X.hand a) pins σ H s :=
 ⟨⟨I.ok.mod,I.ok.kind,I.ok.glob,I.ok.blt,I.ok.above,I.ok.inj,I.ok.has,I.ok.cab,(λ z=>nomatch z),mark_frames.trans I.ok.frames,I.ok.stk,I.ok.exf,I.ok.bs,I.ok.bsz,I.ok.noex,I.ok.exfs,I.ok.funs,I.ok.frf⟩,I.os,I.bare,I.base,I.loc,I.cell,I.free,I.freeC,I.pin,I.hok,I.len⟩
theorem Inv.unhand (ok:X.Ok) (I:Inv (X.hand a) pins σ H s):Inv X pins σ H s:=⟨ok,I.os,I.bare,I.base,I.loc,I.cell,I.free,I.freeC,I.pin,I.hok,I.len⟩
def Cx.tried (X:Cx) (pins:List (ah×Obj)) (E:af->ak->Prop):Cx:={ X with xe:=E,pn:=X.pn++pins }
theorem Inv.tried (I:Inv X pins σ H s) (E:af->ak->Prop):Inv (X.tried pins E) [] σ H s :=
 ⟨⟨I.ok.mod,I.ok.kind,I.ok.glob,I.ok.blt,I.ok.above,I.ok.inj,I.ok.has,I.ok.cab,I.ok.hd,I.ok.frames,I.ok.stk,I.ok.exf,I.ok.bs,I.ok.bsz,I.ok.noex,I.ok.exfs,I.ok.funs,I.ok.frf⟩,I.os,I.bare,I.base,I.loc,I.cell,I.free,I.freeC,λ p hp=>I.pin p (by simpa [Cx.tried] using hp),I.hok,I.len⟩
theorem Inv.untried {E:af->ak->Prop} {pins':List (ah×Obj)} (ok:X.Ok) (I:Inv (X.tried pins E) pins' σ H s):Inv X pins σ H s :=
 ⟨ok,I.os,I.bare,I.base,I.loc,I.cell,I.free,I.freeC,λ p hp=>I.pin p (iJ _ hp),I.hok,I.len⟩
def kNL (X:Cx) (pins:List (ah×Obj)) (n:Nat) (E:XK) (e:af) (s':ak):Prop:=∃ a C dx T σ' H',e=.ref a/\Inv X pins σ' H' s'/\XAt H' a C dx (.ref T)/\T≠a/\H' T=some (.ext (TrB T))/\E (.ref C) dx H'
theorem kAG (ok:X.Ok) (E:XK) {n:Nat}:dS (CXo X.prog X.w) (X.tried pins (kNL X pins n E)) E:=by
 intro pins' σ H s e s' I h;obtain ⟨a,C,dx,T,H',rfl,os,bare,un,hok,xa,na,hT,q⟩:=h;have I0:Inv X pins σ H s:=I.untried ok;exact ⟨a,C,dx,T,σ,H',rfl,I0.call' os un hok bare (λ b z=>absurd z (by simp)),xa,na,hT,q⟩
end
def kPN (K:au) (D:ah) (i:Nat) (tb th:TS) (E:XK):TS:=λ Z σ H=>tb Z σ H/\∀ (σ':St) (H':Hp) (a C:ah) (dx:Option ah) (T:ah),σ'.length=σ.length->E (.ref C) dx H'->XAt H' a C dx (.ref T)->H' T=some (.ext (TrB T)) ->
 Ex.XK0 K C/\md K C (.ref D)=some true/\∀ T',H' T'=none->T'≠a ->
  th { nx:=λ σ2 H2=>Z.nx (σ2.set i none) H2,rt:=Z.rt,bk:=λ σ2 H2=>Z.bk (σ2.set i none) H2,ct:=λ σ2 H2=>Z.ct (σ2.set i none) H2 } (σ'.set i (some (.ref a))) (tr2 H' a C dx T')
section
variable {X:Cx} {body hs:List jw} {b₀:jw} {tb th:TS} {D:ah} {d n:Str} {np hpos pos:Pos} {i:Nat} {E:XK}
theorem kLQ (hN:X.N.Nodup) (hi:X.N[i]?=some n) (hk:X.env.scope.names.lookup n=some .local) (hg:Gl X d) (hm:X.mg d=some (.ref D)) (G:Ex.XK0 X.K D) (ht:Br X.K (.ref D) (.type "tuple")=some false)
  (hst:X.stack=X.env::X.outer) (hf:X.env.frame=some X.env.locals)
  (hbody:∀ pins E',dS (CXo X.prog X.w) (X.tried pins E') E->PSs (X.tried pins E') body tb) (hh:∀ a,PSs (X.hand a) (b₀::hs) th) (hdb:(d == ("__debug__" : Str))=false:=by decide) :
  PS X (.Try body [.ExceptHandler (some (.Name d np)) (some n) (b₀::hs) hpos] [] [] pos) (kPN X.K D i tb th E):=by
 intro pins s σ H Z I h;have ok:=I.ok;refine wpAny_Try_except ?_;refine lj (hbody pins _ (kAG ok E (n:=σ.length)) [] s σ H Z (I.tried _) h.1) (λ f s1 h1=>?_) λ e s1 h1=>?_
 ·cases f with
  | next =>
   obtain ⟨σ',H',I',q⟩:=h1;exact wy ⟨σ',H',I'.untried ok,q⟩
  | brk=>obtain ⟨σ',H',I',q⟩:=h1;exact ⟨σ',H',I'.untried ok,q⟩
  | cont=>obtain ⟨σ',H',I',q⟩:=h1;exact ⟨σ',H',I'.untried ok,q⟩
  | ret u=>obtain ⟨v,σ',H',I',r,q⟩:=h1;exact ⟨v,σ',H',I'.untried ok,r,q⟩
 ·obtain ⟨a,C,dx,T,σ',H',rfl,I1,xa,na,hT,q⟩:=h1
  obtain ⟨x0,mr,hq⟩:=h.2 σ' H' a C dx T (by rw [I1.len,I.len]) q xa hT;refine kCC I1 hst hf xa.1 (.inr ⟨T,rfl,na,hT⟩) λ T' h' nT' na' un hok=>?_;have I2:Inv X pins σ' (tr2 H' a C dx T') { s1 with heap:=h' }:=I1.call' rfl un hok I1.bare λ b z=>absurd z (by simp)
  have xa2:XAt (tr2 H' a C dx T') a C dx (.ref T'):=by
   refine ⟨kC,λ d e=>?_⟩;obtain ⟨fs,z⟩:=xa.2 d e;refine ⟨fs,?_⟩;have n1:d≠a:=λ y=>by subst y;rw [xa.1] at z;cases z
   unfold tr2;rw [kH n1,kH (kF z nT')];exact z
  have eT:tr2 H' a C dx T' T'=some (.ext (TrB T')):=by unfold tr2;rw [kH na',kC]
  have I3:=I2.hand a;refine wpAny_handleBy_cons (codeAny_handlers_test (aJ (X:=X.hand a) I3 hg hm ?_ hdb)) (by intro z;cases z);obtain ⟨ox,od,J⟩:=xa2.inst I2;refine Ex.match_exc (K:=X.K) x0 G I2.kIn J mr ht G.bx ?_;refine codeAny_handlers_suite_as ?_;obtain ⟨⟨ws,sl,he,_,w1⟩,_⟩:=I2.hok a _ xa2.1;obtain ⟨⟨oT,ts,g1,g2,g3⟩,_⟩:=I2.hok T' _ eT;refine wpAny_setFlight_none he rfl w1 g1 g2 (iH.mp g3).1 ?_
  have I4:Inv (X.hand a) pins σ' (tr2 H' a C dx T') { s1 with heap:=h'.update T' (tm (·.setIfInBounds 3 .none)) }:=by
   have gs:(h'.update T' (tm (·.setIfInBounds 3 .none))).get? T'=some (oT.mapFields (·.setIfInBounds 3 .none)):=iI _ g1 (lg (ji g2 _))
   have:=I3.write (h':=h'.update T' (tm (·.setIfInBounds 3 .none))) (t':=s1.toks) (x:=T') (e:=T') (o:=.ext (TrB T')) (by rw [eT];exact jq) (.inl rfl) (λ b u nb e=>(ie _ _ (og nb)).trans e) ⟨_,gs⟩
    (TrB.ok ⟨_,_,gs,ji g2 _,by rw [kh,if_pos rfl,if_pos (iH.mp g3).1]⟩)
   rw [aZ eT] at this;exact this
  refine uE (X:=X.hand a) (v:=.ref a) (i:=i) I4 hN hi (.inl hk) rfl (λ s5 I5=>?_) (.inr hk);refine lj (hh a pins s5 _ _ _ I5 (hq T' nT' na')) (λ f s6 h6=>?_) λ _ _ z=>z.elim
  cases f with
  | next =>
   obtain ⟨σ7,H7,I7,q7⟩:=h6;exact fW (I7.unhand ok) hN hi hk λ s8 I8=>⟨_,H7,I8,q7⟩
  | brk =>
   obtain ⟨σ7,H7,I7,q7⟩:=h6;exact fW (I7.unhand ok) hN hi hk λ s8 I8=>⟨_,H7,I8,q7⟩
  | cont =>
   obtain ⟨σ7,H7,I7,q7⟩:=h6;exact fW (I7.unhand ok) hN hi hk λ s8 I8=>⟨_,H7,I8,q7⟩
  | ret u =>
   obtain ⟨v,σ7,H7,I7,r7,q7⟩:=h6;exact fW (I7.unhand ok) hN hi hk λ s8 I8=>⟨v,_,H7,I8,r7,q7⟩
end
structure RoomN (k:Nat) (A:eV):Prop where
 dp:A.depth+3*k+5<recursionLimit
 un:A.units+16*k+200<cLine
 gd:A.guards=some []
theorem Room.n {k:Nat} {A:eV} (r:Room k A):RoomN k A:=⟨r.dp,r.un,r.gd⟩
theorem RoomN.mono {j k:Nat} {A:eV} (r:RoomN k A) (h:j<=k):RoomN j A:=⟨by have:=r.dp;omega,by have:=r.un;omega,r.gd⟩
theorem RoomN.deeper {k:Nat} {A:eV} (r:RoomN (k+1) A) (env:Env):RoomN k (A.deeper env) :=
 ⟨by have:=r.dp;show A.depth+1+3*k+5<_;omega,by have:=r.un;show A.units+3+16*k+200<_;omega,r.gd⟩
theorem RoomN.mark {k:Nat} {A:eV} (r:RoomN k A) (v:Option af):RoomN k (A.mark v):=⟨r.dp,r.un,r.gd⟩
theorem RoomN.depth {k:Nat} {A:eV} (r:RoomN k A):A.depth<recursionLimit:=by have:=r.dp;omega
structure FnN (P:eU) (w:gk) (K:au) (mg:Str->Option af) (base:gw) (k:Nat) (f:ah) (fd:eO) (ps:List Str) (sp:Sp):Prop where
 len:∀ vs H Q E,sp vs H Q E->vs.length=ps.length
 run:∀ (A:eV) (outer:List Env) (s:ak) (H:Hp) (args:Args) (us:List af) (vs:List V) (Q:VK) (E:XK),RoomN k A->Env0 P w K mg base A outer s H->Bu s fd args (ps.zip us)->Vals vs us->sp vs H Q E ->
  codeAny (model P w) A (.call (.ref f) args) (CR CX0 outer P w H s Q E) s
section
variable {X:Cx} {k:Nat} {f:ah} {fd:eO} {ps:List Str} {sp:Sp} {x:Str} {p pos:Pos} {e:iQ} {es:List iQ} {t:TA}
theorem kIG {pins:List (ah×Obj)} {σ:St} {H:Hp} {s:ak} {Q:VK} {us:List af} {vs:List V} (F:FnN X.prog X.w X.K X.mg X.base k f fd ps sp) (hr:RoomN k X.A) (hb:Binds X.K fd ps [])
  (I:Inv X pins σ H s) (r:Vals vs us) (h:sp vs H Q E0):de (model X.prog X.w) X.A (call (.ref f) us) (EP X pins σ Q) X.xe s:=by
 have hl:(us++[]).length=ps.length:=by rw [ir,<-r.length];exact F.len _ _ _ _ h
 have bb:=hb s us I.kIn hl;rw [ir] at bb;refine yp (xv (F.run X.A X.stack s H ⟨us,[]⟩ us vs Q E0 hr I.env0 bb r h) λ r s' hq=>?_)
 cases r with
 | error e=>exact hq.elim
 | ok fl =>
  cases fl with
  | ret u=>exact I.after hq
  | next=>exact jh hq
  | brk=>exact jh hq
  | cont=>exact jh hq
def kHT (P:eU) (w:gk) (K:au) (mg:Str->Option af) (base:gw) (x:Str) (ps:List Str) (k:Nat) (sp:Sp):Prop :=
 ∃ (f:ah) (fd:eO),FnN P w K mg base k f fd ps sp/\Binds K fd ps []/\bj K (.ref f)=true/\mg x=some (.ref f)
theorem kBW (h:kHT X.prog X.w X.K X.mg X.base x ps k sp) (hr:RoomN k X.A) (hg:Gl X x)
  (ha:PA X (e::es) t) (hdb:(x == ("__debug__" : Str))=false:=by decide) (he:starEach (e::es) X.env=(false,eval e X.env)::starEach es X.env:=by rfl) (hpl:(backTo pos (starEach es X.env)).any (·.1)=false:=by rfl) :
  PE X (.Call (.Name x p) (e::es) [] pos) (mR sp [] E0 t):=by
 obtain ⟨f,fd,F,b,kp,m⟩:=h;intro pins s σ H Q I h;refine ug (aJ I hg m ?_ hdb);refine xg (h₀:=X.base) I.ok.mod.kin kp (thn (ha pos pins s σ H _ I h) λ us s1 ⟨vs,H1,I1,r,q⟩=>⟨I1.kIn,?_⟩) he hpl;have q':sp (vs++[]) H1 Q E0:=q;rw [ir] at q';exact kIG F hr b I1 r q'
end
def cxN (P:eU) (w:gk) (K:au) (mg:Str->Option af) (base:gw) (N:List Str) (qual:Str) (scope:ua) (f:ah) (cd:af) (A:eV) (outer:List Env) (s:ak) (H:Hp):Cx :=
 { sX CX0 P w K mg base N qual scope f cd A outer s H E0 with calm:=false,xe:=λ _ _=>False }
theorem kAZ {P:eU} {w:gk} {K:au} {mg:Str->Option af} {base:gw} {N ps:List Str} {qual:Str} {scope:ua} {f:ah} {cd:af} {A:eV} {outer:List Env} {s s1:ak} {H:Hp} {us:List af} {vs:List V}
  (S:FnScope N ps scope) (e0:Env0 P w K mg base A outer s H) (hl:vs.length=ps.length) (r:Vals vs us)
  (x:InCallC s s.heap.objs.size (bindL (envOfC qual scope s.heap.objs.size f cd).kindOf (ps.zip us) λ _=>none) (cellsFrom (s.heap.objs.size+1) scope.names []) (bindC (envOfC qual scope s.heap.objs.size f cd).kindOf (ps.zip us) λ _=>none) s1) :
  Inv (cxN P w K mg base N qual scope f cd A outer s H) [] (start N vs) H s1:=by
 have e1:Env0 P w K mg base { A with handled:=none } outer s H:=⟨e0.frames,e0.mod,e0.bs,e0.bsz,e0.funs,e0.frf,e0.hok,e0.bare⟩
 have I:=nI (CX:=CX0) (E:=E0) (f:=f) (cd:=cd) (qual:=qual) (A:={ A with handled:=none }) S rfl e1 hl r x
 exact ⟨⟨I.ok.mod,I.ok.kind,I.ok.glob,I.ok.blt,I.ok.above,I.ok.inj,I.ok.has,I.ok.cab,(λ z=>nomatch z),Bk e0.frames,I.ok.stk,I.ok.exf,I.ok.bs,I.ok.bsz,I.ok.noex,I.ok.exfs,I.ok.funs,I.ok.frf⟩,I.os,I.bare,I.base,I.loc,I.cell,I.free,I.freeC,I.pin,I.hok,I.len⟩
theorem kMU {P:eU} {w:gk} {K:au} {mg:Str->Option af} {base:gw} {k:Nat} {f:ah} {name qual:Str} {params:FB} {body:List jw} {scope:ua} {dV kV doc pm cdv ct oc:af} {an od:Option ah}
  {osl:Array (Option af)} {N ps:List Str} {sp:Sp} (lk:K.lookup f=some ⟨oc,od,.func (cx name qual params body scope dV kV doc pm an cdv ct),osl⟩) (hcd:cq K cdv qual=true) (S:FnScope N ps scope)
  (len:∀ vs H Q E,sp vs H Q E->vs.length=ps.length)
  (hbody:∀ (A:eV) (outer:List Env) (s:ak) (H:Hp) (vs:List V) (Q:VK) (E:XK),RoomN k (A.deeper (envOfC qual scope s.heap.objs.size f cdv))->sp vs H Q E ->
   ∃ t,PSs (cxN P w K mg base N qual scope f cdv A outer s H) body t/\t { nx:=λ _ H'=>Q .non H',rt:=Q } (start N vs) H) :
  FnN P w K mg base (k+1) f (cx name qual params body scope dV kV doc pm an cdv ct) ps sp:=by
 refine ⟨len,λ A outer s H args us vs Q E hr e0 hb r hsp=>?_⟩;have hl:=len _ _ _ _ hsp;have KX:K.In s.heap:=e0.mod.kin.keeps λ b o e=>(e0.bs b o e).1;have lim:s.heap.NoLimit:=e0.mod.nolimit.keeps λ b o e=>(e0.bs b o e).1
 have hkind:∀ y∈ps.zip us,scope.names.lookup y.1=some .local\/(scope.names.lookup y.1=some .cell/\((cellsFrom (s.heap.objs.size+1) scope.names []).lookup y.1).isSome=true):=λ ⟨n,v⟩ hy=>by
  rcases S.par n (zp hy).1 with q | q
  ·exact .inl q
  ·exact .inr ⟨q,xw _ _ _ (.inl q)⟩
 refine Bf hr.depth (KX _ _ lk) rfl S.co S.gen rfl (CO KX hcd) (hb _ _ _ _ ?_);refine AM S.kind hkind λ env he s1 x=>?_;subst he;refine ⟨lim.keeps x.toInCall.keep,codeAny_func ?_⟩;obtain ⟨t,ht,hq⟩:=hbody A outer s H vs Q E (hr.deeper _) hsp;have I:Inv (cxN P w K mg base N qual scope f cdv A outer s H) [] (start N vs) H s1:=kAZ S e0 hl r x;refine lj (ht [] s1 (start N vs) H _ I hq) (λ fl s' hs=>?_) λ e s' hs=>hs.elim
 have fin:∀ {σ':St} {H':Hp} {v:V} {u:af},Inv (cxN P w K mg base N qual scope f cdv A outer s H) [] σ' H' s'->RelV v u->Q v H'->CE outer P w H s Q u s' :=
  λ {σ' H' v u} J rv q=>⟨v,H',J.os,J.bare,J.base,J.hok,rv,q⟩
 cases fl with
 | ret u =>
  obtain ⟨v,σ',H',J,rv,q⟩:=hs;exact fin J rv q
 | next =>
  obtain ⟨σ',H',J,q⟩:=hs;exact fin (v:=V.non) (u:=jg) J rfl q
 | brk =>
  obtain ⟨_,_,_,q⟩:=hs;exact jh q
 | cont =>
  obtain ⟨_,_,_,q⟩:=hs;exact jh q
section
variable {P:eU} {w:gk} {K:au} {mg:Str->Option af} {base:gw}
theorem Fun.okN {x qual:Str} {st:jw} {f:ah} {fd:eO} {N ps:List Str} {k:Nat} {sp:Sp} (F:Fun K x qual st f fd) (S:FnScope N ps (kE st)) (len:∀ vs H Q E,sp vs H Q E->vs.length=ps.length)
  (hbody:∀ (cdv:af) (A:eV) (outer:List Env) (s:ak) (H:Hp) (vs:List V) (Q:VK) (E:XK),RoomN k (A.deeper (envOfC qual (kE st) s.heap.objs.size f cdv))->sp vs H Q E ->
   ∃ t,PSs (cxN P w K mg base N qual (kE st) f cdv A outer s H) (kR st) t/\t { nx:=λ _ H'=>Q .non H',rt:=Q } (start N vs) H):FnN P w K mg base (k+1) f fd ps sp:=by
 obtain ⟨oc,od,kV,doc,pm,an,cdv,ct,osl,rfl,lk,hcd⟩:=F.ex;exact kMU lk hcd S len λ A outer s H vs Q E hr hsp=>hbody cdv A outer s H vs Q E hr hsp
theorem Fun.okX {x qual:Str} {st:jw} {f:ah} {fd:eO} {N ps:List Str} {k:Nat} {sp:Sp} (F:Fun K x qual st f fd) (S:FnScope N ps (kE st)) (len:∀ vs H Q E,sp vs H Q E->vs.length=ps.length)
  (hbody:∀ (cdv:af) (A:eV) (outer:List Env) (s:ak) (H:Hp) (vs:List V) (Q:VK) (E:XK),Room k (A.deeper (envOfC qual (kE st) s.heap.objs.size f cdv))->sp vs H Q E ->
   ∃ t,PSs (sX (CXo P w) P w K mg base N qual (kE st) f cdv A outer s H E) (kR st) t/\t { nx:=λ _ H'=>Q .non H',rt:=Q } (start N vs) H):FnOk P w K mg base (CXo P w) (k+1) f fd ps sp:=by
 obtain ⟨oc,od,kV,doc,pm,an,cdv,ct,osl,rfl,lk,hcd⟩:=F.ex;exact kKL lk hcd S len λ A outer s H vs Q E hr hsp=>hbody cdv A outer s H vs Q E hr hsp
end
theorem gB:∀ {bs:List Bool} {its:List af},Vals (bs.map V.bl) its->its=bs.map qa
 | [],_,.nil=>rfl
 | b::bs,_,.cons r t=>by
  cases r
  rw [gB t]
  rfl
def eqT (v:af):Bool:=match v with | .bool b=>b | _=>false
theorem nR {bs:List Bool}:∀ y,y∈(bs.map qa).toArray->DL y (.bool true) (eqT y):=λ y hy=>by
 obtain ⟨b,_,rfl⟩:=gi.mp (DM.mp hy);intro prog w A E s Q q;refine Bl b true prog w E Q ?_
 cases b<;>exact q
theorem kEN (bs:List Bool):(bs.map qa).countP eqT=bs.countP id:=by
 rw [List.countP_map]
 rfl
def kIN:V->List V->Hp->VK->Prop:=λ x vs H Q=>∃ (l:ah) (bs:List Bool),x=.ref l/\vs=[.bl true]/\H l=some (.lst (bs.map V.bl))/\Q (.int (bs.countP id:Nat)) H
def kIM:V->List V->Hp->VK->Prop:=λ x vs H Q=>∃ (l:ah) (bs:List Bool) (j:Nat),x=.ref l/\vs=[.bl true]/\H l=some (.lst (bs.map V.bl))/\bs[j]?=some true/\(∀ m:Nat,m<j->bs[m]?=some false)/\Q (.int j) H
section
variable {X:Cx}
theorem kDX:MtM X "list.count" kIN:=by
 intro pins s σ H x vs v us Q I rx rv h;obtain ⟨l,bs,rfl,rfl,hH,q⟩:=h;cases rx
 obtain ⟨u,rfl,ru⟩:=rv.one;cases ru
 obtain ⟨z,its,m,r,hl,e⟩:=I.lstM hH;obtain rfl:=gB r;refine uh F.slot_list_count ⟨_,e,rfl⟩ F.entry_list_count (F.args_list_count_2 _ _) (MeetsSeq.list_count l (bs.map qa).toArray m (.bool true) eqT nR) ⟨e,?_⟩;refine ⟨.int (bs.countP id:Nat),H,I.tok _,⟨s.toks,?_⟩,q⟩;rw [List.toList_toArray,kEN]
theorem kDW:MtM X "list.index" kIM:=by
 intro pins s σ H x vs v us Q I rx rv h;obtain ⟨l,bs,j,rfl,rfl,hH,hj,hno,q⟩:=h;cases rx
 obtain ⟨u,rfl,ru⟩:=rv.one;cases ru
 obtain ⟨z,its,m,r,hl,e⟩:=I.lstM hH;obtain rfl:=gB r;have hjl:j<bs.length:=(ag.mp hj).1;have h1:j<(bs.map qa).toArray.size:=by rw [eN,aj];exact hjl
 have hs:(j:Int)<2 ^ 63-1:=by
  have:=aQ;rw [aj] at z;omega
 have at_:∀ (i:Nat) (hi:i<(bs.map qa).toArray.size) (b:Bool),bs[i]?=some b->eqT (bs.map qa).toArray[i]=b:=λ i hi b e=>by
  obtain ⟨h2,e2⟩:=ag.mp e;simp [eqT,e2]
 refine uh Cn ⟨_,e,rfl⟩ CU (By _ _) (Bz l (bs.map qa).toArray m (.bool true) eqT nR j h1 hs (at_ j h1 true hj) λ i hi lt=>at_ i hi false (hno i lt)) ⟨e,?_⟩;exact ⟨.int j,H,I.tok _,⟨_,rfl⟩,q⟩
end
section
variable {X:Cx} {E:XK}
theorem kDO (hst:X.stack=X.env::X.outer) (hf:X.env.frame=some X.env.locals) (hex:X.ex=[])
  (hx:X.xe=λ e s'=>de (model X.prog X.w) X.A (leaving X.env e) (λ _ s''=>CXo X.prog X.w X.outer X.H₀ X.s₀ E e s'') (λ e' s''=>CXo X.prog X.w X.outer X.H₀ X.s₀ E e' s'') s') :
  dS (CXo X.prog X.w) X (λ cls dx H'=>∀ a C t1 T,cls=.ref C->H' a=some (.ext (XO a C dx t1))->H' T=none->T≠a->E cls dx (tr2 H' a C dx T)):=by
 intro pins σ H s e s' I h;obtain ⟨a,C,dx,T,H',rfl,os,bare,un,hok,xa,na,hT,q⟩:=h;have I1:Inv X pins σ H' s':=I.call' os un hok bare (λ b z=>absurd z (by simp));rw [hx];refine kGO I1 hst hf xa.1 (.inr ⟨T,rfl,na,hT⟩) λ T' h' nT na' un' hok'=>?_;refine ⟨a,C,dx,T',_,rfl,I1.os,I1.bare,?_,hok',⟨kC,λ d e=>?_⟩,na',?_,q a C _ T' rfl xa.1 nT na'⟩
 ·have b0:=I1.base
  rw [hex] at b0;refine b0.transL un' λ b o e hb=>?_;rcases gv.mp (I1.stkSub b hb) with z | z
  ·subst z
   exact absurd (cn (cf e) I1.ok.above) (jj _)
  ·exact z
 ·obtain ⟨fs,z⟩:=xa.2 d e
  refine ⟨fs,?_⟩;have n1:d≠a:=λ y=>by subst y;rw [xa.1] at z;cases z
  unfold tr2;rw [kH n1,kH (kF z nT)];exact z
 ·unfold tr2
  rw [kH na',kC]
end
end L2
namespace L2
open PySem PySem.W PyProof.Rows
section
variable {K:Fw} {nm q:Str} {C N:ah} {bs bm:List af} {hdct:Bool} {sn:List Str} {sub:List af} {ab:Bool} {col:Option Bool} {dd:Option ah} {k0 k1 k2 k3 k5:Option af} {i:String}
theorem lG (l:K.lookup C=some (excClassObj nm q C N bs bm hdct sn sub ab col dd k0 k1 k2 k3 k5 i)) (b:af):mroIn K C b=some ((fo C::bm).contains b):=by
 unfold mroIn clsIn;rw [l]
 rfl
theorem kKA (l:K.lookup C=some (excClassObj nm q C N bs bm true sn sub ab col dd k0 k1 k2 k3 k5 i)) (hp:∀ self,refuseLoop self "__setattr__" (.ref C::bm)=pure ()) (hb:bm.contains (.type "BaseException")=true) (ho:bm.contains (.type "object")=true)
  (ty:typeIn K (.ref C)=some (.type "type")) (sa:findIn K (.ref C) "__setattr__" = some (some (.builtin "object.__setattr__"))) (ga:findIn K (.ref C) "__getattribute__" = some (some (.builtin "BaseException.__getattribute__"))) (gh:findIn K (.ref C) "__getattr__" = some none)
  (cl:findIn K (.ref C) "__class__" = some (some (.builtin "object.__class__"))) (cg:specialIn K (.builtin "object.__class__") "__get__" = some (some (.builtin "getset_descriptor.__get__"))) (ct:takesIn K (.builtin "object.__class__")=some true):Ex.XK0 K C:=by
 refine ⟨?_,by rw [lG l,ph,hb,yg],by rw [lG l,ph,ho,yg],ty,sa,ga,gh,cl,cg,ct⟩;refine ⟨_,by unfold clsIn;rw [l],rfl,rfl,hp⟩
theorem kKE (C:ah) (self:af):refuseLoop self "__setattr__" [.ref C,.type "ValueError",.type "Exception",.type "BaseException",.type "object"]=pure ():=by
 rw [EI];exact PySem.F.store_ValueError.passes self
theorem kOJ (C D:ah) (self:af):refuseLoop self "__setattr__" [.ref C,.ref D,.type "ValueError",.type "Exception",.type "BaseException",.type "object"]=pure ():=by
 rw [EI];exact kKE D self
theorem up2 (D:ah):Ex.Up "ValueError" [.ref D,.type "ValueError",.type "Exception",.type "BaseException",.type "object"]:=by
 refine ⟨?_,?_,?_⟩<;>(rw [ph];first | rfl | decide | simp)
theorem xR {D:ah} {b:Bool} (c:isClsIn K D=true) (t:typeIn K (.ref D)=some (.type "type")) (s:subIn K (.ref C) (.ref D)=some b) (h:C=D->b=true):kitOne K (.ref C) (.ref D)=some b:=by
 unfold kitOne;by_cases e:C=D
 ·rw [if_pos (by rw [e];exact beq_self_eq_true _),h e]
 ·rw [if_neg (λ z=>e (Ew (beq_iff_eq.mp z)))]
  unfold kitCls;have c':(clsIn K D).isSome=true:=c;simp only [c',t,Es,beq_self_eq_true,if_true];exact s
theorem kMJ {b:Bool} (s:subIn K (.ref C) (.type "ValueError")=some b):kitOne K (.ref C) (.type "ValueError")=some b:=by
 unfold kitOne;rw [if_neg (λ z=>by cases beq_iff_eq.mp z)];unfold kitCls;have k:kitMeta "ValueError" = true:=by decide +kernel
 simp only [k,if_true];exact s
end
end L2
namespace Prf
open PySem L2 Own Tri Cyc Rnd
def top (i:Nat):jw:=PySem.Challenge.pw_restdraw_k26_webs_that_are_not_flat.main.body.getD i (.Pass ⟨0,0,0,0⟩)
abbrev wE:jw:=top 19
theorem sc_from_on:FnScope ["row","first","start"] ["row","first"] (kE wE):=⟨rfl,rfl,rfl,by decide +kernel,rfl,by decide +kernel,by decide +kernel⟩
abbrev xJ:jw:=top 20
theorem mF:FnScope ["row"] ["row"] (kE xJ):=⟨rfl,rfl,rfl,by decide +kernel,rfl,by decide +kernel,by decide +kernel⟩
abbrev yX:jw:=top 21
theorem rT:FnScope ["web"] ["web"] (kE yX):=⟨rfl,rfl,rfl,by decide +kernel,rfl,by decide +kernel,by decide +kernel⟩
abbrev cX:jw:=top 22
theorem kIF:FnScope ["web"] ["web"] (kE cX):=⟨rfl,rfl,rfl,by decide +kernel,rfl,by decide +kernel,by decide +kernel⟩
abbrev vF:jw:=top 23
theorem sc_behind:FnScope ["web","step","p","q","row"] ["web","step"] (kE vF):=⟨rfl,rfl,rfl,by decide +kernel,rfl,by decide +kernel,by decide +kernel⟩
abbrev jS:jw:=top 24
theorem sc_steps_round:FnScope ["web","step","steps","further"] ["web","step"] (kE jS):=⟨rfl,rfl,rfl,by decide +kernel,rfl,by decide +kernel,by decide +kernel⟩
abbrev aA:jw:=top 25
theorem sc_faces:FnScope ["web","told","seen","step","steps"] ["web"] (kE aA):=⟨rfl,rfl,rfl,by decide +kernel,rfl,by decide +kernel,by decide +kernel⟩
abbrev wD:jw:=top 26
theorem tY:FnScope ["web"] ["web"] (kE wD):=⟨rfl,rfl,rfl,by decide +kernel,rfl,by decide +kernel,by decide +kernel⟩
abbrev qV:jw:=top 27
theorem uB:FnScope ["web"] ["web"] (kE qV):=⟨rfl,rfl,rfl,by decide +kernel,rfl,by decide +kernel,by decide +kernel⟩
abbrev qL:jw:=top 29
theorem sc_uncornered_face:FnScope ["web","some"] ["web"] (kE qL):=⟨rfl,rfl,rfl,by decide +kernel,rfl,by decide +kernel,by decide +kernel⟩
abbrev wC:jw:=top 31
theorem sc_is_step:FnScope ["web","pair","p","q"] ["web","pair"] (kE wC):=⟨rfl,rfl,rfl,by decide +kernel,rfl,by decide +kernel,by decide +kernel⟩
abbrev jR:jw:=top 32
theorem sc_with_behind:FnScope ["row","place","added","at"] ["row","place","added"] (kE jR):=⟨rfl,rfl,rfl,by decide +kernel,rfl,by decide +kernel,by decide +kernel⟩
abbrev vE:jw:=top 33
theorem sc_put_in:FnScope ["web","step","other","p","v","q","w","rows"] ["web","step","other"] (kE vE):=⟨rfl,rfl,rfl,by decide +kernel,rfl,by decide +kernel,by decide +kernel⟩
abbrev mT:jw:=top 35
theorem sc_cut:FnScope ["web","face","around","corners","free","p","v","q","w"] ["web","face"] (kE mT):=⟨rfl,rfl,rfl,by decide +kernel,rfl,by decide +kernel,by decide +kernel⟩
abbrev wH:jw:=top 36
theorem sc_filled:FnScope ["web","full","face","step","other","before"] ["web"] (kE wH):=⟨rfl,rfl,rfl,by decide +kernel,rfl,by decide +kernel,by decide +kernel⟩
abbrev zZ:jw:=top 38
theorem sc_law_pot:FnScope ["_law_script","_law_k","_law_cell"] ["_law_script","_law_k"] (kE zZ):=⟨rfl,rfl,rfl,by decide +kernel,rfl,by decide +kernel,by decide +kernel⟩
abbrev yK:jw:=top 39
theorem sc_law_digit:FnScope ["_law_pot_here","_law_many","_law_digit_here"] ["_law_pot_here","_law_many"] (kE yK):=⟨rfl,rfl,rfl,by decide +kernel,rfl,by decide +kernel,by decide +kernel⟩
abbrev yM:jw:=top 40
theorem sc_law_ahead:FnScope ["_law_rows","_law_p","_law_q","_law_row"] ["_law_rows","_law_p","_law_q"] (kE yM):=⟨rfl,rfl,rfl,by decide +kernel,rfl,by decide +kernel,by decide +kernel⟩
abbrev xI:jw:=top 41
theorem sc_law_behind:FnScope ["_law_rows","_law_p","_law_v","_law_new","_law_row"] ["_law_rows","_law_p","_law_v","_law_new"] (kE xI):=⟨rfl,rfl,rfl,by decide +kernel,rfl,by decide +kernel,by decide +kernel⟩
abbrev wB:jw:=top 42
theorem sc_law_add:FnScope ["_law_rows","_law_p","_law_q","_law_r","_law_new"] ["_law_rows","_law_p","_law_q"] (kE wB):=⟨rfl,rfl,rfl,by decide +kernel,rfl,by decide +kernel,by decide +kernel⟩
abbrev yZ:jw:=top 43
theorem sc_law_flip:FnScope ["_law_rows","_law_p","_law_q","_law_r","_law_s"] ["_law_rows","_law_p","_law_q"] (kE yZ):=⟨rfl,rfl,rfl,by decide +kernel,rfl,by decide +kernel,by decide +kernel⟩
abbrev yY:jw:=top 44
theorem sc_law_step:FnScope ["_law_pot_here","_law_rows","_law_p"] ["_law_pot_here","_law_rows"] (kE yY):=⟨rfl,rfl,rfl,by decide +kernel,rfl,by decide +kernel,by decide +kernel⟩
abbrev jH:jw:=top 45
theorem sc_law_cornered:FnScope ["_law_pot_here","_law_n","_law_rows","_law_k","_law_p","_law_q"] ["_law_pot_here","_law_n"] (kE jH):=⟨rfl,rfl,rfl,by decide +kernel,rfl,by decide +kernel,by decide +kernel⟩
abbrev yH:jw:=top 46
theorem sc_law_hangs:FnScope ["_law_rows","_law_found","_law_at","_law_q"] ["_law_rows"] (kE yH):=⟨rfl,rfl,rfl,by decide +kernel,rfl,by decide +kernel,by decide +kernel⟩
abbrev jT:jw:=top 47
theorem sc_law_without:FnScope ["_law_rows","_law_p","_law_q","_law_found"] ["_law_rows","_law_p","_law_q"] (kE jT):=⟨rfl,rfl,rfl,by decide +kernel,rfl,by decide +kernel,by decide +kernel⟩
abbrev jU:jw:=top 48
theorem sc_law_thinned:FnScope ["_law_pot_here","_law_rows","_law_many","_law_k","_law_p","_law_q"] ["_law_pot_here","_law_rows","_law_many"] (kE jU):=⟨rfl,rfl,rfl,by decide +kernel,rfl,by decide +kernel,by decide +kernel⟩
abbrev xH:jw:=top 49
theorem mE:FnScope ["_law_pot_here","_law_rows","_law_p","_law_q"] ["_law_pot_here","_law_rows","_law_p","_law_q"] (kE xH):=⟨rfl,rfl,rfl,by decide +kernel,rfl,by decide +kernel,by decide +kernel⟩
abbrev wA:jw:=top 50
theorem sc_law_any:FnScope ["_law_pot_here","_law_n","_law_rows","_law_k","_law_p"] ["_law_pot_here","_law_n"] (kE wA):=⟨rfl,rfl,rfl,by decide +kernel,rfl,by decide +kernel,by decide +kernel⟩
abbrev yF:jw:=top 51
theorem sc_law_names:FnScope ["_law_pot_here","_law_n","_law_found","_law_k"] ["_law_pot_here","_law_n"] (kE yF):=⟨rfl,rfl,rfl,by decide +kernel,rfl,by decide +kernel,by decide +kernel⟩
abbrev qS:jw:=top 52
theorem sc_law_from_least:FnScope ["_law_row","_law_k"] ["_law_row"] (kE qS):=⟨rfl,rfl,rfl,by decide +kernel,rfl,by decide +kernel,by decide +kernel⟩
abbrev zY:jw:=top 53
theorem sc_law_web:FnScope ["_law_rows","_law_names_here","_law_found","_law_p","_law_row"] ["_law_rows","_law_names_here"] (kE zY):=⟨rfl,rfl,rfl,by decide +kernel,rfl,by decide +kernel,by decide +kernel⟩
abbrev yJ:jw:=top 54
theorem sc_law_drawn:FnScope ["_law_pot_here","_law_n","_law_rows","_law_turn","_law_row"] ["_law_pot_here"] (kE yJ):=⟨rfl,rfl,rfl,by decide +kernel,rfl,by decide +kernel,by decide +kernel⟩
abbrev yE:jw:=top 55
theorem sc_law_round:FnScope ["_law_web_here","_law_step_here","_law_p","_law_q","_law_found"] ["_law_web_here","_law_step_here"] (kE yE):=⟨rfl,rfl,rfl,by decide +kernel,rfl,by decide +kernel,by decide +kernel⟩
abbrev yD:jw:=top 56
theorem sc_law_which:FnScope ["_law_e","_law_sorts"] ["_law_e"] (kE yD):=⟨rfl,rfl,rfl,by decide +kernel,rfl,by decide +kernel,by decide +kernel⟩
abbrev yI:jw:=top 57
theorem sc_law_faces:FnScope ["_law_web_here","_law_seen","_law_many","_law_p","_law_q","_law_step_here"] ["_law_web_here"] (kE yI):=⟨rfl,rfl,rfl,by decide +kernel,rfl,by decide +kernel,by decide +kernel⟩
abbrev yG:jw:=top 58
theorem oP:FnScope ["_law_e"] ["_law_e"] (kE yG):=⟨rfl,rfl,rfl,by decide +kernel,rfl,by decide +kernel,by decide +kernel⟩
abbrev yL:jw:=top 59
theorem sc_law_asked:FnScope ["_law_web_here","_law_found","_law_e"] ["_law_web_here"] (kE yL):=⟨rfl,rfl,rfl,by decide +kernel,rfl,by decide +kernel,by decide +kernel⟩
abbrev qR:jw:=top 60
theorem sc_law_three_each:FnScope ["_law_web_here","_law_p","_law_q"] ["_law_web_here"] (kE qR):=⟨rfl,rfl,rfl,by decide +kernel,rfl,by decide +kernel,by decide +kernel⟩
abbrev bH:jw:=top 61
theorem sc_law:FnScope ["_law_script","_law_k","_law_web_here","_law_many","_law_found","_law_flat"] ["_law_script"] (kE bH):=⟨rfl,rfl,rfl,by decide +kernel,rfl,by decide +kernel,by decide +kernel⟩
theorem kI {H:Hp} {p:ah} (h:H p=none) (o:HO):Same H (upd H p o):=λ b u q=>by rw [kH (kF q h)];exact q
def SameBut (a:ah) (H H':Hp):Prop:=∀ b o,b≠a->H b=some o->H' b=some o
def kFM (K:au):Sp:=λ vs H Q _=>∃ (a:ah) (ns:List Int) (k:Int),vs=[.ref a,.int k]/\SqL K H a (ns.map V.int)/\ns.length<=63/\0<=k/\k<=63 /\
 ∀ (p:ah) (x y:Int) (H':Hp),0<=x->Same H H'->H p=none->H' p=some (.lst [.int x,.int y])->Q (.ref p) H'
def PotAt (H:Hp) (a:ah):Prop:=∃ x y:Int,H a=some (.lst [.int x,.int y])/\0<=x
def wO:Sp:=λ vs H Q _=>∃ (a:ah) (m:Int),vs=[.ref a,.int m]/\PotAt H a/\0<m/\m.natAbs<2 ^ 9000 /\
 ∀ (d:Int) (H':Hp),0<=d->d<m->SameBut a H H'->PotAt H' a->Q (.int d) H'
def vn (n:Nat):V:=.int (n:Int)
def ci (n:Nat):Int:=n
structure RowsAt (H:Hp) (r:ah) (A:List ah) (L:Rows):Prop where
 top:H r=some (.lst (A.map V.ref))
 len:A.length=L.length
 nd:A.Nodup
 out:r∉A
 row:∀ (i:Nat) (a:ah) (ns:List Nat),A[i]?=some a->L[i]?=some ns->H a=some (.lst (ns.map vn))
theorem jL (ns:List Nat):ns.map vn=(ns.map ci).map V.int:=by
 rw [AF]
 rfl
theorem qE {ns:List Nat} {n:Nat} (h:n∈ns):cN (ns.map ci) (n:Int) (ns.idxOf n):=by
 have hl:=iA h;refine ⟨?_,λ m hm e=>?_⟩
 ·rw [bg,aa hl,xi hl]
  rfl
 ·have hm':m<ns.length:=by omega
  rw [bg,aa hm'] at e
  have e2:ns[m]=n:=by
   have z:((ns[m]:Nat):Int)=(n:Int):=du e;omega
  have q:=BO (p:=(· == n)) (xs:=ns) hm;rw [e2] at q;simp at q
theorem RowsAt.at {H:Hp} {r:ah} {A:List ah} {L:Rows} (x:RowsAt H r A L) {i:Nat} {ns:List Nat} (h:L[i]?=some ns):∃ a,A[i]?=some a/\H a=some (.lst (ns.map vn))/\atI (A.map V.ref) (i:Int)=some (.ref a):=by
 have hi:i<A.length:=by rw [x.len];exact (ag.mp h).1
 refine ⟨A[i],aa hi,x.row i _ ns (aa hi) h,xY ?_⟩;rw [bg,aa hi]
 rfl
def fO:Sp:=λ vs H Q _=>∃ (r:ah) (A:List ah) (L:Rows) (p q:Nat) (row:List Nat) (v:Nat),vs=[.ref r,vn p,vn q]/\RowsAt H r A L/\L[q]?=some row/\p∈row/\xO row p=some v/\Q (vn v) H
theorem rE {row:List Nat} {p v:Nat} (hp:p∈row) (h:xO row p=some v):atI (row.map vn) ((row.idxOf p:Int)-1)=some (vn v):=by
 have hl:=iA hp;unfold xO at h;by_cases h0:row.idxOf p=0
 ·rw [if_pos h0] at h
  rw [h0]
  have e:row=row.dropLast++[v]:=by
   have ne:row≠[]:=λ z=>by rw [z] at hp;cases hp
   rw [jv ne] at h;rw [<-du h];exact (ke ne).symm
  rw [e,gq];exact kHP _ _
 ·rw [if_neg h0] at h
  have e:((row.idxOf p:Int)-1)=((row.idxOf p-1:Nat):Int):=by omega
  rw [e];exact xY (by rw [bg,h];rfl)
section
variable {P:eU} {w:gk} {K:au} {mg:Str->Option af} {base:gw}
theorem at0 {x y:V}:atI [x,y] 0=some x:=rfl
theorem at1 {x y:V}:atI [x,y] 1=some y:=rfl
theorem pO {f:ah} {fd:eO} (F:Fun K "_law_ahead" "_law_ahead" yM f fd):FnOk P w K mg base CX0 1 f fd ["_law_rows","_law_p","_law_q"] (fO):=by
 refine F.ok sc_law_ahead (λ vs H Q E h=>?_) (λ cdv A outer s H vs Q E hr h=>?_)
 ·obtain ⟨r,A,L,p,q,row,v,rfl,_⟩:=h
  rfl
 obtain ⟨r,A1,L,p,q,row,v,rfl,X,hq,hp,hv,k⟩:=h
 refine ⟨_,(kD (kT (i:=3) sc_law_ahead.nd rfl (cz rfl) (qA kY (pv 0) (pv 2) (λ _ _=>rfl)))
   (kJ (kW (qA kY (pv 3) (qC dB (jA dc oy oz bR (pv 3) (kA (pv 1) kB)) kO) (λ _ _=>rfl))))),?_⟩
 obtain ⟨a,e1,e2,e3⟩:=X.at hq;refine ⟨_,rfl,_,rfl,r,_,_,_,rfl,rfl,SqL.of X.top,e3,?_⟩;refine ⟨_,rfl,_,rfl,.inl ⟨rfl,_,SqL.of e2⟩,_,rfl,a,row.map ci,p,row.idxOf p,rfl,rfl,by rw [e2,jL],qE hp,_,_,rfl,rfl,?_⟩;exact ⟨a,_,_,_,rfl,rfl,SqL.of e2,rE hp hv,k⟩
theorem RowsAt.set {H:Hp} {r:ah} {A:List ah} {L:Rows} (x:RowsAt H r A L) {i:Nat} {a:ah} (h:A[i]?=some a) (ns:List Nat):RowsAt (upd H a (.lst (ns.map vn))) r A (L.set i ns):=by
 have ra:r≠a:=λ z=>x.out (z ▸ dw h);have hi:i<L.length:=by rw [<-x.len];exact (ag.mp h).1
 refine ⟨by rw [kH ra];exact x.top,by rw [sg];exact x.len,x.nd,x.out,λ j b ms hb hj=>?_⟩;rcases wR hi hj with ⟨rfl,rfl⟩ | ⟨ne,hj⟩
 ·rw [h] at hb
  cases hb
  exact kC
 ·have ba:b≠a:=λ z=>by
   subst z;have:=(yc (ag.mp hb).1 x.nd).mp (hb.trans h.symm);exact ne this
  rw [kH ba];exact x.row j b ms hb hj
def ButRows (r:ah) (A:List ah) (H H':Hp):Prop:=∀ b o,b≠r->b∉A->H b=some o->H' b=some o
def bB:Sp:=λ vs H Q _=>∃ (r:ah) (A:List ah) (L:Rows) (p v n:Nat) (row:List Nat),vs=[.ref r,vn p,vn v,vn n]/\RowsAt H r A L/\L[p]?=some row/\v∈row/\row.length<=1000 /\
 ∀ H',ButRows r A H H'->RowsAt H' r A (L.set p (qF row v n))->Q .non H'
theorem mH {f:ah} {fd:eO} (F:Fun K "_law_behind" "_law_behind" xI f fd):FnOk P w K mg base CX0 1 f fd ["_law_rows","_law_p","_law_v","_law_new"] (bB):=by
 refine F.ok sc_law_behind (λ vs H Q E h=>?_) (λ cdv A outer s H vs Q E hr h=>?_)
 ·obtain ⟨r,A,L,p,v,n,row,rfl,_⟩:=h
  rfl
 obtain ⟨r,A1,L,p,v,n,row,rfl,X,hp,hv,hl,k⟩:=h
 refine ⟨_,(kD (kT (i:=4) sc_law_behind.nd rfl (cz rfl) (qA kY (pv 0) (pv 1) (λ _ _=>rfl)))
   (kJ (qB (jA dc mf mh vH (pv 4) (kA (qC jM (jA dc oy oz bR (pv 4) (kA (pv 2) kB)) kO) (kA (pv 3) kB)))))),?_⟩
 obtain ⟨a,e1,e2,e3⟩:=X.at hp;have il:=iA hv;refine ⟨_,rfl,_,rfl,r,_,_,_,rfl,rfl,SqL.of X.top,e3,?_⟩;refine ⟨_,rfl,.inl ⟨rfl,_,SqL.of e2⟩,_,rfl,.inl ⟨rfl,_,SqL.of e2⟩,_,rfl,a,row.map ci,v,row.idxOf v,rfl,rfl,by rw [e2,jL],qE hv,_,_,rfl,rfl,_,rfl,a,_,_,_,rfl,rfl,e2,by omega,by omega,by rw [aj];exact qJ hl,?_⟩
 have e:List.take ((row.idxOf v:Int)+1).toNat (row.map vn)++vn n::Fy ((row.idxOf v:Int)+1).toNat (row.map vn)=(qF row v n).map vn:=by
  have z:((row.idxOf v:Int)+1).toNat=row.idxOf v+1:=by omega
  rw [z];unfold qF;rw [gq,Ae,iW,BG]
 have q:=k (upd H a (.lst ((qF row v n).map vn))) (λ b o _ hb h=>by
  have ne:b≠a:=λ z=>hb (by rw [z];exact dw e1);rw [kH ne];exact h) (X.set e1 _)
 rw [<-e] at q;exact q
theorem ButRows.trans {r:ah} {A:List ah} {H H1 H2:Hp} (x:ButRows r A H H1) (y:ButRows r A H1 H2):ButRows r A H H2:=λ b o h1 h2 h=>y b o h1 h2 (x b o h1 h2 h)
theorem cY {L:Rows} (G:Good L) {p:Nat} {row:List Nat} (h:L[p]?=some row):row.length<=6*L.length:=by
 have q:=yQ L p row [] h;have t:=G.tot;simp only [qc] at q;omega
theorem RowsAt.app {H:Hp} {r:ah} {A:List ah} {L:Rows} (x:RowsAt H r A L) {a:ah} (h:H a=none) (ns:List Nat):RowsAt (upd (upd H a (.lst (ns.map vn))) r (.lst (A.map V.ref++[V.ref a]))) r (A++[a]) (L++[ns]):=by
 have ra:r≠a:=kF x.top h
 have na:∀ b,b∈A->b≠a:=λ b hb=>by
  obtain ⟨i,hi,rfl⟩:=ft.mp hb;have hi':i<L.length:=by rw [<-x.len];exact hi
  exact kF (x.row i _ _ (aa hi) (aa hi')) h
 refine ⟨by rw [kC,gq];rfl,by simp [x.len],?_,?_,λ i b ms hb hi=>?_⟩
 ·rw [iT]
  exact ⟨x.nd,by simp,λ b hb c hc=>by simp at hc;rw [hc];exact na b hb⟩
 ·intro z
  rcases eY.mp z with z | z
  ·exact x.out z
  ·exact ra (by simpa using z)
 ·by_cases hl:i<A.length
  ·rw [cu hl] at hb
   rw [cu (by rw [<-x.len];exact hl)] at hi;have bm:=dw hb;have br:b≠r:=λ z=>x.out (by rw [<-z];exact bm);rw [kH br,kH (na b bm)];exact x.row i b ms hb hi
  ·have e:i=A.length:=by
    have:=(ag.mp hb).1;simp at this;omega
   subst e;rw [bz (be _)] at hb;rw [bz (by rw [x.len];exact be _)] at hi;rw [x.len] at hi;simp at hb hi;subst hb hi;rw [kH ra.symm,kC]
def kFQ:Sp:=λ vs H Q _=>∃ (r:ah) (A:List ah) (L:Rows) (p q:Nat),vs=[.ref r,vn p,vn q]/\RowsAt H r A L/\Good L/\L.length<=150/\E L p q /\
 ∀ (x:ah) (L':Rows) (H':Hp),H x=none->ButRows r A H H'->RowsAt H' r (A++[x]) L'->Good L'->L'.length=L.length+1->Q .non H'
theorem kAM {f:ah} {fd:eO} (F:Fun K "_law_add" "_law_add" wB f fd) (xF:Own.Has P w K mg base "_law_ahead" ["_law_rows","_law_p","_law_q"] 1 (fO)) (qO:Own.Has P w K mg base "_law_behind" ["_law_rows","_law_p","_law_v","_law_new"] 1 (bB)) (z_len:mg "len" = none):FnOk P w K mg base CX0 2 f fd ["_law_rows","_law_p","_law_q"] (kFQ):=by
 refine F.ok sc_law_add (λ vs H Q E h=>?_) (λ cdv A outer s H vs Q E hr h=>?_)
 ·obtain ⟨r,A,L,p,q,rfl,_⟩:=h
  rfl
 obtain ⟨r,A1,L,p,q,rfl,X,G,hL,hE,k⟩:=h
 refine ⟨_,(kD (kT (i:=3) sc_law_add.nd rfl (cz rfl) (Own.pe_has xF (hr.mono (by decide)) rfl (kA (pv 0) (kA (pv 1) (kA (pv 2) kB)))))
   (kD (kT (i:=4) sc_law_add.nd rfl (cz rfl) (kL kQ rfl z_len fe (kA (pv 0) kB)))
   (kD (qB (Own.pe_has qO (hr.mono (by decide)) rfl (kA (pv 0) (kA (pv 1) (kA (pv 2) (kA (pv 4) kB))))))
   (kD (qB (Own.pe_has qO (hr.mono (by decide)) rfl (kA (pv 0) (kA (pv 2) (kA (pv 3) (kA (pv 4) kB))))))
   (kD (qB (Own.pe_has qO (hr.mono (by decide)) rfl (kA (pv 0) (kA (pv 3) (kA (pv 1) (kA (pv 4) kB))))))
   (kJ (qB (jA dc ml mm wG (pv 0) (kA (jZ (kA (pv 1) (kA (pv 2) (kA (pv 3) kB)))) kB))))))))),?_⟩
 obtain ⟨rq,hq,mq⟩:=G.sym hE;obtain ⟨rp,hp,mp⟩:=hE;obtain ⟨t,ht⟩:=aG mq;have f:=zR (G.nd q rq hq) mq ht;have Fq:R L q t p:=⟨rq,hq,f⟩;have Fr:=G.tri _ _ _ Fq;obtain ⟨rr,hr1,nr⟩:=id Fr;have gd:=kHR G hp hq hr1 f;obtain ⟨lq,lt,lp,tq,pq⟩:=vG G Fq;obtain ⟨_,_,_,pt,_⟩:=vG G Fr;have mr:=(kX nr).1;have lenA:(A1.map V.ref).length=L.length:=by rw [aj];exact X.len
 refine ⟨_,rfl,_,rfl,_,rfl,r,A1,L,p,q,rq,t,rfl,X,hq,mq,ht,?_⟩;refine ⟨_,rfl,r,_,rfl,.inl (SqL.of X.top),?_⟩;refine ⟨_,rfl,_,rfl,_,rfl,_,rfl,r,A1,L,p,q,(A1.map V.ref).length,rp,rfl,X,hp,mp,(by have:=cY G hp;omega),λ H1 b1 X1=>?_⟩;have hq':(L.set p (qF rp q (A1.map V.ref).length))[q]?=some rq:=by rw [di pq];exact hq
 refine ⟨_,rfl,_,rfl,_,rfl,_,rfl,r,A1,_,q,t,(A1.map V.ref).length,rq,rfl,X1,hq',(kX f).1,(by have:=cY G hq;omega),λ H2 b2 X2=>?_⟩;have hr':((L.set p (qF rp q (A1.map V.ref).length)).set q (qF rq t (A1.map V.ref).length))[t]?=some rr:=by rw [di (λ z=>tq z.symm),di pt];exact hr1
 refine ⟨_,rfl,_,rfl,_,rfl,_,rfl,r,A1,_,t,p,(A1.map V.ref).length,rr,rfl,X2,hr',mr,(by have:=cY G hr1;omega),λ H3 b3 X3=>?_⟩;refine ⟨_,rfl,.inl ⟨rfl,_,SqL.of X3.top⟩,_,rfl,_,rfl,_,rfl,yS3,λ x hx=>?_⟩;have rx:r≠x:=kF X3.top hx;have b123:=b1.trans (b2.trans b3)
 have xn:H x=none:=by
  cases e:H x with
  | none=>rfl
  | some o =>
   have xA:x∉A1:=λ z=>by
    obtain ⟨i,hi,rfl⟩:=ft.mp z;have hi':i<(((L.set p (qF rp q (A1.map V.ref).length)).set q (qF rq t (A1.map V.ref).length)).set t (qF rr p (A1.map V.ref).length)).length:=by rw [<-X3.len];exact hi
    rw [X3.row i _ _ (aa hi) (aa hi')] at hx;cases hx
   rw [b123 x o (λ z=>rx z.symm) xA e] at hx;cases hx
 refine ⟨r,_,_,rfl,rfl,(by rw [kH rx];exact X3.top),(by rw [lenA];exact qJ (by omega)),?_⟩;have Y:=X3.app hx [p,q,t];rw [lenA] at Y;refine k x (aU L p q t rp rq rr) _ xn (λ b o h1 h2 h=>?_) Y gd (by simp [aU]);have bx:b≠x:=λ z=>by rw [z,xn] at h;cases h
 rw [kH h1,kH bx];exact b123 b o h1 h2 h
theorem kHK (ns:List Int) (lo hi:Option Int):∃ ms:List Int,uC (ns.map V.int) lo hi=ms.map V.int/\ms.length<=ns.length:=by
 refine ⟨(ns.drop (HT.sIx (ns.map V.int).length 0 lo)).take (HT.sIx (ns.map V.int).length (ns.map V.int).length hi-HT.sIx (ns.map V.int).length 0 lo),?_,?_⟩
 ·unfold uC
  rw [Ae,BG]
 ·rw [fb,iV]
  omega
theorem kEJ (ms:List Int):∃ c:Int,atI (ms.map V.int++[V.int 0]) 0=some (V.int c):=by
 cases ms with
 | nil=>exact ⟨0,rfl⟩
 | cons x r=>exact ⟨x,xY (j:=0) rfl⟩
theorem qU {n:Nat} (h:n<=20000):n<sizeLine:=eP h (by rw [vh];decide)
theorem gO {n:Nat} (h:n<=1000):n<=sizeLine:=qq (qJ h)
theorem kAK {f:ah} {fd:eO} (F:Fun K "_law_pot" "_law_pot" zZ f fd) (z_abs:mg "abs" = none) (z_max:mg "max" = none):FnOk P w K mg base CX0 1 f fd ["_law_script","_law_k"] (kFM K):=by
 refine F.ok sc_law_pot (λ vs H Q E h=>?_) (λ cdv A outer s H vs Q E hr h=>?_)
 ·obtain ⟨a,ns,k,rfl,_⟩:=h
  rfl
 obtain ⟨a,ns,k,rfl,hS,h63,k0,k1,q⟩:=h
 refine ⟨_,(kD (kT (i:=2) sc_law_pot.nd rfl (cz rfl) (qA kY (qC dD (xE bE (pv 0) (xK (pv 1)) (xK (qC jM (pv 1) kO))) (jZ (kA kO kB))) kO (λ _ _=>rfl)))
   (kJ (kW (jZ (kA (kL (nW rfl) rfl z_max Bi (kA kO (kA (qC dB (pv 2) (qC kLY kO kO)) kB))) (kA (qC jM (qC pE (qC jM (qC jM (kL kHN rfl z_abs FL (kA (pv 2) kB)) (qC kAI kO (pv 1))) kO) kO) kO) kB)))))),?_⟩
 obtain ⟨ms,em,lm⟩:=kHK ns (some k) (some (k+1));obtain ⟨c,hc⟩:=kEJ ms;refine ⟨_,rfl,_,rfl,k,rfl,_,rfl,_,_,rfl,rfl,k+1,rfl,a,_,rfl,hS,λ p1 h1=>?_⟩;refine ⟨yS1,λ p2 h2=>?_⟩;have n12:p1≠p2:=kF kC h2;refine ⟨p1,p2,_,_,rfl,rfl,(by rw [kH n12];exact kC),kC,(by rw [em,aj,iu];exact gO (by omega)),λ p3 h3=>?_⟩;refine ⟨p3,_,_,_,rfl,rfl,SqL.of kC,(by rw [em];exact hc),?_⟩;have g1:Same H (upd H p1 (.lst (uC (ns.map V.int) (some k) (some (k+1))))):=kI h1 _;have g2:=kI h2 (.lst [V.int 0]);have g3:=kI h3 (.lst (uC (ns.map V.int) (some k) (some (k+1))++[V.int 0]));have g:=g1.trans (g2.trans g3);refine ⟨_,rfl,_,_,rfl,rfl,⟨by decide,by decide,by decide⟩,_,_,rfl,rfl,_,_,rfl,_,rfl,c,rfl,_,rfl,_,_,rfl,rfl,.inl ⟨by decide,by decide⟩,_,_,rfl,rfl,_,_,rfl,rfl,_,_,rfl,rfl,(by show (0:Int)<2147483629;decide),_,_,rfl,rfl,yS2,λ p4 h4=>?_⟩;refine q p4 _ _ _ ?_ (g.trans (kI h4 _)) (g.free h4) kC
 split<;>omega
theorem SameBut.refl (a:ah) (H:Hp):SameBut a H H:=λ _ _ _ h=>h
theorem SameBut.trans {a:ah} {H H1 H2:Hp} (x:SameBut a H H1) (y:SameBut a H1 H2):SameBut a H H2:=λ b o n h=>y b o n (x b o n h)
theorem SameBut.of {a:ah} {H H':Hp} (h:Same H H'):SameBut a H H':=λ b o _ e=>h b o e
theorem kCU {a:ah} {H:Hp} {o:HO}:SameBut a H (upd H a o):=λ b u n h=>by rw [kH n];exact h
theorem pM {f:ah} {fd:eO} (F:Fun K "_law_digit" "_law_digit" yK f fd) (z_divmod:mg "divmod" = none):FnOk P w K mg base CX0 1 f fd ["_law_pot_here","_law_many"] (wO):=by
 refine F.ok sc_law_digit (λ vs H Q E h=>?_) (λ cdv A outer s H vs Q E hr h=>?_)
 ·obtain ⟨a,m,rfl,_⟩:=h
  rfl
 obtain ⟨a,m,rfl,⟨x,y,ha,hx⟩,m0,m1,q⟩:=h
 refine ⟨_,(kD (yT (qI kGI (qA kY (pv 0) kO (λ _ _=>rfl)) kO (qZ _)) (kD (xZ (kL rC rfl z_divmod Ey (kA (qA kY (pv 0) kO (λ _ _=>rfl)) (kA (pv 1) kB))) (xQ rfl (kU (gX (pv 0) kO uF) (kU (kM (i:=2) sc_law_digit.nd rfl (cz rfl)) jG))))
   (kJ (kW (pv 2)))) qX)
   (kD (xZ (qC pE (qC jM (qC kAI (qA kY (pv 0) kO (λ _ _=>rfl)) kO) kO) kO) (gX (pv 0) kO uF))
   (kJ (kW (qC pE (qC kIV (qC pE (qC kAI (qA kY (pv 0) kO (λ _ _=>rfl)) (qA kY (pv 0) kO (λ _ _=>rfl))) kO) kO) (pv 1)))))),?_⟩
 refine ⟨_,rfl,a,_,_,_,rfl,rfl,SqL.of ha,at0,_,_,rfl,rfl,_,rfl,?_⟩;refine pV (λ c=>?_) (λ c=>?_)
 ·refine ⟨_,rfl,a,_,_,_,rfl,rfl,SqL.of ha,at0,_,rfl,x,m,rfl,⟨m0,m1⟩,λ p hp=>?_⟩
  have nap:a≠p:=kF ha hp;refine ⟨p,_,rfl,SqT.of kC,rfl,_,_,rfl,_,rfl,a,_,_,0,rfl,rfl,(by rw [kH nap];exact ha),rfl,_,_,rfl,rfl,?_⟩;refine ⟨_,rfl,?_⟩;refine q _ _ (Bc _ (by omega)) (Af _ m0) ((SameBut.of (kI hp _)).trans kCU) ⟨_,_,kC,?_⟩;exact Int.ediv_nonneg hx (by omega)
 ·refine ⟨_,rfl,a,_,_,_,rfl,rfl,SqL.of ha,at1,_,_,rfl,rfl,.inr ⟨by decide,by decide⟩,_,_,rfl,rfl,_,_,rfl,rfl,(by show (0:Int)<2147483647;decide),?_⟩
  refine ⟨_,rfl,a,_,_,1,rfl,rfl,ha,rfl,?_⟩;have b1:0<=(y*48271+39373) % 2147483647:=Bc _ (by decide);have b2:(y*48271+39373) % 2147483647<2147483647:=Af _ (by decide);refine ⟨_,rfl,a,_,_,_,rfl,rfl,SqL.of kC,at1,_,rfl,a,_,_,_,rfl,rfl,SqL.of kC,at1,_,_,rfl,rfl,.inl ⟨?_,?_⟩,_,_,rfl,rfl,(by show (0:Int)<2147483629;decide),_,_,rfl,rfl,⟨by decide,by decide⟩,_,rfl,_,_,rfl,rfl,m0,?_⟩
  ·show -(2 ^ 64)<(y*48271+39373) % 2147483647
   omega
  ·show (y*48271+39373) % 2147483647<2 ^ 64
   omega
  ·exact q _ _ (Bc _ (by omega)) (Af _ m0) kCU ⟨_,_,kC,hx⟩
theorem PotAt.kept {H H':Hp} {p:ah} (h:PotAt H p) (g:Same H H'):PotAt H' p:=by
 obtain ⟨x,y,e,z⟩:=h;exact ⟨x,y,g _ _ e,z⟩
theorem xU {i:Int} (h:i.natAbs<2 ^ 200):i.natAbs<2 ^ 9000:=cn h (Nat.pow_le_pow_right (by decide) (by decide))
theorem PotAt.other {H:Hp} {a l:ah} {o:HO} (h:PotAt H a) (n:a≠l):PotAt (upd H l o) a:=by
 obtain ⟨x,y,e,z⟩:=h;exact ⟨x,y,by rw [kH n];exact e,z⟩
theorem kMT (s:Nat) (row:List Nat):inV (vn s) (row.map vn)=decide (s∈row):=by
 unfold inV;rw [jl,BH,decide_eq_true_iff];constructor
 ·rintro ⟨x,hx,e⟩
  obtain ⟨n,hn,rfl⟩:=gi.mp hx;have:((n:Int) == (s:Int))=true:=e
  have:n=s:=by
   have:=eq_of_beq this;omega
  subst this;exact hn
 ·intro h
  exact ⟨vn s,gi.mpr ⟨s,h,rfl⟩,(beq_self_eq_true (s:Int))⟩
theorem kJN (row:List Nat):(row.map vn).all aL=true:=by
 rw [List.all_map,yt];intro x _
 rfl
theorem dQ (row:List Nat) (q:Nat):((row.map ci).eraseIdx (row.idxOf q)).map V.int=(qP row q).map vn:=by
 unfold qP;rw [jL,zV ci]
theorem oO {L:Rows} {i j:Nat} {r:List Nat} {row:List Nat} (h:L[j]?=some row) (n:i≠j):(L.set i r)[j]?=some row:=by rw [di n];exact h
def tS:Sp:=λ vs H Q _=>∃ (r:ah) (A:List ah) (L:Rows) (p q:Nat),vs=[.ref r,vn p,vn q]/\RowsAt H r A L/\Good L/\L.length<=150/\E L p q /\
 ∀ (L':Rows) (H':Hp),ButRows r A H H'->RowsAt H' r A L'->Good L'->L'.length=L.length->Q .non H'
theorem sA {f:ah} {fd:eO} (F:Fun K "_law_flip" "_law_flip" yZ f fd) (xF:Own.Has P w K mg base "_law_ahead" ["_law_rows","_law_p","_law_q"] 1 (fO)) (qO:Own.Has P w K mg base "_law_behind" ["_law_rows","_law_p","_law_v","_law_new"] 1 (bB)):FnOk P w K mg base CX0 2 f fd ["_law_rows","_law_p","_law_q"] (tS):=by
 refine F.ok sc_law_flip (λ vs H Q E h=>?_) (λ cdv A outer s H vs Q E hr h=>?_)
 ·obtain ⟨r,A,L,p,q,rfl,_⟩:=h
  rfl
 obtain ⟨r,A1,L,p,q,rfl,X,G,hL,hE,k⟩:=h
 refine ⟨_,(kD (kT (i:=3) sc_law_flip.nd rfl (cz rfl) (Own.pe_has xF (hr.mono (by decide)) rfl (kA (pv 0) (kA (pv 1) (kA (pv 2) kB)))))
   (kD (kT (i:=4) sc_law_flip.nd rfl (cz rfl) (Own.pe_has xF (hr.mono (by decide)) rfl (kA (pv 0) (kA (pv 2) (kA (pv 1) kB)))))
   (kJ (yT (PW.pt (uG (qI gY (pv 3) (pv 4) (qZ _)) (vR (qI zT (pv 4) (qA kY (pv 0) (pv 3) (λ _ _=>rfl)) rfl)))) (kD (qB (jA dc jz ka wF (qA kY (pv 0) (pv 1) (λ _ _=>rfl)) (kA (pv 2) kB)))
   (kD (qB (jA dc jz ka wF (qA kY (pv 0) (pv 2) (λ _ _=>rfl)) (kA (pv 1) kB)))
   (kD (qB (Own.pe_has qO (hr.mono (by decide)) rfl (kA (pv 0) (kA (pv 3) (kA (pv 1) (kA (pv 4) kB))))))
   (kJ (qB (Own.pe_has qO (hr.mono (by decide)) rfl (kA (pv 0) (kA (pv 4) (kA (pv 2) (kA (pv 3) kB)))))))))) qX)))),?_⟩
 obtain ⟨rq,hq,mq⟩:=G.sym hE;obtain ⟨rp,hp,mp⟩:=hE;obtain ⟨t,ht⟩:=aG mq;obtain ⟨u,hu⟩:=aG mp;have f:=zR (G.nd q rq hq) mq ht;have f':=zR (G.nd p rp hp) mp hu;have Fq:R L q t p:=⟨rq,hq,f⟩;have Fp:R L p u q:=⟨rp,hp,f'⟩;have Ft:=G.tri _ _ _ Fq;have Fu:=G.tri _ _ _ Fp;obtain ⟨rt,hrt,nt⟩:=id Ft;obtain ⟨ru,hru,nu⟩:=id Fu;obtain ⟨lq,lt,lp,tq,pq⟩:=vG G Fq;obtain ⟨_,lu,_,up',qp⟩:=vG G Fp;obtain ⟨_,_,_,pt,qt⟩:=vG G Ft;obtain ⟨_,_,_,qu,pu⟩:=vG G Fu;refine ⟨_,rfl,_,rfl,_,rfl,r,A1,L,p,q,rq,t,rfl,X,hq,mq,ht,?_⟩;refine ⟨_,rfl,_,rfl,_,rfl,r,A1,L,q,p,rp,u,rfl,X,hp,mp,hu,?_⟩;have stay:=k L H (λ _ _ _ _ h=>h) X G rfl;refine ⟨_,rfl,_,rfl,rfl,_,rfl,?_⟩;refine pV (λ c=>?_) (λ c=>xB stay);have tu:t≠u:=λ z=>by subst z;simp [vn] at c
 obtain ⟨at',e1t,e2t,e3t⟩:=X.at hrt;refine ⟨_,rfl,_,rfl,_,rfl,r,_,_,_,rfl,rfl,SqL.of X.top,e3t,at',_,rfl,.inl (SqL.of e2t),rfl,kJN _,_,rfl,?_⟩;rw [kMT];refine pV (λ c2=>?_) (λ c2=>stay);have ut:u∉rt:=λ z=>by simp [z] at c2
 have gd:=kEI G hp hq hrt hru f f' tu ut
 obtain ⟨ap,e1p,e2p,e3p⟩:=X.at hp;refine ⟨_,rfl,_,rfl,r,_,_,_,rfl,rfl,SqL.of X.top,e3p,.inl ⟨rfl,_,SqL.of e2p⟩,_,rfl,ap,rp.map ci,q,rp.idxOf q,rfl,rfl,(by rw [e2p,jL]),qE mp,?_⟩;rw [dQ];have X1:=X.set e1p (qP rp q);have hq1:=oO (i:=p) (r:=qP rp q) hq pq;obtain ⟨aq,e1q,e2q,e3q⟩:=X1.at hq1;refine ⟨_,rfl,_,rfl,r,_,_,_,rfl,rfl,SqL.of X1.top,e3q,.inl ⟨rfl,_,SqL.of e2q⟩,_,rfl,aq,rq.map ci,p,rq.idxOf p,rfl,rfl,(by rw [e2q,jL]),qE mq,?_⟩;rw [dQ];have X2:=X1.set e1q (qP rq p)
 have b2:ButRows r A1 H (upd (upd H ap (.lst ((qP rp q).map vn))) aq (.lst ((qP rq p).map vn))):=λ b o h1 h2 h=>by
  rw [kH (λ z=>h2 (by rw [z];exact dw e1q)),kH (λ z=>h2 (by rw [z];exact dw e1p))];exact h
 generalize upd (upd H ap (.lst ((qP rp q).map vn))) aq (.lst ((qP rq p).map vn))=H2 at *;have ht2:=oO (i:=q) (r:=qP rq p) (oO (i:=p) (r:=qP rp q) hrt pt) qt;refine ⟨_,rfl,_,rfl,_,rfl,_,rfl,r,A1,_,t,p,u,rt,rfl,X2,ht2,(kX nt).1,(by have:=cY G hrt;omega),λ H3 b3 X3=>?_⟩;have hu3:=oO (i:=t) (r:=qF rt p u) (oO (i:=q) (r:=qP rq p) (oO (i:=p) (r:=qP rp q) hru pu) qu) tu;refine ⟨_,rfl,_,rfl,_,rfl,_,rfl,r,A1,_,u,q,t,ru,rfl,X3,hu3,(kX nu).1,(by have:=cY G hru;omega),λ H4 b4 X4=>?_⟩;exact k _ H4 (b2.trans (b3.trans b4)) X4 gd (by simp [wL])
structure Some' (L:Rows):Prop where
 pos:0<L.length
 le:L.length<=150
 ne:∀ (p:Nat) (row:List Nat),L[p]?=some row->row≠[]/\row.length<=1000
theorem RowsAt.but {H H':Hp} {r a:ah} {A:List ah} {L:Rows} (x:RowsAt H r A L) (h1:a≠r) (h2:a∉A) (g:SameBut a H H'):RowsAt H' r A L :=
 ⟨g _ _ h1.symm x.top,x.len,x.nd,x.out,λ i b ns hb hi=>g _ _ (λ z=>h2 (z ▸ dw hb)) (x.row i b ns hb hi)⟩
theorem RowsAt.kept {H H':Hp} {r:ah} {A:List ah} {L:Rows} (x:RowsAt H r A L) (g:Same H H'):RowsAt H' r A L :=
 ⟨g _ _ x.top,x.len,x.nd,x.out,λ i b ns hb hi=>g _ _ (x.row i b ns hb hi)⟩
theorem rL {row:List Nat} {j:Nat} (h:j<row.length):atI (row.map vn) (j:Int)=some (vn row[j]):=xY (by rw [bg,aa h];rfl)
def kLH:Sp:=λ vs H Q _=>∃ (a r:ah) (A:List ah) (L:Rows),vs=[.ref a,.ref r]/\PotAt H a/\RowsAt H r A L/\a≠r/\a∉A/\Some' L /\
 ∀ (t:ah) (p q:Nat) (H':Hp),SameBut a H H'->PotAt H' a->H t=none->H' t=some (.tup [vn p,vn q])->E L p q->Q (.ref t) H'
def WebAt (H:Hp) (t:ah) (W:Rows):Prop:=∃ ts:List ah,H t=some (.tup (ts.map V.ref))/\ts.length=W.length/\∀ (j:Nat) (a:ah) (row:List Nat),ts[j]?=some a->W[j]?=some row->H a=some (.tup (row.map vn))
theorem WebAt.at {H:Hp} {t:ah} {W:Rows} (h:WebAt H t W):∃ ts:List ah,H t=some (.tup (ts.map V.ref))/\ts.length=W.length/\∀ (q:Nat) (row:List Nat),W[q]?=some row->∃ b,atI (ts.map V.ref) (q:Int)=some (.ref b)/\H b=some (.tup (row.map vn)):=by
 obtain ⟨ts,h1,h2,h3⟩:=h;refine ⟨ts,h1,h2,λ q row e=>?_⟩;have hq:q<ts.length:=by rw [h2];exact (ag.mp e).1
 exact ⟨ts[q],xY (by rw [bg,aa hq];rfl),h3 q _ row (aa hq) e⟩
theorem kAC {H:Hp} {a b:ah} {o:HO} (hp:PotAt H a) (e:H b=some o) (n:∀ xs,o≠.lst xs):b≠a:=λ z=>by
 obtain ⟨x,y,h,_⟩:=hp;rw [z,h] at e;exact n _ (du e).symm
theorem WebAt.pot {H H':Hp} {a t:ah} {W:Rows} (h:WebAt H t W) (g:SameBut a H H') (hp:PotAt H a):WebAt H' t W:=by
 obtain ⟨ts,h1,h2,h3⟩:=h;exact ⟨ts,g _ _ (kAC hp h1 (by simp)) h1,h2,λ j b row e1 e2=>g _ _ (kAC hp (h3 j b row e1 e2) (by simp)) (h3 j b row e1 e2)⟩
theorem WebAt.kept {H H':Hp} {t:ah} {W:Rows} (h:WebAt H t W) (g:Same H H'):WebAt H' t W:=by
 obtain ⟨ts,h1,h2,h3⟩:=h;exact ⟨ts,g _ _ h1,h2,λ j a row e1 e2=>g _ _ (h3 j a row e1 e2)⟩
def kIC:Sp:=λ vs H Q _=>∃ (a r:ah) (W:Rows),vs=[.ref a,.ref r]/\PotAt H a/\WebAt H r W/\0<W.length/\W.length<=150/\(∀ (p:Nat) (row:List Nat),W[p]?=some row->row≠[]/\row.length<=1000) /\
 ∀ (t:ah) (p q:Nat) (H':Hp),SameBut a H H'->PotAt H' a->H t=none->H' t=some (.tup [vn p,vn q])->E W p q->Q (.ref t) H'
def fL:Sp:=λ vs H Q E=>kLH vs H Q E\/kIC vs H Q E
theorem rZ {f:ah} {fd:eO} (F:Fun K "_law_step" "_law_step" yY f fd) (kP:Own.Has P w K mg base "_law_digit" ["_law_pot_here","_law_many"] 1 (wO)) (z_len:mg "len" = none):FnOk P w K mg base CX0 2 f fd ["_law_pot_here","_law_rows"] (fL):=by
 refine F.ok sc_law_step (λ vs H Q E h=>?_) (λ cdv A outer s H vs Q E hr h=>?_)
 ·rcases h with h | h
  ·obtain ⟨a,r,A,L,rfl,_⟩:=h
   rfl
  ·obtain ⟨a,r,W,rfl,_⟩:=h
   rfl
 rcases h with h | h
 ·obtain ⟨a,r,A1,L,rfl,ha,X,nar,naA,S,k⟩:=h
  refine ⟨_,(kD (kT (i:=2) sc_law_step.nd rfl (cz rfl) (Own.pe_has kP (hr.mono (by decide)) rfl (kA (pv 0) (kA (kL kQ rfl z_len fe (kA (pv 1) kB)) kB))))
   (kJ (kW (jK (kA (pv 2) (kA (qA kY (qA kY (pv 1) (pv 2) (λ _ _=>rfl)) (Own.pe_has kP (hr.mono (by decide)) rfl (kA (pv 0) (kA (kL kQ rfl z_len fe (kA (qA kY (pv 1) (pv 2) (λ _ _=>rfl)) kB)) kB))) (λ _ _=>rfl)) kB)))))),?_⟩
  have lA:((A1.map V.ref).length:Int)=L.length:=by rw [aj,X.len]
  have sp:=S.pos;have sl:=S.le;refine ⟨_,rfl,_,rfl,r,_,rfl,.inl (SqL.of X.top),a,_,rfl,ha,(by omega),xU (by rw [lA];exact eP (m:=150) (by omega) (by decide)),λ d H1 d0 d1 s1 p1=>?_⟩;rw [lA] at d1;obtain ⟨p,rfl⟩:=iD d0;have hp:p<L.length:=by omega
  have X1:=X.but nar naA s1;have hrow:=aa hp;obtain ⟨ap,e1,e2,e3⟩:=X1.at hrow;obtain ⟨rne,rle⟩:=S.ne p _ hrow;have rpos:0<L[p].length:=nj.mpr rne;have lr:((L[p].map vn).length:Int)=L[p].length:=by rw [aj]
  refine ⟨_,rfl,_,rfl,_,rfl,r,_,_,_,rfl,rfl,SqL.of X1.top,e3,_,rfl,_,rfl,_,rfl,r,_,_,_,rfl,rfl,SqL.of X1.top,e3,ap,_,rfl,.inl (SqL.of e2),a,_,rfl,p1,(by omega),xU (by rw [lr];exact eP (m:=1000) (by omega) (by decide)),λ d' H2 c0 c1 s2 p2=>?_⟩;rw [lr] at c1;obtain ⟨j,rfl⟩:=iD c0;have hj:j<L[p].length:=by omega
  have X2:=X1.but nar naA s2;have nap:ap≠a:=λ z=>naA (z ▸ dw e1);refine ⟨ap,_,_,_,rfl,rfl,SqL.of (s2 _ _ nap e2),rL hj,yS2,λ t nt=>?_⟩;have gt:=kI nt (.tup [vn p,vn L[p][j]])
  have nt0:H t=none:=by
   cases e:H t with
   | none=>rfl
   | some o =>
    have ta:t≠a:=λ z=>by
     obtain ⟨x,y,w,_⟩:=p2;rw [z,w] at nt;cases nt
    rw [(s1.trans s2) t o ta e] at nt;cases nt
  exact k t p L[p][j] _ (s1.trans (s2.trans (.of gt))) (p2.kept gt) nt0 kC ⟨_,hrow,fg hj⟩
 ·obtain ⟨a,r,W,rfl,ha,hW,w0,w1,wl,k⟩:=h
  refine ⟨_,(kD (kT (i:=2) sc_law_step.nd rfl (cz rfl) (Own.pe_has kP (hr.mono (by decide)) rfl (kA (pv 0) (kA (kL kQ rfl z_len fe (kA (pv 1) kB)) kB))))
   (kJ (kW (jK (kA (pv 2) (kA (qA jF (qA jF (pv 1) (pv 2) (λ _ _=>rfl)) (Own.pe_has kP (hr.mono (by decide)) rfl (kA (pv 0) (kA (kL kQ rfl z_len fe (kA (qA jF (pv 1) (pv 2) (λ _ _=>rfl)) kB)) kB))) (λ _ _=>rfl)) kB)))))),?_⟩
  obtain ⟨ts,h1,lts,h3⟩:=hW.at;have eL:((ts.map V.ref).length:Int)=(W.length:Int):=by rw [aj,lts]
  refine ⟨_,rfl,_,rfl,r,_,rfl,.inr (SqT.of h1),a,_,rfl,ha,(by omega),xU (by rw [eL];exact eP (m:=150) (by omega) (by decide)),λ d H1 d0 d1 s1 p1=>?_⟩;rw [eL] at d1;obtain ⟨p,rfl⟩:=iD d0;have hp:p<W.length:=by omega
  have W1:=hW.pot s1 ha;obtain ⟨ts1,w11,lts1,w31⟩:=W1.at;have hrow:=aa hp;obtain ⟨b1,f1,f2⟩:=w31 p W[p] hrow;obtain ⟨rne,rle⟩:=wl p _ hrow;have rpos:0<W[p].length:=nj.mpr rne;have lr:((W[p].map vn).length:Int)=W[p].length:=by rw [aj]
  refine ⟨_,rfl,_,rfl,_,rfl,r,_,_,_,rfl,rfl,SqT.of w11,f1,_,rfl,_,rfl,_,rfl,r,_,_,_,rfl,rfl,SqT.of w11,f1,b1,_,rfl,.inr (SqT.of f2),a,_,rfl,p1,(by omega),xU (by rw [lr];exact eP (m:=1000) (by omega) (by decide)),λ c H2 c0 c1 s2 p2=>?_⟩;rw [lr] at c1;obtain ⟨j,rfl⟩:=iD c0;have hj:j<W[p].length:=by omega
  have f2':=s2 _ _ (kAC p1 f2 (by simp)) f2;refine ⟨b1,_,_,_,rfl,rfl,SqT.of f2',rL hj,yS2,λ t nt=>?_⟩;have gt:=kI nt (.tup [vn p,vn W[p][j]])
  have nt0:H t=none:=by
   cases e:H t with
   | none=>rfl
   | some o =>
    have ta:t≠a:=λ z=>by
     obtain ⟨x,y,w,_⟩:=p2;rw [z,w] at nt;cases nt
    rw [(s1.trans s2) t o ta e] at nt;cases nt
  exact k t p W[p][j] _ (s1.trans (s2.trans (.of gt))) (p2.kept gt) nt0 kC ⟨_,hrow,fg hj⟩
theorem nJ {L:Rows} (G:Good L) (h:L.length<=150):Some' L :=
 ⟨by have:=G.three;omega,h,λ p row e=>⟨G.ne p row e,by have:=cY G e;omega⟩⟩
structure New (H:Hp) (a r:ah) (A:List ah):Prop where
 top:H r=none
 all:∀ x∈A,H x=none
 pot:a≠r/\a∉A
theorem New.but {H H1 H2:Hp} {a r:ah} {A:List ah} (n:New H a r A) (s:SameBut a H H1) (b:ButRows r A H1 H2):SameBut a H H2:=λ c o nc e =>
 b c o (kF e n.top) (λ z=>by rw [n.all c z] at e;cases e) (s c o nc e)
theorem PotAt.rows {H H':Hp} {a r:ah} {A:List ah} (h:PotAt H a) (h1:a≠r) (h2:a∉A) (b:ButRows r A H H'):PotAt H' a:=by
 obtain ⟨x,y,e,z⟩:=h;exact ⟨x,y,b _ _ h1 h2 e,z⟩
def aO:Sp:=λ vs H Q _=>∃ (a:ah) (n:Nat),vs=[.ref a,vn n]/\PotAt H a/\3<=n/\n<=40 /\
 ∀ (r:ah) (A:List ah) (L:Rows) (H':Hp),SameBut a H H'->PotAt H' a->RowsAt H' r A L->Good L->L.length=n->New H a r A->Q (.ref r) H'
theorem kBA {H:Hp} {l1 l2 l3 r:ah} (n1:H l1=none) (n2:upd H l1 (.lst [vn 1,vn 2]) l2=none) (n3:upd (upd H l1 (.lst [vn 1,vn 2])) l2 (.lst [vn 2,vn 0]) l3=none)
  (n4:upd (upd (upd H l1 (.lst [vn 1,vn 2])) l2 (.lst [vn 2,vn 0])) l3 (.lst [vn 0,vn 1]) r=none) :
  RowsAt (upd (upd (upd (upd H l1 (.lst [vn 1,vn 2])) l2 (.lst [vn 2,vn 0])) l3 (.lst [vn 0,vn 1])) r (.lst [.ref l1,.ref l2,.ref l3])) r [l1,l2,l3] [[1,2],[2,0],[0,1]]/\Same H (upd (upd (upd (upd H l1 (.lst [vn 1,vn 2])) l2 (.lst [vn 2,vn 0])) l3 (.lst [vn 0,vn 1])) r (.lst [.ref l1,.ref l2,.ref l3])):=by
 have g1:=kI n1 (.lst [vn 1,vn 2]);have g2:=kI n2 (.lst [vn 2,vn 0]);have g3:=kI n3 (.lst [vn 0,vn 1]);have g4:=kI n4 (.lst [.ref l1,.ref l2,.ref l3]);have h1:=g4 _ _ (g3 _ _ (g2 _ _ (kC (H:=H) (a:=l1) (o:=.lst [vn 1,vn 2]))));have h2:=g4 _ _ (g3 _ _ (kC (H:=upd H l1 (.lst [vn 1,vn 2])) (a:=l2) (o:=.lst [vn 2,vn 0])));have h3:=g4 _ _ (kC (H:=upd (upd H l1 (.lst [vn 1,vn 2])) l2 (.lst [vn 2,vn 0])) (a:=l3) (o:=.lst [vn 0,vn 1]));have d12:l1≠l2:=kF (kC (H:=H) (a:=l1) (o:=.lst [vn 1,vn 2])) n2;have d13:l1≠l3:=kF (g2 _ _ (kC (H:=H) (a:=l1) (o:=.lst [vn 1,vn 2]))) n3;have d23:l2≠l3:=kF (kC (H:=upd H l1 (.lst [vn 1,vn 2])) (a:=l2) (o:=.lst [vn 2,vn 0])) n3;have d1r:l1≠r:=kF (g3 _ _ (g2 _ _ (kC (H:=H) (a:=l1) (o:=.lst [vn 1,vn 2])))) n4;have d2r:l2≠r:=kF (g3 _ _ (kC (H:=upd H l1 (.lst [vn 1,vn 2])) (a:=l2) (o:=.lst [vn 2,vn 0]))) n4;have d3r:l3≠r:=kF (kC (H:=upd (upd H l1 (.lst [vn 1,vn 2])) l2 (.lst [vn 2,vn 0])) (a:=l3) (o:=.lst [vn 0,vn 1])) n4;refine ⟨⟨kC,rfl,?_,?_,λ i b ns hb hi=>?_⟩,g1.trans (g2.trans (g3.trans g4))⟩
 ·simp [d12,d13,d23]
 ·simp [d1r.symm,d2r.symm,d3r.symm]
 ·match i with
  | 0=>cases hb;cases hi;exact h1
  | 1=>cases hb;cases hi;exact h2
  | 2=>cases hb;cases hi;exact h3
  | i+3=>simp at hb
theorem fF {f:ah} {fd:eO} (F:Fun K "_law_cornered" "_law_cornered" jH f fd) (yC:Own.Has P w K mg base "_law_step" ["_law_pot_here","_law_rows"] 2 (fL)) (dN:Own.Has P w K mg base "_law_add" ["_law_rows","_law_p","_law_q"] 2 (kFQ)) (kP:Own.Has P w K mg base "_law_digit" ["_law_pot_here","_law_many"] 1 (wO)) (aT:Own.Has P w K mg base "_law_flip" ["_law_rows","_law_p","_law_q"] 2 (tS)) (z_range:mg "range" = none):FnOk P w K mg base CX0 3 f fd ["_law_pot_here","_law_n"] (aO):=by
 refine F.ok sc_law_cornered (λ vs H Q E h=>?_) (λ cdv A outer s H vs Q E hr h=>?_)
 ·obtain ⟨a,n,rfl,_⟩:=h
  rfl
 obtain ⟨a,n,rfl,ha,n3,n40,k⟩:=h
 refine ⟨_,(kD (kT (i:=2) sc_law_cornered.nd rfl (cz rfl) (jZ (kA (jZ (kA kO (kA kO kB))) (kA (jZ (kA kO (kA kO kB))) (kA (jZ (kA kO (kA kO kB))) kB)))))
   (kD (xP gj rfl (jJ rfl z_range (kA (qC dB (pv 1) kO) kB)) (kM (i:=3) sc_law_cornered.nd rfl (cz rfl)) (kD (xZ (Own.pe_has yC (hr.mono (by decide)) rfl (kA (pv 0) (kA (pv 2) kB))) (xQ rfl (kU (kM (i:=4) sc_law_cornered.nd rfl (cz rfl)) (kU (kM (i:=5) sc_law_cornered.nd rfl (cz rfl)) jG))))
   (kJ (qB (Own.pe_has dN (hr.mono (by decide)) rfl (kA (pv 2) (kA (pv 4) (kA (pv 5) kB))))))))
   (kD (xP gj rfl (jJ rfl z_range (kA (Own.pe_has kP (hr.mono (by decide)) rfl (kA (pv 0) (kA (qC Own.op_mulW kO (pv 1)) kB))) kB)) (kM (i:=3) sc_law_cornered.nd rfl (cz rfl)) (kD (xZ (Own.pe_has yC (hr.mono (by decide)) rfl (kA (pv 0) (kA (pv 2) kB))) (xQ rfl (kU (kM (i:=4) sc_law_cornered.nd rfl (cz rfl)) (kU (kM (i:=5) sc_law_cornered.nd rfl (cz rfl)) jG))))
   (kJ (qB (Own.pe_has aT (hr.mono (by decide)) rfl (kA (pv 2) (kA (pv 4) (kA (pv 5) kB))))))))
   (kJ (kW (pv 2)))))),?_⟩
 refine ⟨yS2,λ l1 m1=>⟨yS2,λ l2 m2=>⟨yS2,λ l3 m3=>⟨yS3,λ r m4=>?_⟩⟩⟩⟩;obtain ⟨X0,g0⟩:=kBA m1 m2 m3 m4;have p0:=ha.kept g0
 have new0:New H a r [l1,l2,l3]:=by
  obtain ⟨x,y,ea,_⟩:=ha;have g1:=kI m1 (.lst [vn 1,vn 2]);have g2:=kI m2 (.lst [vn 2,vn 0]);have g3:=kI m3 (.lst [vn 0,vn 1]);have f2:=g1.free m2;have f3:=(g1.trans g2).free m3;have f4:=(g1.trans (g2.trans g3)).free m4;refine ⟨f4,λ x hx=>?_,kF ea f4,λ z=>?_⟩
  ·simp at hx
   rcases hx with rfl | rfl | rfl
   ·exact m1
   ·exact f2
   ·exact f3
  ·simp at z
   rcases z with rfl | rfl | rfl
   ·rw [m1] at ea;cases ea
   ·rw [f2] at ea;cases ea
   ·rw [f3] at ea;cases ea
 generalize hH1:upd (upd (upd (upd H l1 (.lst [vn 1,vn 2])) l2 (.lst [vn 2,vn 0])) l3 (.lst [vn 0,vn 1])) r (.lst [.ref l1,.ref l2,.ref l3])=H1 at *;have hH1':upd (upd (upd (upd H l1 (.lst [.int 1,.int 2])) l2 (.lst [.int 2,.int 0])) l3 (.lst [.int 0,.int 1])) r (.lst [.ref l1,.ref l2,.ref l3])=H1:=hH1;rw [hH1']
 refine ⟨_,rfl,_,_,rfl,rfl,_,rfl,by omega,by omega,jX (lo:=0) (n:=((n:Int)-3).toNat) (λ i σ H2=>∃ (x y z:Option V) (A:List ah) (L:Rows),σ=[some (.ref a),some (vn n),some (.ref r),x,y,z]/\RowsAt H2 r A L/\Good L/\L.length=3+i/\SameBut a H H2/\PotAt H2 a/\New H a r A)
  ⟨none,none,none,_,_,rfl,X0,kBB,rfl,.of g0,p0,new0⟩ ?_ ?_⟩
 ·rintro i σ H2 hi ⟨x,y,z,A1,L,rfl,X,G,hl,s2,p2,nw⟩
  have L150:L.length<=150:=by omega
  refine ⟨_,rfl,_,rfl,.inl ⟨a,r,A1,L,rfl,p2,X,nw.pot.1,nw.pot.2,nJ G L150,λ t p q H3 s3 p3 nt ht hE=>?_⟩⟩;have X3:=X.but nw.pot.1 nw.pot.2 s3;refine ⟨t,_,rfl,SqT.of ht,rfl,_,_,rfl,_,_,rfl,rfl,?_⟩;refine ⟨_,rfl,_,rfl,_,rfl,r,A1,L,p,q,rfl,X3,G,L150,hE,λ nx L' H4 hx b4 X4 G' hl'=>?_⟩;have s4:=nw.but (s2.trans s3) b4;have p4:=p3.rows nw.pot.1 nw.pot.2 b4
  have hxH:H nx=none:=by
   cases e:H nx with
   | none=>rfl
   | some o =>
    have na:nx≠a:=λ z=>by
     obtain ⟨v,w,ea,_⟩:=p3;rw [z,ea] at hx;cases hx
    rw [(s2.trans s3) nx o na e] at hx;cases hx
  refine ⟨_,_,_,A1++[nx],L',rfl,X4,G',by omega,s4,p4,nw.top,λ b hb=>?_,nw.pot.1,λ z=>?_⟩
  ·rcases eY.mp hb with w | w
   ·exact nw.all b w
   ·rw [fw.mp w];exact hxH
  ·rcases eY.mp z with w | w
   ·exact nw.pot.2 w
   ·have e:=fw.mp w
    obtain ⟨v,w',ea,_⟩:=p3;rw [<-e,ea] at hx;cases hx
 ·rintro σ H2 ⟨x,y,z,A1,L,rfl,X,G,hl,s2,p2,nw⟩
  have hn:L.length=n:=by omega
  refine ⟨_,rfl,_,rfl,_,_,rfl,rfl,⟨xU (by decide),xU (eP (m:=40) (by show ((n:Int)).natAbs<=40;omega) (by decide))⟩,a,_,rfl,p2,(by show (0:Int)<2*(n:Int);omega),xU (eP (m:=80) (by show (2*(n:Int)).natAbs<=80;omega) (by decide)),λ d H3 d0 d1 s3 p3=>?_⟩;have d80:d<2*(n:Int):=d1
  refine ⟨d,rfl,by omega,by omega,jX (lo:=0) (n:=d.toNat) (λ i σ H4=>∃ (x y z:Option V) (L:Rows),σ=[some (.ref a),some (vn n),some (.ref r),x,y,z]/\RowsAt H4 r A1 L/\Good L/\L.length=n/\SameBut a H H4/\PotAt H4 a)
   ⟨_,_,_,L,rfl,X.but nw.pot.1 nw.pot.2 s3,G,hn,s2.trans s3,p3⟩ ?_ ?_⟩
  ·rintro i σ H4 hi ⟨x,y,z,L4,rfl,X4,G4,hl4,s4,p4⟩
   have L150:L4.length<=150:=by omega
   refine ⟨_,rfl,_,rfl,.inl ⟨a,r,A1,L4,rfl,p4,X4,nw.pot.1,nw.pot.2,nJ G4 L150,λ t p q H5 s5 p5 nt ht hE=>?_⟩⟩;have X5:=X4.but nw.pot.1 nw.pot.2 s5;refine ⟨t,_,rfl,SqT.of ht,rfl,_,_,rfl,_,_,rfl,rfl,?_⟩;refine ⟨_,rfl,_,rfl,_,rfl,r,A1,L4,p,q,rfl,X5,G4,L150,hE,λ L' H6 b6 X6 G' hl'=>?_⟩;exact ⟨_,_,_,L',rfl,X6,G',by omega,nw.but (s4.trans s5) b6,p5.rows nw.pot.1 nw.pot.2 b6⟩
  ·rintro σ H4 ⟨x,y,z,L4,rfl,X4,G4,hl4,s4,p4⟩
   exact ⟨_,rfl,k r A1 L4 H4 s4 p4 X4 G4 hl4 nw⟩
def fM:Sp:=λ vs H Q _=>∃ (a:ah) (n:Nat),vs=[.ref a,vn n]/\PotAt H a/\n<=150 /\
 ∀ (l:ah) (ns:List Nat) (H':Hp),SameBut a H H'->PotAt H' a->H l=none->l≠a->H' l=some (.lst (ns.map vn))->ns.Perm (fc n)->Q (.ref l) H'
theorem kGB {ns:List Nat} {i d:Nat} (h:ns.Perm (fc i)):(ns.take d++i::ns.drop d).Perm (fc (i+1)):=by
 rw [yw]
 have e:(ns.take d++i::ns.drop d).Perm (i::ns):=by
  have:=wj (a:=i) (l₁:=ns.take d) (l₂:=ns.drop d);rw [iF] at this;exact this
 exact e.trans ((List.Perm.cons i h).trans (List.perm_append_singleton i _).symm)
theorem pH {f:ah} {fd:eO} (F:Fun K "_law_names" "_law_names" yF f fd) (kP:Own.Has P w K mg base "_law_digit" ["_law_pot_here","_law_many"] 1 (wO)) (z_range:mg "range" = none):FnOk P w K mg base CX0 2 f fd ["_law_pot_here","_law_n"] (fM):=by
 refine F.ok sc_law_names (λ vs H Q E h=>?_) (λ cdv A outer s H vs Q E hr h=>?_)
 ·obtain ⟨a,n,rfl,_⟩:=h
  rfl
 obtain ⟨a,n,rfl,ha,hn,k⟩:=h
 refine ⟨_,(kD (kT (i:=2) sc_law_names.nd rfl (cz rfl) (jZ kB))
   (kD (xP gj rfl (jJ rfl z_range (kA (pv 1) kB)) (kM (i:=3) sc_law_names.nd rfl (cz rfl)) (kJ (qB (jA dc mf mh vH (pv 2) (kA (Own.pe_has kP (hr.mono (by decide)) rfl (kA (pv 0) (kA (qC jM (pv 3) kO) kB))) (kA (pv 3) kB))))))
   (kJ (kW (pv 2))))),?_⟩
 refine ⟨yS0,λ l nl=>?_⟩
 have la:l≠a:=by
  obtain ⟨x,y,z,_⟩:=ha;exact (kF z nl).symm
 have g0:=kI nl (.lst [])
 refine ⟨_,rfl,(n:Int),rfl,by omega,by omega,jX (lo:=0) (n:=(n:Int).toNat) (λ i σ H2=>∃ (x:Option V) (ns:List Nat),σ=[some (.ref a),some (vn n),some (.ref l),x]/\H2 l=some (.lst (ns.map vn))/\ns.Perm (fc i)/\SameBut a H H2/\PotAt H2 a)
  ⟨none,[],rfl,kC,.nil,.of g0,ha.kept g0⟩ ?_ ?_⟩
 ·rintro i σ H2 hi ⟨x,ns,rfl,hl,hp,s2,p2⟩
  have ln:ns.length=i:=by rw [hp.length_eq,iN]
  refine ⟨_,rfl,.inl ⟨rfl,_,SqL.of hl⟩,_,rfl,_,rfl,_,_,rfl,rfl,a,_,rfl,p2,(by omega),xU (eP (m:=151) (by omega) (by decide)),λ d H3 d0 d1 s3 p3=>?_⟩;have hl3:=s3 _ _ la hl;refine ⟨_,rfl,l,_,_,_,rfl,rfl,hl3,d0,(by omega),(by rw [aj,ln];exact qJ (by omega)),?_⟩;refine ⟨_,ns.take d.toNat++i::ns.drop d.toNat,rfl,?_,kGB hp,(λ b o nb e=>?_),p3.other la.symm⟩
  ·rw [gq,Ae,iW,BG,show vn i=V.int (0+(i:Int)) by rw [Int.zero_add];rfl]
   exact kC
  ·rw [kH (kF e nl)]
   exact s3 b o nb (s2 b o nb e)
 ·rintro σ H2 ⟨x,ns,rfl,hl,hp,s2,p2⟩
  exact ⟨_,rfl,k l ns H2 s2 p2 nl la hl hp⟩
theorem uX (xs:List V) {k:Nat} (h:k<=xs.length):uC xs (some (k:Int)) none=xs.drop k:=by
 unfold uC;rw [HT.sIx_none,HT.sIx_nat,iG h,jt];rw [iV];exact be _
theorem dR (xs:List V) {k:Nat} (h:k<=xs.length):uC xs none (some (k:Int))=xs.take k:=by
 unfold uC;rw [HT.sIx_none,HT.sIx_nat,iG h,EF,Cz]
def kCZ (L:Rows) (ns:List Nat) (W:Rows) (p:Nat):Prop:=∀ row,L[p]?=some row->∃ n M,ns[p]?=some n/\M∈row.map (λ q=>ns.getD q 0)/\(∀ i∈row.map (λ q=>ns.getD q 0),M<=i)/\W[n]?=some (rot (row.map λ q=>ns.getD q 0) M)
def kBO:Sp:=λ vs H Q _=>∃ (r l:ah) (A:List ah) (L:Rows) (ns:List Nat),vs=[.ref r,.ref l]/\RowsAt H r A L/\H l=some (.lst (ns.map vn))/\ns.Perm (fc L.length)/\Some' L/\(∀ (p:Nat) (row:List Nat),L[p]?=some row->∀ x∈row,x<L.length) /\
 ∀ (t:ah) (W:Rows) (H':Hp),Same H H'->WebAt H' t W->W.length=L.length->(∀ p,p<L.length->kCZ L ns W p)->Q (.ref t) H'
theorem pU {n j:Nat} (h:j<n):ixN n (j:Int)=some j:=by
 unfold ixN;rw [if_pos (by omega),if_pos (by omega),qw]
theorem qK {H H1:Hp} {D:ah} {o:HO} (n:H D=none) (g:Same H H1):Same H (upd H1 D o):=λ b u e=>by
 rw [kH (kF e n)];exact g b u e
theorem kFU (n:Nat) (e:ah):(fh n [V.ref e]).flatten=(fh n e).map V.ref:=by
 induction n with
 | zero=>rfl
 | succ n ih=>rw [uc,uc,vd,ih];rfl
theorem bI {n k:Nat} (h:k<=n):HT.sIx n 0 (some (k:Int))=k:=by rw [HT.sIx_nat,iG h]
theorem oR {n k:Nat} (h:k<=n):HT.sIx n n (some (k:Int))=k:=by rw [HT.sIx_nat,iG h]
theorem oU (ns:List Nat) (x:Nat):(ns.map vn).drop (ns.idxOf x)++(ns.map vn).take (ns.idxOf x)=(rot ns x).map vn:=by unfold rot;rw [gq,BG,Ae]
def gI:Sp:=λ vs H Q _=>∃ (a:ah) (ns:List Nat),vs=[.ref a]/\H a=some (.lst (ns.map vn))/\ns≠[]/\ns.length<=1000 /\
 ∀ (M:Nat) (t:ah) (H':Hp),M∈ns->(∀ i∈ns,M<=i)->Same H H'->H t=none->H' t=some (.tup ((rot ns M).map vn))->Q (.ref t) H'
theorem bP {f:ah} {fd:eO} (F:Fun K "_law_from_least" "_law_from_least" qS f fd) (z_min:mg "min" = none) (z_tuple:mg "tuple" = none):FnOk P w K mg base CX0 1 f fd ["_law_row"] (gI):=by
 refine F.ok sc_law_from_least (λ vs H Q E h=>?_) (λ cdv A outer s H vs Q E hr h=>?_)
 ·obtain ⟨a,ns,rfl,_⟩:=h
  rfl
 obtain ⟨D,cl,rfl,hD,cne,cle,k⟩:=h
 refine ⟨_,(kD (kT (i:=1) sc_law_from_least.nd rfl (cz rfl) (jA dc oy oz bR (pv 0) (kA (kL (nV rfl) rfl z_min va (kA (pv 0) kB)) kB)))
   (kJ (kW (jV jY rfl z_tuple jf (kA (qC dD (xE bE (pv 0) (xK (pv 1)) zS) (xE bE (pv 0) zS (xK (pv 1)))) kB))))),?_⟩
 have cpos:0<cl.length:=nj.mpr cne;refine ⟨_,rfl,.inl ⟨rfl,_,SqL.of hD⟩,_,rfl,D,cl.map ci,rfl,SqL.of (by rw [hD,jL]),(by rw [aj];exact cpos),λ M hM hle=>?_⟩;obtain ⟨m,hm,rfl⟩:=gi.mp hM
 have mle:∀ j∈cl,m<=j:=λ j hj=>by
  have:=hle (ci j) (gi.mpr ⟨j,hj,rfl⟩);simp only [ci] at this;omega
 have il:=iA hm;refine ⟨D,cl.map ci,m,cl.idxOf m,rfl,rfl,(by rw [hD,jL]),qE hm,?_⟩;have lv:(cl.map vn).length=cl.length:=aj _;refine ⟨_,rfl,_,rfl,_,rfl,D,_,rfl,SqL.of hD,λ p1 m1=>?_⟩;rw [uX _ (by rw [lv];omega)];have h1:=kI m1 (.lst ((cl.map vn).drop (cl.idxOf m)));refine ⟨_,rfl,_,rfl,_,rfl,D,_,rfl,SqL.of (h1 _ _ hD),λ p2 m2=>?_⟩;rw [dR _ (by rw [lv];omega)];have h2:=kI m2 (.lst ((cl.map vn).take (cl.idxOf m)));refine ⟨p1,p2,_,_,rfl,rfl,h2 _ _ kC,kC,(by rw [iV,fb,lv];exact qq (qJ (by omega))),λ p3 m3=>?_⟩;have h3:=kI m3 (.lst ((cl.map vn).drop (cl.idxOf m)++(cl.map vn).take (cl.idxOf m)));refine ⟨p3,_,rfl,.inl ⟨SqL.of kC,λ t m4=>?_⟩⟩;have hh:=h1.trans (h2.trans h3);exact k m t _ hm mle (hh.trans (kI m4 _)) (hh.free m4) (by rw [<-oU];exact kC)
def gM:Sp:=λ vs H Q _=>∃ (a:ah) (ns:List Nat) (x:Nat),vs=[.ref a,vn x]/\(H a=some (.lst (ns.map vn))\/H a=some (.tup (ns.map vn)))/\x∈ns/\ns.length<=1000 /\
 ∀ (t:ah) (H':Hp),Same H H'->H' t=some (.tup ((rot ns x).map vn))->Q (.ref t) H'
theorem kAP {f:ah} {fd:eO} (F:Fun K "from_on" "from_on" wE f fd) (z_tuple:mg "tuple" = none):FnOk P w K mg base CX0 1 f fd ["row","first"] (gM):=by
 refine F.ok sc_from_on (λ vs H Q E h=>?_) (λ cdv A outer s H vs Q E hr h=>?_)
 ·obtain ⟨a,ns,x,rfl,_⟩:=h
  rfl
 obtain ⟨D,cl,m,rfl,hD,hm,cle,k⟩:=h;have il:=iA hm;have lv:(cl.map vn).length=cl.length:=aj _;rcases hD with hD | hD
 ·refine ⟨_,(kD (kT (i:=2) sc_from_on.nd rfl (cz rfl) (jA dc oy oz bR (pv 0) (kA (pv 1) kB)))
   (kJ (kW (jV jY rfl z_tuple jf (kA (qC dD (xE bE (pv 0) (xK (pv 2)) zS) (xE bE (pv 0) zS (xK (pv 2)))) kB))))),?_⟩
  refine ⟨_,rfl,.inl ⟨rfl,_,SqL.of hD⟩,_,rfl,D,cl.map ci,m,cl.idxOf m,rfl,rfl,(by rw [hD,jL]),qE hm,?_⟩;refine ⟨_,rfl,_,rfl,_,rfl,D,_,rfl,SqL.of hD,λ p1 m1=>?_⟩;rw [uX _ (by rw [lv];omega)];have h1:=kI m1 (.lst ((cl.map vn).drop (cl.idxOf m)));refine ⟨_,rfl,_,rfl,_,rfl,D,_,rfl,SqL.of (h1 _ _ hD),λ p2 m2=>?_⟩;rw [dR _ (by rw [lv];omega)];have h2:=kI m2 (.lst ((cl.map vn).take (cl.idxOf m)));refine ⟨p1,p2,_,_,rfl,rfl,h2 _ _ kC,kC,(by rw [iV,fb,lv];exact qq (qJ (by omega))),λ p3 m3=>?_⟩;have h3:=kI m3 (.lst ((cl.map vn).drop (cl.idxOf m)++(cl.map vn).take (cl.idxOf m)));refine ⟨p3,_,rfl,.inl ⟨SqL.of kC,λ t m4=>?_⟩⟩;exact k t _ (h1.trans (h2.trans (h3.trans (kI m4 _)))) (by rw [<-oU];exact kC)
 ·refine ⟨_,(kD (kT (i:=2) sc_from_on.nd rfl (cz rfl) (jA mw mz ng vI (pv 0) (kA (pv 1) kB)))
   (kJ (kW (jV jY rfl z_tuple jf (kA (qC fT (xE bC (pv 0) (xK (pv 2)) zS) (xE bC (pv 0) zS (xK (pv 2)))) kB))))),?_⟩
  refine ⟨_,rfl,.inr (.inl ⟨rfl,.inr ⟨_,hD⟩⟩),_,rfl,D,cl.map ci,m,cl.idxOf m,rfl,rfl,SqT.of (by rw [hD,jL]),qE hm,?_⟩;by_cases z:cl.idxOf m=0
  ·have er:rot cl m=cl:=by unfold rot;rw [z];simp
   rw [er] at k;refine ⟨_,rfl,_,rfl,_,rfl,.inr ⟨D,_,rfl,SqT.of hD,⟨by rw [z,lv];exact bI (k:=0) (iK _),HT.sIx_none _ _⟩,?_⟩⟩;refine ⟨_,rfl,_,rfl,_,rfl,.inl ⟨D,_,rfl,SqT.of hD,(λ c=>by rw [lv,oR (by omega)] at c;omega),λ p2 m2=>?_⟩⟩;rw [dR _ (by rw [lv];omega),z];have h2:=kI m2 (.tup ((cl.map vn).take 0));refine ⟨D,p2,_,_,rfl,rfl,SqT.of (h2 _ _ hD),SqT.of kC,(λ c=>by rw [wo] at c;rw [c] at hm;cases hm),(by rw [lv];simp;exact gO cle),λ _=>?_,λ c=>absurd rfl c⟩;exact ⟨D,_,rfl,.inr ⟨SqT.of (h2 _ _ hD),k D _ h2 (h2 _ _ hD)⟩⟩
  ·refine ⟨_,rfl,_,rfl,_,rfl,.inl ⟨D,_,rfl,SqT.of hD,(λ c=>by rw [lv,bI (by omega)] at c;exact z c.1),λ p1 m1=>?_⟩⟩
   rw [uX _ (by rw [lv];omega)];have h1:=kI m1 (.tup ((cl.map vn).drop (cl.idxOf m)));refine ⟨_,rfl,_,rfl,_,rfl,.inl ⟨D,_,rfl,SqT.of (h1 _ _ hD),(λ c=>by rw [lv,oR (by omega)] at c;omega),λ p2 m2=>?_⟩⟩;rw [dR _ (by rw [lv];omega)];have h2:=kI m2 (.tup ((cl.map vn).take (cl.idxOf m)));refine ⟨p1,p2,_,_,rfl,rfl,SqT.of (h2 _ _ kC),SqT.of kC,(λ c=>by have:=congrArg iP c;rw [iV,lv,qc] at this;omega),(by rw [iV,fb,lv];exact gO (by omega)),(λ c=>by have:=congrArg iP c;rw [fb,lv,qc] at this;omega),λ _ p3 m3=>?_⟩;have h3:=kI m3 (.tup ((cl.map vn).drop (cl.idxOf m)++(cl.map vn).take (cl.idxOf m)));refine ⟨p3,_,rfl,.inr ⟨SqT.of kC,?_⟩⟩;exact k p3 _ (h1.trans (h2.trans h3)) (by rw [<-oU];exact kC)
def gH:Sp:=λ vs H Q _=>∃ (a:ah) (ns:List Nat),vs=[.ref a]/\(H a=some (.lst (ns.map vn))\/H a=some (.tup (ns.map vn)))/\ns≠[]/\ns.length<=1000 /\
 ∀ (M:Nat) (t:ah) (H':Hp),M∈ns->(∀ i∈ns,M<=i)->Same H H'->H' t=some (.tup ((rot ns M).map vn))->Q (.ref t) H'
theorem sI {ns:List Nat} {M:Int} (hM:M∈ns.map ci) (hle:∀ i∈ns.map ci,M<=i):∃ m,M=ci m/\m∈ns/\∀ j∈ns,m<=j:=by
 obtain ⟨m,hm,rfl⟩:=gi.mp hM
 exact ⟨m,rfl,hm,λ j hj=>by
  have:=hle (ci j) (gi.mpr ⟨j,hj,rfl⟩);simp only [ci] at this;omega⟩
theorem mI {f:ah} {fd:eO} (F:Fun K "from_least" "from_least" xJ f fd) (aK:Own.Has P w K mg base "from_on" ["row","first"] 1 (gM)) (z_min:mg "min" = none):FnOk P w K mg base CX0 2 f fd ["row"] (gH):=by
 refine F.ok mF (λ vs H Q E h=>?_) (λ cdv A outer s H vs Q E hr h=>?_)
 ·obtain ⟨a,ns,rfl,_⟩:=h
  rfl
 obtain ⟨D,cl,rfl,hD,cne,cle,k⟩:=h;have cpos:0<cl.length:=nj.mpr cne;rcases id hD with hD' | hD'
 ·refine ⟨_,(kJ (kW (Own.pe_has aK (hr.mono (by decide)) rfl (kA (pv 0) (kA (kL (nV rfl) rfl z_min va (kA (pv 0) kB)) kB))))),?_⟩
  refine ⟨_,rfl,_,rfl,D,cl.map ci,rfl,SqL.of (by rw [hD',jL]),(by rw [aj];exact cpos),λ M hM hle=>?_⟩;obtain ⟨m,rfl,hm,mle⟩:=sI hM hle;exact ⟨D,cl,m,rfl,hD,hm,cle,λ t H' g ht=>k m t H' hm mle g ht⟩
 ·refine ⟨_,(kJ (kW (Own.pe_has aK (hr.mono (by decide)) rfl (kA (pv 0) (kA (kL (kES rfl) rfl z_min va (kA (pv 0) kB)) kB))))),?_⟩
  refine ⟨_,rfl,_,rfl,D,cl.map ci,rfl,SqT.of (by rw [hD',jL]),(by rw [aj];exact cpos),λ M hM hle=>?_⟩;obtain ⟨m,rfl,hm,mle⟩:=sI hM hle;exact ⟨D,cl,m,rfl,hD,hm,cle,λ t H' g ht=>k m t H' hm mle g ht⟩
def oE:Sp:=λ vs H Q _=>∃ (a:ah) (ns:List Nat) (v q:Nat),vs=[.ref a,vn v,vn q]/\H a=some (.tup (ns.map vn))/\v∈ns/\ns.length<=900 /\
 ∀ (M:Nat) (t:ah) (H':Hp),M∈qF ns v q->(∀ i∈qF ns v q,M<=i)->Same H H'->H' t=some (.tup ((rot (qF ns v q) M).map vn))->Q (.ref t) H'
theorem kCI (ns:List Nat) (v q:Nat):(ns.map vn).take (ns.idxOf v+1)++[vn q]++(ns.map vn).drop (ns.idxOf v+1)=(qF ns v q).map vn:=by
 unfold qF;rw [gq,iW,BG,Ae,eh]
 rfl
theorem gZ {f:ah} {fd:eO} (F:Fun K "with_behind" "with_behind" jR f fd) (vT:Own.Has P w K mg base "from_least" ["row"] 2 (gH)):FnOk P w K mg base CX0 3 f fd ["row","place","added"] (oE):=by
 refine F.ok sc_with_behind (λ vs H Q E h=>?_) (λ cdv A outer s H vs Q E hr h=>?_)
 ·obtain ⟨a,ns,v,q,rfl,_⟩:=h
  rfl
 obtain ⟨D,cl,v,q,rfl,hD,hv,cle,k⟩:=h
 refine ⟨_,(kD (kT (i:=3) sc_with_behind.nd rfl (cz rfl) (qC jM (jA mw mz ng vI (pv 0) (kA (pv 1) kB)) kO))
   (kJ (kW (Own.pe_has vT (hr.mono (by decide)) rfl (kA (qC fT (qC fT (xE bC (pv 0) zS (xK (pv 3))) (jK (kA (pv 2) kB))) (xE bC (pv 0) (xK (pv 3)) zS)) kB))))),?_⟩
 have il:=iA hv;have lv:(cl.map vn).length=cl.length:=aj _;have ec:((cl.idxOf v:Nat):Int)+1=((cl.idxOf v+1:Nat):Int):=by omega
 refine ⟨_,rfl,.inr (.inl ⟨rfl,.inr ⟨_,hD⟩⟩),_,rfl,D,cl.map ci,v,cl.idxOf v,rfl,rfl,SqT.of (by rw [hD,jL]),qE hv,_,_,rfl,rfl,?_⟩;dsimp only;rw [ec]
 have ni:(qF cl v q)≠[]:=λ z=>by
  have:=jD (w:=q) hv;rw [z] at this;simp at this
 have li:(qF cl v q).length<=1000:=by rw [jD hv];omega
 by_cases wh:cl.idxOf v+1=cl.length
 ·have ei:cl.map vn++[vn q]=(qF cl v q).map vn:=by
   rw [<-kCI,wh,<-lv,ig,DQ,ir]
  refine ⟨_,rfl,_,rfl,_,rfl,.inr ⟨D,_,rfl,SqT.of hD,⟨HT.sIx_none _ _,by rw [lv,wh];exact oR (be _)⟩,?_⟩⟩;refine ⟨_,rfl,yS1,λ p2 n2=>?_⟩;have h2:=kI n2 (.tup [vn q]);refine ⟨D,p2,_,_,rfl,rfl,SqT.of (h2 _ _ hD),SqT.of kC,(λ c=>by rw [wo] at c;rw [c] at hv;cases hv),(by rw [lv];exact gO (by show cl.length+1<=1000;omega)),(λ c=>by cases c),λ _ p3 n3=>?_⟩;have h3:=kI n3 (.tup (cl.map vn++[vn q]));have h23:=h2.trans h3;refine ⟨_,rfl,_,rfl,_,rfl,.inl ⟨D,_,rfl,SqT.of (h23 _ _ hD),(λ c=>by rw [lv,bI (by omega)] at c;omega),λ p4 n4=>?_⟩⟩;rw [uX _ (by rw [lv];omega)];have ed:(cl.map vn).drop (cl.idxOf v+1)=[]:=by rw [wh,<-lv,DQ]
  have h4:=kI n4 (.tup ((cl.map vn).drop (cl.idxOf v+1)));have hp3:=h4 _ _ (kC (H:=upd H p2 (.tup [vn q])) (a:=p3) (o:=.tup (cl.map vn++[vn q])));refine ⟨p3,p4,_,_,rfl,rfl,SqT.of hp3,SqT.of kC,(λ c=>by simp at c),(by rw [ed,eI,lv];exact gO (by show cl.length+1+0<=1000;omega)),λ _=>?_,λ c=>absurd ed c⟩;exact ⟨p3,qF cl v q,rfl,.inr (by rw [hp3,ei]),ni,li,λ M t H' hM hle g ht=>k M t H' hM hle (h23.trans (h4.trans g)) ht⟩
 ·have l1:cl.idxOf v+1<cl.length:=by omega
  refine ⟨_,rfl,_,rfl,_,rfl,.inl ⟨D,_,rfl,SqT.of hD,(λ c=>by rw [lv,oR (by omega)] at c;omega),λ p1 n1=>?_⟩⟩;rw [dR _ (by rw [lv];omega)];have h1:=kI n1 (.tup ((cl.map vn).take (cl.idxOf v+1)));refine ⟨_,rfl,yS1,λ p2 n2=>?_⟩;have h2:=kI n2 (.tup [vn q]);refine ⟨p1,p2,_,_,rfl,rfl,SqT.of (h2 _ _ kC),SqT.of kC,(λ c=>by have:=congrArg iP c;rw [fb,lv,qc] at this;omega),(by rw [fb,lv];exact gO (by show min _ _+1<=1000;omega)),(λ c=>by cases c),λ _ p3 n3=>?_⟩;have h3:=kI n3 (.tup ((cl.map vn).take (cl.idxOf v+1)++[vn q]));have h13:=h1.trans (h2.trans h3);refine ⟨_,rfl,_,rfl,_,rfl,.inl ⟨D,_,rfl,SqT.of (h13 _ _ hD),(λ c=>by rw [lv,bI (by omega)] at c;omega),λ p4 n4=>?_⟩⟩;rw [uX _ (by rw [lv];omega)];have h4:=kI n4 (.tup ((cl.map vn).drop (cl.idxOf v+1)));refine ⟨p3,p4,_,_,rfl,rfl,SqT.of (h4 _ _ kC),SqT.of kC,(λ c=>by simp at c),(by rw [eI,fb,iV,lv];exact gO (by show min _ _+1+_<=1000;omega)),(λ c=>by have:=congrArg iP c;rw [iV,lv,qc] at this;omega),λ _ p5 n5=>?_⟩;have h5:=kI n5 (.tup ((cl.map vn).take (cl.idxOf v+1)++[vn q]++(cl.map vn).drop (cl.idxOf v+1)));exact ⟨p5,qF cl v q,rfl,.inr (by rw [kC,kCI]),ni,li,λ M t H' hM hle g ht=>k M t H' hM hle (h13.trans (h4.trans (h5.trans g))) ht⟩
theorem bZ (s:Nat) (row:List Nat):inV (vn s) (row.map vn)=decide (s∈row):=by
 unfold inV;rw [jl,BH,decide_eq_true_iff];constructor
 ·rintro ⟨y,hy,e⟩
  obtain ⟨n,hn,rfl⟩:=gi.mp hy;have:(n:Int)=s:=by simpa [eqV,vn] using e
  rw [show s=n by omega];exact hn
 ·intro h
  exact ⟨vn s,gi.mpr ⟨s,h,rfl⟩,by simp [eqV,vn]⟩
theorem uW (row:List Nat):(row.map vn).all aL=true:=by
 rw [yt];intro y hy;obtain ⟨n,hn,rfl⟩:=gi.mp hy
 rfl
def cV:Sp:=λ vs H Q _=>∃ (t z:ah) (W:Rows) (p q:Nat),vs=[.ref t,.ref z]/\WebAt H t W/\H z=some (.tup [vn p,vn q])/\Nb W/\E W p q /\
 ∀ (y:ah) (H':Hp),Same H H'->H y=none->H' y=some (.tup [vn (nxt W (p,q)).1,vn (nxt W (p,q)).2])->Q (.ref y) H'
theorem kBT {W:Rows} (S:Nb W) {q v p:Nat} (h:R W q v p):∃ row,W[q]?=some row/\p∈row/\xO row p=some v:=by
 obtain ⟨row,e,n⟩:=h;exact ⟨row,e,(kX n).2,kBU (S.nd _ _ e) n⟩
theorem kDS {f:ah} {fd:eO} (F:Fun K "behind" "behind" vF f fd):FnOk P w K mg base CX0 1 f fd ["web","step"] (cV):=by
 refine F.ok sc_behind (λ vs H Q E h=>?_) (λ cdv A outer s H vs Q E hr h=>?_)
 ·obtain ⟨t,z,W,p,q,rfl,_⟩:=h
  rfl
 obtain ⟨t,z,W,p,q,rfl,hW,hz,S,hE,k⟩:=h
 refine ⟨_,(kD (xZ (pv 1) (xQ rfl (kU (kM (i:=2) sc_behind.nd rfl (cz rfl)) (kU (kM (i:=3) sc_behind.nd rfl (cz rfl)) jG))))
   (kD (kT (i:=4) sc_behind.nd rfl (cz rfl) (qA jF (pv 0) (pv 3) (λ _ _=>rfl)))
   (kJ (kW (jK (kA (pv 3) (kA (qA jF (pv 4) (qC dB (jA mw mz ng vI (pv 4) (kA (pv 2) kB)) kO) (λ _ _=>rfl)) kB))))))),?_⟩
 obtain ⟨v,rv,en,_⟩:=wU S hE;obtain ⟨row,hq,hp,hv⟩:=kBT S rv;obtain ⟨ts,h1,_,h3⟩:=hW.at;obtain ⟨b,e1,e2⟩:=h3 q row hq;rw [en] at k;refine ⟨_,rfl,z,_,rfl,SqT.of hz,rfl,_,_,rfl,_,_,rfl,rfl,?_⟩;refine ⟨_,rfl,_,rfl,t,_,_,_,rfl,rfl,SqT.of h1,e1,?_⟩;refine ⟨_,rfl,_,rfl,_,rfl,.inr (.inl ⟨rfl,.inr ⟨_,e2⟩⟩),_,rfl,b,row.map ci,p,row.idxOf p,rfl,rfl,SqT.of (by rw [e2,jL]),qE hp,_,_,rfl,rfl,b,_,_,_,rfl,rfl,SqT.of e2,rE hp hv,yS2,λ y ny=>?_⟩;exact k y _ (kI ny _) ny kC
def prD (x y:Nat):AR:=.tuple [.int (x:Int),.int (y:Int)]
theorem zA (x y:Nat):qx (prD x y)=true:=by
 first | rfl | simp [prD,qx,EJ,oh,FH,Di]
theorem fR (x y u v:Nat):qf (prD x y) (prD u v)=decide (x=u/\y=v):=by
 have e:∀ i j:Nat,((i:Int) == (j:Int))=decide (i=j):=λ i j=>by
  rw [jl,beq_iff_eq,decide_eq_true_iff];omega
 simp [prD,qf,Ez,e]
theorem nS {K:au} {H:Hp} {z:ah} {x y:Nat} (h:H z=some (.tup [vn x,vn y])):Dt K H (prD x y) (.ref z):=by
 unfold prD Dt;exact ⟨z,_,rfl,SqT.of h,by simp only [DtAll,Dt];exact ⟨_,_,rfl,rfl,_,_,rfl,rfl,rfl⟩⟩
def PairsAt (H:Hp) (s:ah) (T:List (Nat×Nat)):Prop:=∃ ss:List ah,H s=some (.lst (ss.map V.ref))/\ss.length=T.length/\∀ (i:Nat) (b:ah) (t:Nat×Nat),ss[i]?=some b->T[i]?=some t->H b=some (.tup [vn t.1,vn t.2])
theorem PairsAt.kept {H H':Hp} {s:ah} {T:List (Nat×Nat)} (h:PairsAt H s T) (g:Same H H'):PairsAt H' s T:=by
 obtain ⟨ss,h1,h2,h3⟩:=h;exact ⟨ss,g _ _ h1,h2,λ i b t e1 e2=>g _ _ (h3 i b t e1 e2)⟩
theorem PairsAt.app {H H':Hp} {s b:ah} {ss:List ah} {T:List (Nat×Nat)} {t:Nat×Nat} (h1:H s=some (.lst (ss.map V.ref))) (h2:ss.length=T.length) (h3:∀ (i:Nat) (b:ah) (t:Nat×Nat),ss[i]?=some b->T[i]?=some t->H b=some (.tup [vn t.1,vn t.2])) (hb:H b=some (.tup [vn t.1,vn t.2])) :
  PairsAt (upd H s (.lst (ss.map V.ref++[.ref b]))) s (T++[t]):=by
 refine ⟨ss++[b],by rw [gq];exact kC,by simp [h2],λ i c u e1 e2=>?_⟩;have cs:c≠s->upd H s (.lst (ss.map V.ref++[.ref b])) c=H c:=λ z=>kH z;by_cases hl:i<ss.length
 ·rw [cu hl] at e1
  rw [cu (by omega)] at e2;have:=h3 i c u e1 e2;rw [cs (zK this h1 (by simp))];exact this
 ·have:i=ss.length:=by
   have:=(ag.mp e1).1;simp at this;omega
  subst this;rw [km] at e1;rw [h2,km] at e2;cases e1
  cases e2
  rw [cs (zK hb h1 (by simp))];exact hb
def orb (W:Rows) (p q k:Nat):List (Nat×Nat):=(fc k).map λ i=>it (nxt W) i (p,q)
theorem rX (W:Rows) (p q k:Nat):orb W p q (k+1)=orb W p q k++[it (nxt W) k (p,q)]:=by
 unfold orb;rw [yw,gq]
 rfl
theorem aH (W:Rows) (p q k:Nat):(orb W p q k).length=k:=by simp [orb]
structure Turns (W:Rows) (p q k:Nat):Prop where
 pos:0<k
 back:it (nxt W) k (p,q)=(p,q)
 first:∀ j,0<j->j<k->it (nxt W) j (p,q)≠(p,q)
 few:k<=(kK W).length
theorem rP {W:Rows} (S:Nb W) {p q:Nat} (h:E W p q):∃ k,Turns W p q k:=by
 obtain ⟨k,h1,h2,h3,h4⟩:=(uK S.nd S.sym).comes (mem_steps.mpr h);exact ⟨k,h1,h3,h4,h2⟩
theorem Turns.mem {W:Rows} {p q k:Nat} (h:Turns W p q k) (t:Nat×Nat):t∈orb W p q k↔∃ j,it (nxt W) j (p,q)=t:=by
 unfold orb;rw [gi];constructor
 ·rintro ⟨i,_,e⟩
  exact ⟨i,e⟩
 ·rintro ⟨j,e⟩
  refine ⟨j % k,iM.mpr (AZ _ h.pos),?_⟩;rw [<-aS _ _ h.back];exact e
theorem jQ {W:Rows} (S:Nb W) (h:W.length<=42):(kK W).length<=1764:=by
 rw [qQ]
 have:∀ (L:List (List Nat)) (n:Nat),(∀ r∈L,r.length<=n)->(L.map iP).sum<=L.length*n:=λ L n hL=>by
  induction L with
  | nil=>simp
  | cons r L ih =>
   have h1:=hL r (by simp);have h2:=ih λ r hr=>hL r (by simp [hr]);simp only [iW,AV,iE,Nat.add_mul,Nat.one_mul];omega
 have h1:=this W W.length λ r hr=>by
  obtain ⟨i,hi,rfl⟩:=ft.mp hr;exact S.len (aa hi)
 have h2:W.length*W.length<=42*42:=Nat.mul_le_mul h h;omega
def zH:Sp:=λ vs H Q _=>∃ (w z:ah) (W:Rows) (p q:Nat),vs=[.ref w,.ref z]/\WebAt H w W/\Nb W/\W.length<=42/\H z=some (.tup [vn p,vn q])/\E W p q /\
 ∀ (s:ah) (k:Nat) (H':Hp),Same H H'->Turns W p q k->PairsAt H' s (orb W p q k)->Q (.ref s) H'
def lO:Option HO->Nat
 | some (.lst xs)=>xs.length
 | some (.dK kvs)=>kvs.length
 | _=>0
def kON (K0:Nat) (σ:St) (H:Hp):Nat:=match σ with
 | [_,_,some (.ref s),_]=>K0-lO (H s)
 | _=>0
theorem hG {f:ah} {fd:eO} (F:Fun K "steps_round" "steps_round" jS f fd) (cB:Own.Has P w K mg base "behind" ["web","step"] 1 (cV)):FnOk P w K mg base CX0 2 f fd ["web","step"] (zH):=by
 refine F.ok sc_steps_round (λ vs H Q E h=>?_) (λ cdv A outer s0 H vs Q E hr h=>?_)
 ·obtain ⟨w,z,W,p,q,rfl,_⟩:=h
  rfl
 obtain ⟨w,z,W,p,q,rfl,hW,S,h30,hz,hE,k⟩:=h
 refine ⟨_,(kD (kT (i:=2) sc_steps_round.nd rfl (cz rfl) (jZ (kA (pv 1) kB)))
   (kD (kT (i:=3) sc_steps_round.nd rfl (cz rfl) (Own.pe_has cB (hr.mono (by decide)) rfl (kA (pv 0) (kA (pv 1) kB))))
   (kD (bL gj (qI (kAH hr.units) (pv 3) (pv 1) (qZ _)) (kD (qB (jA dc ml mm wG (pv 2) (kA (pv 3) kB)))
   (kJ (kT (i:=3) sc_steps_round.nd rfl (cz rfl) (Own.pe_has cB (hr.mono (by decide)) rfl (kA (pv 0) (kA (pv 3) kB)))))))
   (kJ (kW (pv 2)))))),?_⟩
 obtain ⟨n,T⟩:=rP S hE;have few:=jQ S h30;have n9:=T.few;refine ⟨_,rfl,yS1,λ s ns=>?_⟩;have gs:=kI ns (.lst [.ref z]);refine ⟨_,rfl,_,rfl,w,z,W,p,q,rfl,hW.kept gs,gs _ _ hz,S,hE,λ y H1 g1 ny hy=>?_⟩;have hs1:=g1 _ _ (kC (H:=H) (a:=s) (o:=.lst [.ref z]));have g01:=gs.trans g1
 refine aW (λ σ H2=>∃ (y:ah) (i:Nat) (ss:List ah),σ=[some (.ref w),some (.ref z),some (.ref s),some (.ref y)]/\Same H H2/\0<i/\i<=n /\
   H2 s=some (.lst (ss.map V.ref))/\ss.length=i/\(∀ (j:Nat) (b:ah) (t:Nat×Nat),ss[j]?=some b->(orb W p q i)[j]?=some t->H2 b=some (.tup [vn t.1,vn t.2]))/\H2 y=some (.tup [vn (it (nxt W) i (p,q)).1,vn (it (nxt W) i (p,q)).2])) (kON (n+1))
  ⟨y,1,[z],rfl,g01,by omega,T.pos,hs1,rfl,(λ j b t e1 e2=>?_),hy⟩ ?_ ?_
 ·match j,e1 with
  | 0,e1 =>
   cases e1
   have:t=(p,q):=by
    have:(orb W p q 1)[0]?=some (p,q):=rfl;rw [this] at e2;exact (du e2).symm
   rw [this];exact g01 _ _ hz
 ·rintro σ H2 ⟨y,i,ss,rfl,g2,i0,i1,hs,ls,hss,hy⟩
  have hz2:=g2 _ _ hz;refine ⟨_,rfl,_,rfl,_,prD p q,nS hy,nS hz2,zA _ _,zA _ _,_,rfl,?_⟩;rw [fR];by_cases c:it (nxt W) i (p,q)=(p,q)
  ·rw [decide_eq_true (by rw [c];exact ⟨rfl,rfl⟩)]
   have:i=n:=by
    rcases iU i n with l | l
    ·exact absurd c (T.first i i0 l)
    ·omega
   subst this;exact ⟨_,rfl,k s i H2 g2 T ⟨ss,hs,by rw [aH];exact ls,hss⟩⟩
  ·rw [decide_eq_false (λ z=>c (vi z.1 z.2))]
   have lt:i<n:=by
    rcases iU i n with l | l
    ·exact l
    ·exact absurd (by rw [show i=n by omega];exact T.back) c
   refine ⟨_,rfl,.inl ⟨rfl,_,SqL.of hs⟩,_,rfl,s,_,_,rfl,rfl,hs,(by rw [aj];exact qU (by omega)),?_⟩;have A1:=PairsAt.app (H':=H2) hs (by rw [aH];exact ls) hss (t:=it (nxt W) i (p,q)) hy;rw [<-rX] at A1;have gu:Same H (upd H2 s (.lst (ss.map V.ref++[V.ref y]))):=qK ns g2;have sy:y≠s:=zK hy hs (by simp);have hyu:upd H2 s (.lst (ss.map V.ref++[V.ref y])) y=some (.tup [vn (it (nxt W) i (p,q)).1,vn (it (nxt W) i (p,q)).2]):=by rw [kH sy];exact hy
   generalize upd H2 s (.lst (ss.map V.ref++[V.ref y]))=H3 at *;refine ⟨_,rfl,_,rfl,w,y,W,_,_,rfl,hW.kept gu,hyu,S,bV S hE i,λ y' H4 g4 ny' hy'=>?_⟩;obtain ⟨ss',b1,b2,b3⟩:=A1.kept g4;rw [aH] at b2;refine ⟨⟨y',i+1,ss',rfl,gu.trans g4,by omega,lt,b1,b2,b3,hy'⟩,?_⟩;show n+1-lO (H4 s)<n+1-lO (H2 s);rw [b1,hs];show n+1-(ss'.map V.ref).length<n+1-(ss.map V.ref).length;rw [aj,aj,b2,ls];clear hss b3 few;omega
 ·rintro σ H1 Q1 Q2 m ⟨v,e1,v2,e2,d,e,h1,h2,h3,h4,kk,e5,q1⟩
  exact ⟨v,e1,v2,e2,d,e,h1,h2,h3,h4,kk,e5,m _ _ q1⟩
def gK:Sp:=λ vs H Q _=>∃ (w z:ah) (W:Rows) (p q:Nat),vs=[.ref w,.ref z]/\WebAt H w W/\H z=some (.tup [vn p,vn q])/\E W p q/\Q (.bl true) H
theorem kAN {f:ah} {fd:eO} (F:Fun K "is_step" "is_step" wC f fd) (z_len:mg "len" = none):FnOk P w K mg base CX0 1 f fd ["web","pair"] (gK):=by
 refine F.ok sc_is_step (λ vs H Q E h=>?_) (λ cdv A outer s H vs Q E hr h=>?_)
 ·obtain ⟨w,z,W,p,q,rfl,_⟩:=h
  rfl
 obtain ⟨w,z,W,p,q,rfl,hW,hz,⟨row,er,m⟩,k⟩:=h
 refine ⟨_,(kD (xZ (pv 1) (xQ rfl (kU (kM (i:=2) sc_is_step.nd rfl (cz rfl)) (kU (kM (i:=3) sc_is_step.nd rfl (cz rfl)) jG))))
   (kJ (kW (kLV (kGG kOK kGH kO (pv 2) (kL kQ rfl z_len fe (kA (pv 0) kB))) (kLU (bN mW (pv 3) (qA jF (pv 0) (pv 2) (λ _ _=>rfl)) rfl)))))),?_⟩
 obtain ⟨ts,h1,lts,h3⟩:=hW.at;obtain ⟨b,e1,e2⟩:=h3 p row er;have hp:=(ag.mp er).1;refine ⟨_,rfl,z,_,rfl,SqT.of hz,rfl,_,_,rfl,_,_,rfl,rfl,?_⟩;refine ⟨_,rfl,_,_,rfl,rfl,_,rfl,?_⟩;rw [decide_eq_true (show (0:Int)<=(p:Int) by omega)];refine uN ⟨_,rfl,w,_,rfl,.inr (SqT.of h1),_,_,rfl,rfl,_,rfl,?_⟩;rw [decide_eq_true (show (p:Int)<((ts.map V.ref).length:Int) by rw [aj,lts];omega)];refine uN ⟨_,rfl,_,rfl,_,rfl,w,_,_,_,rfl,rfl,SqT.of h1,e1,b,_,rfl,.inr (SqT.of e2),rfl,uW _,?_⟩;rw [if_neg (by decide),bZ,decide_eq_true m];exact k
def kPV (K0:Nat) (σ:St) (H:Hp):Nat:=match σ with
 | [_,_,_,_,some (.ref s)]=>K0-lO (H s)
 | _=>0
theorem kCB {H:Hp} {w:ah} {W:Rows} (hW:WebAt H w W) (S:Nb W) {x y:Nat} (hE:E W x y):∃ (row:List Nat) (b:ah) (ts:List ah),atI (ts.map V.ref) (y:Int)=some (.ref b)/\H w=some (.tup (ts.map V.ref))/\H b=some (.tup (row.map vn))/\x∈row/\atI (row.map vn) ((row.idxOf x:Int)-1)=some (vn (nxt W (x,y)).2)/\(nxt W (x,y)).1=y:=by
 obtain ⟨v,rv,en,_⟩:=wU S hE;obtain ⟨row,hq,hp,hv⟩:=kBT S rv;obtain ⟨ts,h1,_,h3⟩:=hW.at;obtain ⟨b,e1,e2⟩:=h3 y row hq;exact ⟨row,b,ts,e1,h1,e2,hp,by rw [en];exact rE hp hv,by rw [en]⟩
theorem pG {f:ah} {fd:eO} (F:Fun K "_law_round" "_law_round" yE f fd):FnOk P w K mg base CX0 1 f fd ["_law_web_here","_law_step_here"] (zH):=by
 refine F.ok sc_law_round (λ vs H Q E h=>?_) (λ cdv A outer s0 H vs Q E hr h=>?_)
 ·obtain ⟨w,z,W,p,q,rfl,_⟩:=h
  rfl
 obtain ⟨w,z,W,p,q,rfl,hW,S,h30,hz,hE,k⟩:=h
 refine ⟨_,(kD (xZ (pv 1) (xQ rfl (kU (kM (i:=2) sc_law_round.nd rfl (cz rfl)) (kU (kM (i:=3) sc_law_round.nd rfl (cz rfl)) jG))))
   (kD (kT (i:=4) sc_law_round.nd rfl (cz rfl) (jZ (kA (pv 1) kB)))
   (kD (kFZ (i:=2) (j:=3) rfl sc_law_round.nd rfl rfl (by decide) rfl rfl (kA (pv 3) (kA (qA jF (qA jF (pv 0) (pv 3) (λ _ _=>rfl)) (qC dB (jA mw mz ng vI (qA jF (pv 0) (pv 3) (λ _ _=>rfl)) (kA (pv 2) kB)) kO) (λ _ _=>rfl)) kB)) rfl)
   (kD (bL gj (qI (kAH hr.units) (jK (kA (pv 2) (kA (pv 3) kB))) (pv 1) (qZ _)) (kD (qB (jA dc ml mm wG (pv 4) (kA (jK (kA (pv 2) (kA (pv 3) kB))) kB)))
   (kJ (kFZ (i:=2) (j:=3) rfl sc_law_round.nd rfl rfl (by decide) rfl rfl (kA (pv 3) (kA (qA jF (qA jF (pv 0) (pv 3) (λ _ _=>rfl)) (qC dB (jA mw mz ng vI (qA jF (pv 0) (pv 3) (λ _ _=>rfl)) (kA (pv 2) kB)) kO) (λ _ _=>rfl)) kB)) rfl))))
   (kJ (kW (pv 4))))))),?_⟩
 obtain ⟨n,T⟩:=rP S hE;have few:=jQ S h30;have n9:=T.few;refine ⟨_,rfl,z,_,rfl,SqT.of hz,rfl,_,_,rfl,_,_,rfl,rfl,?_⟩;refine ⟨_,rfl,yS1,λ s ns=>?_⟩;have gs:=kI ns (.lst [.ref z]);have hs1:=kC (H:=H) (a:=s) (o:=.lst [.ref z]);generalize upd H s (.lst [.ref z])=H1 at *;obtain ⟨row,b,ts,e1,e2,e3,e4,e5,e6⟩:=kCB (hW.kept gs) S hE;refine ⟨_,rfl,_,rfl,_,rfl,w,_,_,_,rfl,rfl,SqT.of e2,e1,_,rfl,_,rfl,w,_,_,_,rfl,rfl,SqT.of e2,e1,.inr (.inl ⟨rfl,.inr ⟨_,e3⟩⟩),_,rfl,b,row.map ci,p,row.idxOf p,rfl,rfl,SqT.of (by rw [e3,jL]),qE e4,_,_,rfl,rfl,b,_,_,_,rfl,rfl,SqT.of e3,e5,_,_,rfl,?_⟩;have f1:vn (it (nxt W) 1 (p,q)).1=vn q:=congrArg vn e6
 refine aW (λ σ H2=>∃ (i:Nat) (ss:List ah),σ=[some (.ref w),some (.ref z),some (vn (it (nxt W) i (p,q)).1),some (vn (it (nxt W) i (p,q)).2),some (.ref s)]/\Same H H2/\0<i/\i<=n /\
   H2 s=some (.lst (ss.map V.ref))/\ss.length=i/\(∀ (j:Nat) (b:ah) (t:Nat×Nat),ss[j]?=some b->(orb W p q i)[j]?=some t->H2 b=some (.tup [vn t.1,vn t.2]))) (kPV (n+1))
  ⟨1,[z],(by rw [f1];rfl),gs,by omega,T.pos,hs1,rfl,(λ j b t e1 e2=>?_)⟩ ?_ ?_
 ·match j,e1 with
  | 0,e1 =>
   cases e1
   have:t=(p,q):=by
    have:(orb W p q 1)[0]?=some (p,q):=rfl;rw [this] at e2;exact (du e2).symm
   rw [this];exact gs _ _ hz
 ·rintro σ H2 ⟨i,ss,rfl,g2,i0,i1,hs,ls,hss⟩
  refine ⟨_,rfl,_,rfl,yS2,λ u nu=>?_⟩;have gu:=kI nu (.tup [vn (it (nxt W) i (p,q)).1,vn (it (nxt W) i (p,q)).2]);have hz2:=gu _ _ (g2 _ _ hz);refine ⟨_,rfl,_,prD p q,nS kC,nS hz2,zA _ _,zA _ _,_,rfl,?_⟩;rw [fR];by_cases c:it (nxt W) i (p,q)=(p,q)
  ·rw [decide_eq_true (by rw [c];exact ⟨rfl,rfl⟩)]
   have:i=n:=by
    rcases iU i n with l | l
    ·exact absurd c (T.first i i0 l)
    ·omega
   subst this;exact ⟨_,rfl,k s i _ (g2.trans gu) T ⟨ss,gu _ _ hs,by rw [aH];exact ls,λ j b t e1 e2=>gu _ _ (hss j b t e1 e2)⟩⟩
  ·rw [decide_eq_false (λ z=>c (vi z.1 z.2))]
   have lt:i<n:=by
    rcases iU i n with l | l
    ·exact l
    ·exact absurd (by rw [show i=n by omega];exact T.back) c
   have hsu:=gu _ _ hs;have hssu:∀ (j:Nat) (b:ah) (t:Nat×Nat),ss[j]?=some b->(orb W p q i)[j]?=some t->upd H2 u (.tup [vn (it (nxt W) i (p,q)).1,vn (it (nxt W) i (p,q)).2]) b=some (.tup [vn t.1,vn t.2]):=λ j b t e1 e2=>gu _ _ (hss j b t e1 e2);have g2u:=g2.trans gu;generalize upd H2 u (.tup [vn (it (nxt W) i (p,q)).1,vn (it (nxt W) i (p,q)).2])=H3 at *;refine ⟨_,rfl,.inl ⟨rfl,_,SqL.of hsu⟩,_,rfl,_,rfl,yS2,λ y ny=>?_⟩;have gy:=kI ny (.tup [vn (it (nxt W) i (p,q)).1,vn (it (nxt W) i (p,q)).2]);have hy:=kC (H:=H3) (a:=y) (o:=.tup [vn (it (nxt W) i (p,q)).1,vn (it (nxt W) i (p,q)).2]);have hs4:=gy _ _ hsu;have hss4:∀ (j:Nat) (b:ah) (t:Nat×Nat),ss[j]?=some b->(orb W p q i)[j]?=some t->upd H3 y (.tup [vn (it (nxt W) i (p,q)).1,vn (it (nxt W) i (p,q)).2]) b=some (.tup [vn t.1,vn t.2]):=λ j b t e1 e2=>gy _ _ (hssu j b t e1 e2);have g4:=g2u.trans gy;generalize upd H3 y (.tup [vn (it (nxt W) i (p,q)).1,vn (it (nxt W) i (p,q)).2])=H4 at *;refine ⟨s,_,_,rfl,rfl,hs4,(by rw [aj];exact qU (by omega)),?_⟩;have A1:=PairsAt.app (H':=H4) hs4 (by rw [aH];exact ls) hss4 (t:=it (nxt W) i (p,q)) hy;rw [<-rX] at A1;have g5:Same H (upd H4 s (.lst (ss.map V.ref++[V.ref y]))):=qK ns g4;generalize upd H4 s (.lst (ss.map V.ref++[V.ref y]))=H5 at *;obtain ⟨row,b,ts,e1,e2,e3,e4,e5,e6⟩:=kCB (hW.kept g5) S (bV S hE i);refine ⟨_,rfl,_,rfl,_,rfl,w,_,_,_,rfl,rfl,SqT.of e2,e1,_,rfl,_,rfl,w,_,_,_,rfl,rfl,SqT.of e2,e1,.inr (.inl ⟨rfl,.inr ⟨_,e3⟩⟩),_,rfl,b,row.map ci,_,row.idxOf (it (nxt W) i (p,q)).1,rfl,rfl,SqT.of (by rw [e3,jL]),qE e4,_,_,rfl,rfl,b,_,_,_,rfl,rfl,SqT.of e3,e5,_,_,rfl,?_⟩;obtain ⟨ss',b1,b2,b3⟩:=A1;rw [aH] at b2;have f1:vn (it (nxt W) (i+1) (p,q)).1=vn (it (nxt W) i (p,q)).2:=congrArg vn e6;refine ⟨⟨i+1,ss',(by rw [f1];rfl),g5,by omega,lt,b1,b2,b3⟩,?_⟩;show n+1-lO (H5 s)<n+1-lO (H2 s);rw [b1,hs];show n+1-(ss'.map V.ref).length<n+1-(ss.map V.ref).length;rw [aj,aj,b2,ls];clear hss b3 few;omega
 ·rintro σ H1 Q1 Q2 m ⟨v,e1,v2,e2,h0,kk⟩
  refine ⟨v,e1,v2,e2,h0,λ u nu=>?_⟩;obtain ⟨v3,e3,d,e,h1,h2,h3,h4,kk',e5,q1⟩:=kk u nu;exact ⟨v3,e3,d,e,h1,h2,h3,h4,kk',e5,m _ _ q1⟩
theorem sU {H:Hp}:∀ {ss:List ah} {T:List (Nat×Nat)},ss.length=T.length->(∀ (i:Nat) (b:ah) (t:Nat×Nat),ss[i]?=some b->T[i]?=some t->H b=some (.tup [vn t.1,vn t.2]))->DtAll K H (T.map λ t=>prD t.1 t.2) (ss.map V.ref)
 | [],[],_,_=>by unfold DtAll;rfl
 | s::ss,t::T,hl,h=>by
  rw [iW,iW];unfold DtAll;exact ⟨_,_,rfl,nS (h 0 s t rfl rfl),sU (by simpa using hl) λ i b u e1 e2=>h (i+1) b u (by simpa using e1) (by simpa using e2)⟩
 | [],_::_,hl,_=>by simp at hl
 | _::_,[],hl,_=>by simp at hl
theorem kNF (T:List (Nat×Nat)) (x y:Nat):((T.map λ t=>prD t.1 t.2).any λ e=>qf e (prD x y))=decide ((x,y)∈T):=by
 rw [jl,BH,decide_eq_true_iff];constructor
 ·rintro ⟨d,hd,e⟩
  obtain ⟨t,ht,rfl⟩:=gi.mp hd;rw [fR,decide_eq_true_iff] at e;rw [<-e.1,<-e.2];exact ht
 ·intro h
  exact ⟨_,gi.mpr ⟨_,h,rfl⟩,by rw [fR,decide_eq_true_iff];exact ⟨rfl,rfl⟩⟩
structure LtAt (H:Hp) (l:ah) (ts:List ah) (W:Rows):Prop where
 top:H l=some (.lst (ts.map V.ref))
 len:ts.length=W.length
 row:∀ (j:Nat) (a:ah) (row:List Nat),ts[j]?=some a->W[j]?=some row->H a=some (.tup (row.map vn))
theorem LtAt.set {H:Hp} {l:ah} {ts:List ah} {W:Rows} (h:LtAt H l ts W) {p:Nat} {t:ah} {r:List Nat} (ht:H t=some (.tup (r.map vn))):LtAt (upd H l (.lst ((ts.map V.ref).set p (.ref t)))) l (ts.set p t) (W.set p r):=by
 have ne:∀ (b:ah) (r:List Nat),H b=some (.tup (r.map vn))->upd H l (.lst ((ts.map V.ref).set p (.ref t))) b=some (.tup (r.map vn)):=λ b r e=>by
  rw [kH (zK e h.top (by simp))];exact e
 refine ⟨by rw [DD];exact kC,by simp [h.len],λ j b row e1 e2=>ne b row ?_⟩;by_cases c:p=j
 ·subst c
  have hp:=(ag.mp e1).1;rw [sg] at hp;rw [fz hp] at e1;rw [fz (by rw [<-h.len];exact hp)] at e2;cases e1
  cases e2
  exact ht
 ·rw [di c] at e1 e2
  exact h.row j b row e1 e2
theorem LtAt.kept {H H':Hp} {l:ah} {ts:List ah} {W:Rows} (h:LtAt H l ts W) (g:Same H H'):LtAt H' l ts W:=⟨g _ _ h.top,h.len,λ j a row e1 e2=>g _ _ (h.row j a row e1 e2)⟩
theorem LtAt.web {H H':Hp} {l t:ah} {ts:List ah} {W:Rows} (h:LtAt H l ts W) (g:Same H H') (ht:H' t=some (.tup (ts.map V.ref))):WebAt H' t W:=⟨ts,ht,h.len,λ j a row e1 e2=>g _ _ (h.row j a row e1 e2)⟩
def kFL:Sp:=λ vs H Q _=>∃ (wa z y:ah) (W:Rows) (p v q u:Nat) (rp rq:List Nat),vs=[.ref wa,.ref z,.ref y]/\WebAt H wa W/\Nb W/\W.length<=42/\H z=some (.tup [vn p,vn v])/\H y=some (.tup [vn q,vn u])/\W[p]?=some rp/\W[q]?=some rq/\v∈rp/\u∈rq/\p≠q/\q∉rp/\(∃ j,it (nxt W) j (p,v)=(q,u)) /\
 ∀ (a b:List Nat) (t:ah) (H':Hp),Ro (qF rp v q) a->Can a->Ro (qF rq u p) b->Can b->Same H H'->WebAt H' t (zQ W p q a b)->Q (.ref t) H'
theorem kDQ {f:ah} {fd:eO} (F:Fun K "put_in" "put_in" vE f fd) (jW:Own.Has P w K mg base "steps_round" ["web","step"] 2 (zH)) (dO:Own.Has P w K mg base "is_step" ["web","pair"] 1 (gK)) (zF:Own.Has P w K mg base "with_behind" ["row","place","added"] 3 (oE)) (z_list:mg "list" = none) (z_tuple:mg "tuple" = none):FnOk P w K mg base CX0 4 f fd ["web","step","other"] (kFL):=by
 refine F.ok sc_put_in (λ vs H Q E h=>?_) (λ cdv A outer s0 H vs Q E hr h=>?_)
 ·obtain ⟨wa,z,y,W,p,v,q,u,rp,rq,rfl,_⟩:=h
  rfl
 obtain ⟨wa,z,y,W,p,v,q,u,rp,rq,rfl,hW,S,h30,hz,hy,hp,hq,hv,hu,pq,nq,orbit,k⟩:=h
 refine ⟨_,(kD (yT (PW.pt (mV (uH (yS (Own.pe_has dO (hr.mono (by decide)) rfl (kA (pv 0) (kA (pv 1) kB))))) (cZ (qI (kDP hr.units65) (pv 2) (Own.pe_has jW (hr.mono (by decide)) rfl (kA (pv 0) (kA (pv 1) kB))) rfl)))) (kJ zE) qX)
   (kD (xZ (pv 1) (xQ rfl (kU (kM (i:=3) sc_put_in.nd rfl (cz rfl)) (kU (kM (i:=4) sc_put_in.nd rfl (cz rfl)) jG))))
   (kD (xZ (pv 2) (xQ rfl (kU (kM (i:=5) sc_put_in.nd rfl (cz rfl)) (kU (kM (i:=6) sc_put_in.nd rfl (cz rfl)) jG))))
   (kD (yT (PW.pt (mV (qI mX (pv 3) (pv 5) (qZ _)) (cZ (qI mW (pv 5) (qA jF (pv 0) (pv 3) (λ _ _=>rfl)) rfl)))) (kJ zE) qX)
   (kD (kT (i:=7) sc_put_in.nd rfl (cz rfl) (jV vX rfl z_list um (kA (pv 0) kB)))
   (kD (xZ (Own.pe_has zF (hr.mono (by decide)) rfl (kA (qA jF (pv 0) (pv 3) (λ _ _=>rfl)) (kA (pv 4) (kA (pv 5) kB)))) (gX (pv 7) (pv 3) uF))
   (kD (xZ (Own.pe_has zF (hr.mono (by decide)) rfl (kA (qA jF (pv 0) (pv 5) (λ _ _=>rfl)) (kA (pv 6) (kA (pv 3) kB)))) (gX (pv 7) (pv 5) uF))
   (kJ (kW (jV jY rfl z_tuple jf (kA (pv 7) kB))))))))))),?_⟩
 have lp:p<W.length:=(ag.mp hp).1;have lq:q<W.length:=(ag.mp hq).1;refine ⟨_,rfl,_,rfl,wa,z,W,p,v,rfl,hW,hz,⟨rp,hp,hv⟩,_,rfl,xB ?_⟩;refine ⟨_,rfl,_,rfl,_,rfl,wa,z,W,p,v,rfl,hW,S,h30,hz,⟨rp,hp,hv⟩,λ s n H1 g1 T PA=>?_⟩;obtain ⟨ss,hs,ls,hss⟩:=PA;have hy1:=g1 _ _ hy;refine ⟨prD q u,_,s,_,rfl,.inl (SqL.of hs),nS hy1,sU ls hss,zA _ _,(λ e he=>?_),_,rfl,?_⟩
 ·obtain ⟨t,_,rfl⟩:=gi.mp he
  exact zA _ _
 rw [if_pos rfl,kNF,decide_eq_true ((T.mem _).mpr orbit)];refine xB ?_;have hz1:=g1 _ _ hz;have W1:=hW.kept g1;obtain ⟨ts,h1,lts,h3⟩:=id W1;obtain ⟨ts',h1',lts',h3'⟩:=W1.at;rw [h1] at h1';have e0:ts.map V.ref=ts'.map V.ref:=HO.tup.inj (du h1');obtain ⟨bp,ep,fp⟩:=h3' p rp hp;obtain ⟨bq,eq',fq⟩:=h3' q rq hq;rw [<-e0] at ep eq';refine ⟨_,rfl,z,_,rfl,SqT.of hz1,rfl,_,_,rfl,_,_,rfl,rfl,?_⟩;refine ⟨_,rfl,y,_,rfl,SqT.of hy1,rfl,_,_,rfl,_,_,rfl,rfl,?_⟩;refine ⟨_,rfl,_,rfl,rfl,_,rfl,?_⟩;rw [decide_eq_false (λ c=>pq (by have:=V.int.inj c;omega))];refine xB ⟨_,rfl,_,rfl,_,rfl,wa,_,_,_,rfl,rfl,SqT.of h1,ep,bp,_,rfl,.inr (SqT.of fp),rfl,uW _,_,rfl,?_⟩;rw [if_neg (by decide),bZ,decide_eq_false nq];refine xB ?_;refine ⟨_,rfl,wa,_,rfl,.inr (SqT.of h1),λ l nl=>?_⟩;have gl:=kI nl (.lst (ts.map V.ref));have L2:LtAt (upd H1 l (.lst (ts.map V.ref))) l ts W:=⟨kC,lts,λ j a row e1 e2=>gl _ _ (h3 j a row e1 e2)⟩;have g2:=g1.trans gl;have w2:=gl _ _ h1;have fp2:=gl _ _ fp;have fq2:=gl _ _ fq;have len_p:=S.len hp;have len_q:=S.len hq;generalize upd H1 l (.lst (ts.map V.ref))=H2 at *;refine ⟨_,rfl,_,rfl,wa,_,_,_,rfl,rfl,SqT.of w2,ep,_,rfl,_,rfl,bp,rp,v,q,rfl,fp2,hv,by omega,λ M t H3 hM hle g3 ht=>?_⟩;have L3:=L2.kept g3;refine ⟨_,rfl,_,rfl,l,_,_,p,rfl,rfl,L3.top,pU (by rw [aj,lts];exact lp),?_⟩;have L4:=L3.set (p:=p) ht;have n0:H l=none:=g1.free nl;have g4:=qK (o:=.lst ((ts.map V.ref).set p (.ref t))) n0 (g2.trans g3)
 have tk:∀ (b:ah) (xs:List V),H3 b=some (.tup xs)->upd H3 l (.lst ((ts.map V.ref).set p (.ref t))) b=some (.tup xs):=λ b xs e=>by
  rw [kH (zK e L3.top (by simp))];exact e
 have w4:=tk _ _ (g3 _ _ w2);have fq4:=tk _ _ (g3 _ _ fq2);generalize upd H3 l (.lst ((ts.map V.ref).set p (.ref t)))=H4 at *;refine ⟨_,rfl,_,rfl,wa,_,_,_,rfl,rfl,SqT.of w4,eq',_,rfl,_,rfl,bq,rq,u,p,rfl,fq4,hu,by omega,λ M' t' H5 hM' hle' g5 ht'=>?_⟩;have L5:=L4.kept g5;refine ⟨_,rfl,_,rfl,l,_,_,q,rfl,rfl,L5.top,pU (by rw [aj,sg,lts];exact lq),?_⟩;have L6:=L5.set (p:=q) ht';have g6:=qK (o:=.lst (((ts.set p t).map V.ref).set q (.ref t'))) n0 (g4.trans g5);refine ⟨_,rfl,l,_,rfl,.inl ⟨SqL.of kC,λ tt nt=>?_⟩⟩;have gt:=kI nt (.tup (((ts.set p t).map V.ref).set q (.ref t')));refine k (rot (qF rp v q) M) (rot (qF rq u p) M') tt _ (tZ _ _) (oV hM hle) (tZ _ _) (oV hM' hle') (g6.trans gt) (L6.web gt ?_);rw [<-DD];exact kC
theorem nU (k:Bool) {H:Hp} {r D:ah} {A1:List ah} {L:Rows} {N0:St->Hp->Prop} (src:if k then H r=some (.lst (A1.map V.ref)) else H r=some (.tup (A1.map V.ref))) (len:A1.length=L.length) (few:L.length<=150)
  (row:∀ (j:Nat) (a:ah) (row:List Nat),A1[j]?=some a->L[j]?=some row->H a=some (.lst (row.map vn))\/H a=some (.tup (row.map vn))) (nD:H D=none)
  (fin:∀ σ H5 B,RowsAt H5 D B L->(∀ b∈B,H b=none)->Same H H5->N0 σ H5) :
  uD (if k then Itl K r else Itt K r) (sP 0) (kNE D (tCB (λ xs H Q=>∃ p ys,xs=[V.ref p]/\(SqL K H p ys\/SqT K H p ys)/\∀ l,H l=none->Q (V.ref l) (upd H l (.lst ys))) (gE (tO 0) tP))) N0 [none] (upd H D (.lst [])):=by
 have turn:∀ (j:Nat) (x:V) (σ:St) (H5:Hp),(A1.map V.ref)[j]?=some x->(∃ (x:Option V) (B:List ah),σ=[x]/\H5 D=some (.lst (B.map V.ref))/\B.length=j/\B.Nodup/\D∉B/\(∀ (m:Nat) (b:ah) (row:List Nat),B[m]?=some b->L[m]?=some row->H5 b=some (.lst (row.map vn)))/\(∀ b∈B,(∃ o,H5 b=some o)/\H b=none)/\Same H H5) ->
   sP 0 x σ H5 λ σ2 H2=>(kNE D (tCB (λ xs H Q=>∃ p ys,xs=[V.ref p]/\(SqL K H p ys\/SqT K H p ys)/\∀ l,H l=none->Q (V.ref l) (upd H l (.lst ys))) (gE (tO 0) tP))) (λ σ H5=>∃ (x:Option V) (B:List ah),σ=[x]/\H5 D=some (.lst (B.map V.ref))/\B.length=j+1/\B.Nodup/\D∉B/\(∀ (m:Nat) (b:ah) (row:List Nat),B[m]?=some b->L[m]?=some row->H5 b=some (.lst (row.map vn)))/\(∀ b∈B,(∃ o,H5 b=some o)/\H b=none)/\Same H H5) σ2 H2:=by
  rintro j x σ H5 hx ⟨y,B,rfl,hD,lB,nB,DB,hB,tB,g5⟩;rw [bg] at hx;obtain ⟨b0,eb,rfl⟩:=eQ.mp hx;have hj:j<L.length:=by rw [<-len];exact (ag.mp eb).1
  have hrow:=aa hj
  have src0:SqL K H5 b0 (L[j].map vn)\/SqT K H5 b0 (L[j].map vn):=by
   rcases row j b0 _ eb hrow with z | z
   ·exact .inl (SqL.of (g5 _ _ z))
   ·exact .inr (SqT.of (g5 _ _ z))
  refine ⟨_,rfl,b0,_,rfl,src0,λ b nb=>?_⟩;have gb:=kI nb (.lst (L[j].map vn));have hD':=gb _ _ hD;have bD:b≠D:=(kF hD nb).symm;refine ⟨_,hD',(by rw [aj,lB];exact qJ (by omega)),?_⟩;refine ⟨_,B++[b],rfl,(by rw [gq];exact kC),(by rw [eI,lB];rfl),?_,?_,(λ m c row e1 e2=>?_),(λ c hc=>?_),qK nD (g5.trans gb)⟩
  ·rw [iT]
   refine ⟨nB,by simp,λ c hc c' hc'=>?_⟩;rw [fw.mp hc'];obtain ⟨⟨o,eo⟩,_⟩:=tB c hc;exact kF eo nb
  ·intro z
   rcases eY.mp z with w | w
   ·exact DB w
   ·exact bD (fw.mp w).symm
  ·have cD:c≠D:=λ z=>by
    have:=dw e1;rw [z] at this;rcases eY.mp this with w | w
    ·exact DB w
    ·exact bD (fw.mp w).symm
   rw [kH cD];by_cases cm:m<B.length
   ·rw [cu cm] at e1
    exact gb _ _ (hB m c row e1 e2)
   ·have em:m=B.length:=by
     have:=(ag.mp e1).1;rw [eI,iu] at this;omega
    subst em;rw [km] at e1;cases e1
    rw [lB,hrow] at e2;cases e2
    exact kC
  ·rcases eY.mp hc with w | w
   ·obtain ⟨⟨o,eo⟩,n4⟩:=tB c w
    have cD:c≠D:=λ z=>DB (z ▸ w);exact ⟨⟨o,by rw [kH cD];exact gb _ _ eo⟩,n4⟩
   ·rw [fw.mp w]
    exact ⟨⟨_,by rw [kH bD];exact kC⟩,g5.free nb⟩
 have done:∀ (σ:St) (H5:Hp),(∃ (x:Option V) (B:List ah),σ=[x]/\H5 D=some (.lst (B.map V.ref))/\B.length=(A1.map V.ref).length/\B.Nodup/\D∉B/\(∀ (m:Nat) (b:ah) (row:List Nat),B[m]?=some b->L[m]?=some row->H5 b=some (.lst (row.map vn)))/\(∀ b∈B,(∃ o,H5 b=some o)/\H b=none)/\Same H H5)->N0 σ H5:=by
  rintro σ H5 ⟨y,B,rfl,hD,lB,nB,DB,hB,tB,g5⟩;exact fin _ H5 B ⟨hD,by rw [lB,aj];exact len,nB,DB,hB⟩ (λ b hb=>(tB b hb).2) g5
 cases k with
 | true =>
  have src:H r=some (.lst (A1.map V.ref)):=src;show uD (Itl K r) _ _ _ _ _
  exact xG (xs:=A1.map V.ref) (λ j σ H5=>∃ (x:Option V) (B:List ah),σ=[x]/\H5 D=some (.lst (B.map V.ref))/\B.length=j/\B.Nodup/\D∉B/\(∀ (m:Nat) (b:ah) (row:List Nat),B[m]?=some b->L[m]?=some row->H5 b=some (.lst (row.map vn)))/\(∀ b∈B,(∃ o,H5 b=some o)/\H b=none)/\Same H H5)
   ⟨none,[],rfl,kC,rfl,.nil,by simp,(λ m b row e=>by simp at e),(λ b hb=>by cases hb),kI nD _⟩ (λ j σ H5 _ ⟨_,_,_,_,_,_,_,_,_,g5⟩=>SqL.of (g5 _ _ src)) turn done
 | false =>
  have src:H r=some (.tup (A1.map V.ref)):=src;show uD (Itt K r) _ _ _ _ _
  exact aX (xs:=A1.map V.ref) (λ j σ H5=>∃ (x:Option V) (B:List ah),σ=[x]/\H5 D=some (.lst (B.map V.ref))/\B.length=j/\B.Nodup/\D∉B/\(∀ (m:Nat) (b:ah) (row:List Nat),B[m]?=some b->L[m]?=some row->H5 b=some (.lst (row.map vn)))/\(∀ b∈B,(∃ o,H5 b=some o)/\H b=none)/\Same H H5)
   ⟨none,[],rfl,kC,rfl,.nil,by simp,(λ m b row e=>by simp at e),(λ b hb=>by cases hb),kI nD _⟩ (λ j σ H5 _ ⟨_,_,_,_,_,_,_,_,_,g5⟩=>SqT.of (g5 _ _ src)) turn done
def cR:Sp:=λ vs H Q _=>∃ (r:ah) (L:Rows) (p q:Nat) (rp rq:List Nat),vs=[.ref r,vn p,vn q]/\((∃ A,RowsAt H r A L)\/WebAt H r L)/\L.length<=150/\p≠q/\L[p]?=some rp/\L[q]?=some rq/\q∈rp/\p∈rq /\
 ∀ (D:ah) (B:List ah) (H':Hp),RowsAt H' D B (zQ L p q (qP rp q) (qP rq p))->(∀ b∈B,H b=none)->H D=none->Same H H'->Q (.ref D) H'
theorem hJ {f:ah} {fd:eO} (F:Fun K "_law_without" "_law_without" jT f fd) (z_list:mg "list" = none):FnOk P w K mg base CX0 1 f fd ["_law_rows","_law_p","_law_q"] (cR):=by
 refine F.ok sc_law_without (λ vs H Q E h=>?_) (λ cdv A outer s0 H vs Q E hr h=>?_)
 ·obtain ⟨r,L,p,q,rp,rq,rfl,_⟩:=h
  rfl
 obtain ⟨r,L,p,q,rp,rq,rfl,src,h150,pq,hp,hq,mp,mq,k⟩:=h;rcases src with ⟨A1,X⟩ | hW
 ·refine ⟨_,(kD (aF (i:=3) (Nc:=["_law_row"]) (js:=[none]) rfl rfl sc_law_without.nd rfl (cz rfl) (xX (pv 0)) (CS.of rfl rfl) rfl (λ C s₂ H₂ fp pins=>(kM (i:=0) (show iw (α:=Str) ["_law_row"] by decide +kernel) rfl (cz rfl))) (λ C s₂ H₂ fp pins D L=>(xT (zO (jV (show xW _ _ (λ xs H Q=>∃ p ys,xs=[.ref p]/\(SqL K H p ys\/SqT K H p ys)/\∀ l,H l=none->Q (.ref l) (upd H l (.lst ys))) from vX) rfl z_list um (kA (pv 0) kB))))))
   (kD (qB (jA dc jz ka wF (qA kY (pv 3) (pv 1) (λ _ _=>rfl)) (kA (pv 2) kB)))
   (kD (qB (jA dc jz ka wF (qA kY (pv 3) (pv 2) (λ _ _=>rfl)) (kA (pv 1) kB)))
   (kJ (kW (pv 3)))))),?_⟩
  refine ⟨_,rfl,r,rfl,⟨_,SqL.of X.top⟩,λ D nD=>?_⟩;refine nU true (A1:=A1) (L:=L) X.top X.len h150 (λ j a row e1 e2=>.inl (X.row j a row e1 e2)) nD λ σ H5 B Y tB g5=>?_;obtain ⟨ap,e1p,e2p,e3p⟩:=Y.at hp;refine ⟨_,rfl,_,rfl,D,_,_,_,rfl,rfl,SqL.of Y.top,e3p,.inl ⟨rfl,_,SqL.of e2p⟩,_,rfl,ap,rp.map ci,q,rp.idxOf q,rfl,rfl,(by rw [e2p,jL]),qE mp,?_⟩;rw [dQ];have Y1:=Y.set e1p (qP rp q);have hq1:=oO (i:=p) (r:=qP rp q) hq pq;obtain ⟨aq,e1q,e2q,e3q⟩:=Y1.at hq1;refine ⟨_,rfl,_,rfl,D,_,_,_,rfl,rfl,SqL.of Y1.top,e3q,.inl ⟨rfl,_,SqL.of e2q⟩,_,rfl,aq,rq.map ci,p,rq.idxOf p,rfl,rfl,(by rw [e2q,jL]),qE mq,?_⟩;rw [dQ];have Y2:=Y1.set e1q (qP rq p);refine ⟨_,rfl,k D B _ Y2 tB nD λ b o e=>?_⟩;have nb:b∉B:=λ z=>by rw [tB b z] at e;cases e
  rw [kH (λ z=>nb (by rw [z];exact dw e1q)),kH (λ z=>nb (by rw [z];exact dw e1p))];exact g5 b o e
 ·refine ⟨_,(kD (aF (i:=3) (Nc:=["_law_row"]) (js:=[none]) rfl rfl sc_law_without.nd rfl (cz rfl) (gW (pv 0)) (CS.of rfl rfl) rfl (λ C s₂ H₂ fp pins=>(kM (i:=0) (show iw (α:=Str) ["_law_row"] by decide +kernel) rfl (cz rfl))) (λ C s₂ H₂ fp pins D L=>(xT (zO (jV (show xW _ _ (λ xs H Q=>∃ p ys,xs=[.ref p]/\(SqL K H p ys\/SqT K H p ys)/\∀ l,H l=none->Q (.ref l) (upd H l (.lst ys))) from vX) rfl z_list um (kA (pv 0) kB))))))
   (kD (qB (jA dc jz ka wF (qA kY (pv 3) (pv 1) (λ _ _=>rfl)) (kA (pv 2) kB)))
   (kD (qB (jA dc jz ka wF (qA kY (pv 3) (pv 2) (λ _ _=>rfl)) (kA (pv 1) kB)))
   (kJ (kW (pv 3)))))),?_⟩
  obtain ⟨ts,h1,lts,h3⟩:=hW;refine ⟨_,rfl,r,rfl,⟨_,SqT.of h1⟩,λ D nD=>?_⟩;refine nU false (A1:=ts) (L:=L) h1 lts h150 (λ j a row e1 e2=>.inr (h3 j a row e1 e2)) nD λ σ H5 B Y tB g5=>?_;obtain ⟨ap,e1p,e2p,e3p⟩:=Y.at hp;refine ⟨_,rfl,_,rfl,D,_,_,_,rfl,rfl,SqL.of Y.top,e3p,.inl ⟨rfl,_,SqL.of e2p⟩,_,rfl,ap,rp.map ci,q,rp.idxOf q,rfl,rfl,(by rw [e2p,jL]),qE mp,?_⟩;rw [dQ];have Y1:=Y.set e1p (qP rp q);have hq1:=oO (i:=p) (r:=qP rp q) hq pq;obtain ⟨aq,e1q,e2q,e3q⟩:=Y1.at hq1;refine ⟨_,rfl,_,rfl,D,_,_,_,rfl,rfl,SqL.of Y1.top,e3q,.inl ⟨rfl,_,SqL.of e2q⟩,_,rfl,aq,rq.map ci,p,rq.idxOf p,rfl,rfl,(by rw [e2q,jL]),qE mq,?_⟩;rw [dQ];have Y2:=Y1.set e1q (qP rq p);refine ⟨_,rfl,k D B _ Y2 tB nD λ b o e=>?_⟩;have nb:b∉B:=λ z=>by rw [tB b z] at e;cases e
  rw [kH (λ z=>nb (by rw [z];exact dw e1q)),kH (λ z=>nb (by rw [z];exact dw e1p))];exact g5 b o e
theorem kNG {fs:List Nat} {n:Nat} (nd:fs.Nodup) (rng:∀ x∈fs,x<n) (hl:fs.length=n) (p:Nat) (hp:p<n):p∈fs:=by
 by_cases c:p∈fs
 ·exact c
 ·have:(p::fs).Nodup:=iX.mpr ⟨c,nd⟩
  have:=eX this (l₂:=fc n) λ x hx=>iM.mpr (by
   rcases gv.mp hx with rfl | z
   ·exact hp
   ·exact rng x z)
  rw [iN,iE] at this;omega
def muA (n:Nat) (σ:St) (H:Hp):Nat:=match σ with
 | [_,_,some (.int i),_]=>n-i.toNat
 | _=>0
def gL:Sp:=λ vs H Q _=>∃ (r:ah) (A:List ah) (L:Rows),vs=[.ref r]/\RowsAt H r A L/\Nb L/\3<=L.length/\L.length<=150 /\
 ∀ (b:Bool) (H':Hp),Same H H'->(b=true->∀ p,p<L.length->Reach L 0 p)->Q (.bl b) H'
theorem pJ {f:ah} {fd:eO} (F:Fun K "_law_hangs" "_law_hangs" yH f fd) (z_len:mg "len" = none):FnOk P w K mg base CX0 1 f fd ["_law_rows"] (gL):=by
 refine F.ok sc_law_hangs (λ vs H Q E h=>?_) (λ cdv A outer s0 H vs Q E hr h=>?_)
 ·obtain ⟨r,A,L,rfl,_⟩:=h
  rfl
 obtain ⟨r,A1,L,rfl,X,S,l3,l150,k⟩:=h
 refine ⟨_,(kD (kT (i:=1) sc_law_hangs.nd rfl (cz rfl) (jZ (kA kO kB)))
   (kD (kT (i:=2) sc_law_hangs.nd rfl (cz rfl) kO)
   (kD (bL gj (qI kGH (pv 2) (kL kQ rfl z_len fe (kA (pv 1) kB)) (qZ _)) (kD (xP gj rfl (xX (qA kY (pv 0) (qA kY (pv 1) (pv 2) (λ _ _=>rfl)) (λ _ _=>rfl))) (kM (i:=3) sc_law_hangs.nd rfl (cz rfl)) (kJ (yT (qI zT (pv 3) (pv 1) rfl) (kJ (qB (jA dc ml mm wG (pv 1) (kA (pv 3) kB)))) qX)))
   (kJ (kT (i:=2) sc_law_hangs.nd rfl (cz rfl) (qC jM (pv 2) kO)))))
   (kJ (kW (bN mX (kL kQ rfl z_len fe (kA (pv 1) kB)) (kL kQ rfl z_len fe (kA (pv 0) kB)) (qZ _))))))),?_⟩
 have lA:((A1.map V.ref).length:Int)=L.length:=by rw [aj,X.len]
 refine ⟨yS1,λ c nc=>?_⟩;have g0:=kI nc (.lst [vn 0]);have hc0:=kC (H:=H) (a:=c) (o:=.lst [vn 0])
 refine aW (λ σ H2=>∃ (x:Option V) (i:Nat) (fs:List Nat),σ=[some (.ref r),some (.ref c),some (.int (i:Int)),x]/\H2 c=some (.lst (fs.map vn))/\fs.Nodup/\(∀ y∈fs,y<L.length/\Reach L 0 y)/\Same H H2) (muA L.length)
  ⟨none,0,[0],rfl,hc0,by simp,(λ y hy=>by rw [fw.mp hy];exact ⟨by omega,.here _⟩),g0⟩ ?_ ?_
 ·rintro σ H2 ⟨x,i,fs,rfl,hc,nd,hf,g⟩
  have lf:fs.length<=L.length:=by
   have:=eX nd (l₂:=fc L.length) λ y hy=>iM.mpr (hf y hy).1;rwa [iN] at this
  refine ⟨_,rfl,_,rfl,c,_,rfl,.inl (SqL.of hc),_,_,rfl,rfl,_,rfl,?_⟩;rw [aj];refine pV (λ z=>?_) (λ z=>?_)
  ·have z:=of_decide_eq_true z
   have hi:i<fs.length:=by omega
   have hx:=hf _ (fg hi);have hrow:=aa hx.1;obtain ⟨a,e1,e2,e3⟩:=(X.kept g).at hrow;have lr:=S.len hrow
   have hne:c≠a:=λ zz=>by
    have:=X.row _ a _ e1 hrow;rw [<-zz,nc] at this;cases this
   have hcr:c≠r:=λ zz=>by
    have:=X.top;rw [<-zz,nc] at this;cases this
   generalize hxx:fs[i]=xx at *;generalize hrr:L[xx]=row at *;refine ⟨_,rfl,_,rfl,_,rfl,c,_,_,_,rfl,rfl,SqL.of hc,(by rw [<-hxx];exact rL hi),r,_,_,_,rfl,rfl,SqL.of (g _ _ X.top),e3,a,rfl,⟨_,SqL.of e2⟩,?_⟩;refine lP (xs:=row.map vn) (λ j σ H3=>∃ (x:Option V) (fs':List Nat),σ=[some (.ref r),some (.ref c),some (.int (i:Int)),x]/\H3 c=some (.lst (fs'.map vn))/\fs'.Nodup/\(∀ y∈fs',y<L.length/\Reach L 0 y)/\Same H H3) ⟨_,fs,rfl,hc,nd,hf,g⟩ ?_ ?_ ?_
   ·rintro j σ H3 _ ⟨x,fs',rfl,hc3,nd3,hf3,g3⟩
    exact SqL.of (g3 _ _ (X.row _ a _ e1 hrow))
   ·rintro j v σ H3 hv ⟨x,fs',rfl,hc3,nd3,hf3,g3⟩
    rw [bg] at hv;obtain ⟨q,eq',rfl⟩:=eQ.mp hv;have qm:=dw eq'
    have l3':fs'.length<=L.length:=by
     have:=eX nd3 (l₂:=fc L.length) λ y hy=>iM.mpr (hf3 y hy).1;rwa [iN] at this
    refine ⟨_,rfl,_,rfl,c,_,rfl,.inl (SqL.of hc3),rfl,uW _,_,rfl,?_⟩;rw [if_pos rfl,bZ];by_cases cc:q∈fs'
    ·rw [decide_eq_true cc]
     exact xB ⟨_,fs',rfl,hc3,nd3,hf3,g3⟩
    ·rw [decide_eq_false cc]
     refine uN ⟨_,rfl,.inl ⟨rfl,_,SqL.of hc3⟩,_,rfl,c,_,_,rfl,rfl,hc3,(by rw [aj];exact qJ (by omega)),?_⟩;refine ⟨_,fs'++[q],rfl,(by rw [gq];exact kC),?_,(λ y hy=>?_),qK nc g3⟩
     ·rw [iT]
      exact ⟨nd3,by simp,λ a ha b hb=>by rw [fw.mp hb];exact λ z=>cc (z ▸ ha)⟩
     ·rcases eY.mp hy with z | z
      ·exact hf3 y z
      ·rw [fw.mp z]
       exact ⟨(S.rng xx row q hrow qm).1,.more hx.2 ⟨row,hrow,qm⟩⟩
   ·rintro σ H3 ⟨x,fs',rfl,hc3,nd3,hf3,g3⟩
    refine ⟨_,rfl,_,_,rfl,rfl,⟨_,i+1,fs',rfl,hc3,nd3,hf3,g3⟩,?_⟩;show L.length-((i:Int)+1).toNat<L.length-(i:Int).toNat;omega
  ·refine ⟨_,rfl,c,_,rfl,.inl (SqL.of hc),_,rfl,r,_,rfl,.inl (SqL.of (g _ _ X.top)),rfl,k _ _ g λ e=>?_⟩
   have e:=of_decide_eq_true e;have e:=V.int.inj e;rw [aj,lA] at e;intro p hp;exact (hf p (kNG nd (λ y hy=>(hf y hy).1) (by omega) p hp)).2
 ·rintro σ H1 Q1 Q2 m ⟨v,e1,v2,e2,a,ys,e3,h1,i,j,e4,e5,kk,e6,q1⟩
  exact ⟨v,e1,v2,e2,a,ys,e3,h1,i,j,e4,e5,kk,e6,m _ _ q1⟩
theorem Wb.few {L:Rows} (G:Wb L) (h:L.length<=150):Some' L:=⟨by have:=G.three;omega,h,λ p row e=>⟨G.ne e,by have:=G.toNb.len e;omega⟩⟩
theorem kMZ {L:Rows} (S:Nb L) {p q:Nat} {rp rq:List Nat} (hp:L[p]?=some rp) (hq:L[q]?=some rq) (pq:p≠q) (mq:q∈rp) (mp:p∈rq):Nb (zQ L p q (qP rp q) (qP rq p)):=by
 have n1:=S.nd _ _ hp;have n2:=S.nd _ _ hq;exact fP (c:=False) S hp hq pq (kBZ (by rw [lS n1 mq];exact .refl _)) (kBZ (by rw [lS n2 mp];exact .refl _)) (fY mq n1) (fY mp n2)
def cS:Sp:=λ vs H Q _=>∃ (a r:ah) (A:List ah) (L:Rows) (m:Nat) (old:ah->Prop),vs=[.ref a,.ref r,.int (m:Int)]/\PotAt H a/\RowsAt H r A L/\Wb L/\L.length<=40/\a≠r/\a∉A/\m<=1000/\(∀ x,old x->H x≠none)/\(∀ x∈A,¬ old x) /\
 ∀ (r':ah) (A':List ah) (L':Rows) (H':Hp),SameBut a H H'->PotAt H' a->RowsAt H' r' A' L'->Wb L'->L'.length=L.length->a≠r'->a∉A'->(∀ x∈A',¬ old x)->Q (.ref r') H'
theorem hZ {f:ah} {fd:eO} (F:Fun K "_law_thinned" "_law_thinned" jU f fd) (yC:Own.Has P w K mg base "_law_step" ["_law_pot_here","_law_rows"] 2 (fL)) (uS:Own.Has P w K mg base "_law_hangs" ["_law_rows"] 1 (gL)) (zG:Own.Has P w K mg base "_law_without" ["_law_rows","_law_p","_law_q"] 1 (cR)) (z_range:mg "range" = none) (z_len:mg "len" = none):FnOk P w K mg base CX0 3 f fd ["_law_pot_here","_law_rows","_law_many"] (cS):=by
 refine F.ok sc_law_thinned (λ vs H Q E h=>?_) (λ cdv A outer s0 H vs Q E hr h=>?_)
 ·obtain ⟨a,r,A,L,m,old,rfl,_⟩:=h
  rfl
 obtain ⟨a,r,A1,L,m,old,rfl,pa,X,G,l40,nar,naA,m1,ho,hA,k⟩:=h
 refine ⟨_,(kD (xP gj rfl (jJ rfl z_range (kA (pv 2) kB)) (kM (i:=3) sc_law_thinned.nd rfl (cz rfl)) (kD (xZ (Own.pe_has yC (hr.mono (by decide)) rfl (kA (pv 0) (kA (pv 1) kB))) (xQ rfl (kU (kM (i:=4) sc_law_thinned.nd rfl (cz rfl)) (kU (kM (i:=5) sc_law_thinned.nd rfl (cz rfl)) jG))))
   (kJ (yT (PW.pt (uG (qI kGI (kL kQ rfl z_len fe (kA (qA kY (pv 1) (pv 4) (λ _ _=>rfl)) kB)) kO (qZ _)) (uG (qI kGI (kL kQ rfl z_len fe (kA (qA kY (pv 1) (pv 5) (λ _ _=>rfl)) kB)) kO (qZ _)) (vR (yS (Own.pe_has uS (hr.mono (by decide)) rfl (kA (Own.pe_has zG (hr.mono (by decide)) rfl (kA (pv 1) (kA (pv 4) (kA (pv 5) kB)))) kB))))))) (kJ (kT (i:=1) sc_law_thinned.nd rfl (cz rfl) (Own.pe_has zG (hr.mono (by decide)) rfl (kA (pv 1) (kA (pv 4) (kA (pv 5) kB)))))) qX))))
   (kJ (kW (pv 1)))),?_⟩
 refine ⟨_,rfl,(m:Int),rfl,by omega,by omega,jX (lo:=0) (n:=(m:Int).toNat) (λ i σ H2=>∃ (x3 x4 x5:Option V) (r:ah) (A:List ah) (L':Rows),σ=[some (.ref a),some (.ref r),some (.int (m:Int)),x3,x4,x5]/\RowsAt H2 r A L'/\Wb L'/\L'.length=L.length/\a≠r/\a∉A/\(∀ x∈A,¬ old x)/\SameBut a H H2/\PotAt H2 a)
  ⟨_,_,_,r,A1,L,rfl,X,G,rfl,nar,naA,hA,.refl _ _,pa⟩ ?_ ?_⟩
 ·rintro i σ H2 hi ⟨x3,x4,x5,r,A1,L',rfl,X,G,hl,nar,naA,hA,s2,p2⟩
  refine ⟨_,rfl,_,rfl,.inl ⟨a,r,A1,L',rfl,p2,X,nar,naA,Wb.few G (by omega),λ t p q H3 s3 p3 nt ht hE=>?_⟩⟩;have X3:=X.but nar naA s3;obtain ⟨rq,hq,mq⟩:=G.sym p q hE;obtain ⟨rp,hp,mp⟩:=hE;have pq:p≠q:=λ z=>(G.rng p rp q hp mp).2 z.symm;refine ⟨t,_,rfl,SqT.of ht,rfl,_,_,rfl,_,_,rfl,rfl,?_⟩;obtain ⟨ap,e1p,e2p,e3p⟩:=X3.at hp;obtain ⟨aq,e1q,e2q,e3q⟩:=X3.at hq;have s03:=s2.trans s3
  have stay:∀ H8,Same H3 H8->∃ (x3 x4 x5:Option V) (r':ah) (A:List ah) (L'':Rows),[some (V.ref a),some (.ref r),some (.int (m:Int)),some (.int (0+(i:Int))),some (vn p),some (vn q)]=[some (.ref a),some (.ref r'),some (.int (m:Int)),x3,x4,x5]/\RowsAt H8 r' A L''/\Wb L''/\L''.length=L.length/\a≠r'/\a∉A/\(∀ x∈A,¬ old x)/\SameBut a H H8/\PotAt H8 a:=λ H8 g8 =>
   ⟨_,_,_,r,A1,L',rfl,X3.kept g8,G,hl,nar,naA,hA,s03.trans (.of g8),p3.kept g8⟩
  refine ⟨_,rfl,_,rfl,r,_,_,_,rfl,rfl,SqL.of X3.top,e3p,ap,_,rfl,.inl (SqL.of e2p),_,_,rfl,rfl,_,rfl,pV (λ c1=>?_) (λ c1=>xB (stay _ (Same.refl _)))⟩;refine ⟨_,rfl,_,rfl,r,_,_,_,rfl,rfl,SqL.of X3.top,e3q,aq,_,rfl,.inl (SqL.of e2q),_,_,rfl,rfl,_,rfl,pV (λ c2=>?_) (λ c2=>xB (stay _ (Same.refl _)))⟩;have N:=kMZ G.toNb hp hq pq mp mq;refine ⟨_,rfl,_,rfl,_,rfl,r,L',p,q,rp,rq,rfl,.inl ⟨_,X3⟩,by omega,pq,hp,hq,mp,mq,λ D B H4 Y tB nD g4=>?_⟩;refine ⟨D,B,_,rfl,Y,N,(by rw [xD];have:=G.three;omega),(by rw [xD];omega),λ b H5 g5 hb=>⟨_,rfl,?_⟩⟩;have g45:=g4.trans g5;refine pV (λ c3=>?_) (λ c3=>stay _ g45);have X5:=X3.kept g45;refine ⟨_,rfl,_,rfl,_,rfl,r,L',p,q,rp,rq,rfl,.inl ⟨_,X5⟩,by omega,pq,hp,hq,mp,mq,λ D' B' H6 Y' tB' nD' g6=>?_⟩;have g46:=g45.trans g6;have p6:=p3.kept g46;obtain ⟨v4,w4,pot4,_⟩:=p3.kept g45
  refine ⟨_,_,_,D',B',_,rfl,Y',⟨N,(by rw [xD];exact G.three),λ x hx=>hb c3 x hx⟩,(by rw [xD];exact hl),kF pot4 nD',(λ z=>by rw [tB' a z] at pot4;cases pot4),(λ x hx hox=>by
   have n5:=tB' x hx;by_cases xa:x=a
   ·rw [xa,pot4] at n5
    cases n5
   ·obtain ⟨o,e⟩:=wc.mp (ho x hox)
    rw [(s03.trans (.of g45)) x o xa e] at n5
    cases n5),s03.trans (.of g46),p6⟩
 ·rintro σ H2 ⟨x3,x4,x5,r,A1,L',rfl,X,G,hl,nar,naA,hA,s2,p2⟩
  exact ⟨_,rfl,k r A1 L' H2 s2 p2 X G hl nar naA hA⟩
theorem kGU {r:List Nat} {d q:Nat} (nd:r.Nodup) (hq:q∉r):(r.take d++q::r.drop d).Nodup/\∀ x,x∈r.take d++q::r.drop d↔(x∈r/\x≠q)\/(x=q/\True):=by
 have pm:(r.take d++q::r.drop d).Perm (q::r):=by
  have:=wj (a:=q) (l₁:=r.take d) (l₂:=r.drop d);rwa [iF] at this
 refine ⟨pm.nodup_iff.mpr (iX.mpr ⟨hq,nd⟩),λ x=>?_⟩;rw [pm.mem_iff,gv];constructor
 ·rintro (rfl | m)
  ·exact .inr ⟨rfl,trivial⟩
  ·exact .inl ⟨m,λ z=>hq (z ▸ m)⟩
 ·rintro (⟨m,_⟩ | ⟨rfl,_⟩)
  ·exact .inr m
  ·exact .inl rfl
theorem tH (r:List Nat) (d q:Nat):(r.map vn).take d++vn q::(r.map vn).drop d=(r.take d++q::r.drop d).map vn:=by
 rw [gq,iW,Ae,BG]
def gJ:Sp:=λ vs H Q _=>∃ (a r:ah) (A:List ah) (L:Rows) (p q:Nat),vs=[.ref a,.ref r,vn p,vn q]/\PotAt H a/\RowsAt H r A L/\a≠r/\a∉A/\Nb L/\p<L.length/\q<L.length/\L.length<=40 /\
 ∀ (L':Rows) (H':Hp),RowsAt H' r A L'->Nb L'->L'.length=L.length->(∀ x y,E L x y->E L' x y)->(p≠q->E L' p q)->(∀ b o,b≠a->b≠r->b∉A->H b=some o->H' b=some o)->PotAt H' a->Q .non H'
theorem mG {f:ah} {fd:eO} (F:Fun K "_law_joined" "_law_joined" xH f fd) (kP:Own.Has P w K mg base "_law_digit" ["_law_pot_here","_law_many"] 1 (wO)) (z_len:mg "len" = none):FnOk P w K mg base CX0 2 f fd ["_law_pot_here","_law_rows","_law_p","_law_q"] (gJ):=by
 refine F.ok mE (λ vs H Q E h=>?_) (λ cdv A outer s0 H vs Q E hr h=>?_)
 ·obtain ⟨a,r,A,L,p,q,rfl,_⟩:=h
  rfl
 obtain ⟨a,r,A1,L,p,q,rfl,pa,X,nar,naA,S,lp,lq,l40,k⟩:=h
 refine ⟨_,(kJ (yT (PW.pt (uG (qI gY (pv 2) (pv 3) (qZ _)) (vR (qI zT (pv 3) (qA kY (pv 1) (pv 2) (λ _ _=>rfl)) rfl)))) (kD (qB (jA dc mf mh vH (qA kY (pv 1) (pv 2) (λ _ _=>rfl)) (kA (Own.pe_has kP (hr.mono (by decide)) rfl (kA (pv 0) (kA (qC jM (kL kQ rfl z_len fe (kA (qA kY (pv 1) (pv 2) (λ _ _=>rfl)) kB)) kO) kB))) (kA (pv 3) kB))))
   (kJ (qB (jA dc mf mh vH (qA kY (pv 1) (pv 3) (λ _ _=>rfl)) (kA (Own.pe_has kP (hr.mono (by decide)) rfl (kA (pv 0) (kA (qC jM (kL kQ rfl z_len fe (kA (qA kY (pv 1) (pv 3) (λ _ _=>rfl)) kB)) kO) kB))) (kA (pv 2) kB)))))) qX)),?_⟩
 have hp:=aa lp;have hq:=aa lq;generalize L[p]=rp at *;generalize L[q]=rq at *;obtain ⟨ap,e1p,e2p,e3p⟩:=X.at hp;refine ⟨_,rfl,_,rfl,rfl,_,rfl,?_⟩;by_cases pq:p=q
 ·rw [decide_eq_true (show vn p=vn q by rw [pq])]
  exact xB (xB (k L H X S rfl (λ x y z=>z) (λ z=>absurd pq z) (λ b o _ _ _ e=>e) pa))
 ·rw [decide_eq_false (show ¬ vn p=vn q from λ z=>pq (by have:=V.int.inj z;omega))]
  refine uN ⟨_,rfl,_,rfl,_,rfl,r,_,_,_,rfl,rfl,SqL.of X.top,e3p,ap,_,rfl,.inl (SqL.of e2p),rfl,uW _,_,rfl,?_⟩;rw [if_pos rfl,bZ];by_cases c:q∈rp
  ·rw [decide_eq_true c]
   exact xB (k L H X S rfl (λ x y z=>z) (λ _=>⟨rp,hp,c⟩) (λ b o _ _ _ e=>e) pa)
  ·rw [decide_eq_false c]
   have c':p∉rq:=λ z=>by
    obtain ⟨r',e,m⟩:=S.sym q p ⟨rq,hq,z⟩;rw [hp] at e;cases e
    exact c m
   have lrp:=S.len hp;have lrq:=S.len hq;refine uN ⟨_,rfl,_,rfl,r,_,_,_,rfl,rfl,SqL.of X.top,e3p,.inl ⟨rfl,_,SqL.of e2p⟩,_,rfl,_,rfl,_,rfl,r,_,_,_,rfl,rfl,SqL.of X.top,e3p,ap,_,rfl,.inl (SqL.of e2p),_,_,rfl,rfl,a,_,rfl,pa,(by rw [aj];omega),xU (by rw [aj];exact eP (m:=50) (by omega) (by decide)),λ d H1 d0 d1 s1 p1=>?_⟩;have X1:=X.but nar naA s1;have nap:ap≠a:=λ z=>naA (z ▸ dw e1p);have e2p1:=s1 _ _ nap e2p;rw [aj] at d1;refine ⟨_,rfl,ap,_,_,_,rfl,rfl,e2p1,d0,(by omega),(by rw [aj];exact qJ (by omega)),?_⟩;rw [tH];have X2:=X1.set e1p (rp.take d.toNat++q::rp.drop d.toNat);have p2:=p1.other (l:=ap) (o:=.lst ((rp.take d.toNat++q::rp.drop d.toNat).map vn)) nap.symm
   have s2:∀ b o,b≠a->b≠r->b∉A1->H b=some o->upd H1 ap (.lst ((rp.take d.toNat++q::rp.drop d.toNat).map vn)) b=some o:=λ b o h1 _ h3 e=>by
    rw [kH (λ z=>h3 (by rw [z];exact dw e1p))];exact s1 b o h1 e
   have hq2:=oO (i:=p) (r:=rp.take d.toNat++q::rp.drop d.toNat) hq pq;generalize upd H1 ap (.lst ((rp.take d.toNat++q::rp.drop d.toNat).map vn))=H2 at *;obtain ⟨aq,e1q,e2q,e3q⟩:=X2.at hq2;have naq:aq≠a:=λ z=>naA (z ▸ dw e1q);refine ⟨_,rfl,_,rfl,r,_,_,_,rfl,rfl,SqL.of X2.top,e3q,.inl ⟨rfl,_,SqL.of e2q⟩,_,rfl,_,rfl,_,rfl,r,_,_,_,rfl,rfl,SqL.of X2.top,e3q,aq,_,rfl,.inl (SqL.of e2q),_,_,rfl,rfl,a,_,rfl,p2,(by rw [aj];omega),xU (by rw [aj];exact eP (m:=50) (by omega) (by decide)),λ d' H3 d0' d1' s3 p3=>?_⟩;have X3:=X2.but nar naA s3;have e2q3:=s3 _ _ naq e2q;rw [aj] at d1';refine ⟨_,rfl,aq,_,_,_,rfl,rfl,e2q3,d0',(by omega),(by rw [aj];exact qJ (by omega)),?_⟩;rw [tH];have X4:=X3.set e1q (rq.take d'.toNat++p::rq.drop d'.toNat);obtain ⟨i1,i2⟩:=kGU (d:=d.toNat) (S.nd _ _ hp) c;obtain ⟨i3,i4⟩:=kGU (d:=d'.toNat) (S.nd _ _ hq) c';have N:=fP (c:=True) S hp hq pq i2 i4 i1 i3;have ee:=tW (c:=True) S hp hq pq i2 i4;refine k (zQ L p q (rp.take d.toNat++q::rp.drop d.toNat) (rq.take d'.toNat++p::rq.drop d'.toNat)) _ X4 N (xD _ _ _ _ _) (λ x y z=>(ee x y).mpr (.inl ⟨z,λ ⟨h1,h2⟩=>?_,λ ⟨h1,h2⟩=>?_⟩)) (λ _=>(ee p q).mpr (.inr ⟨trivial,.inl ⟨rfl,rfl⟩⟩)) (λ b o h1 h2 h3 e=>?_) (p3.other naq.symm)
   ·obtain ⟨r',e,m⟩:=z
    rw [h1,hp] at e;cases e
    exact c (h2 ▸ m)
   ·obtain ⟨r',e,m⟩:=z
    rw [h1,hq] at e;cases e
    exact c' (h2 ▸ m)
   ·rw [kH (λ z=>h3 (by rw [z];exact dw e1q))]
    exact s3 b o h1 (s2 b o h1 h2 h3 e)
def kFP:Sp:=λ vs H Q _=>∃ (a:ah) (n:Nat),vs=[.ref a,vn n]/\PotAt H a/\3<=n/\n<=40 /\
 ∀ (r:ah) (A:List ah) (L:Rows) (H':Hp),SameBut a H H'->PotAt H' a->RowsAt H' r A L->Wb L->L.length=n->a≠r->a∉A->Q (.ref r) H'
theorem kAL {f:ah} {fd:eO} (F:Fun K "_law_any" "_law_any" wA f fd) (zW:Own.Has P w K mg base "_law_joined" ["_law_pot_here","_law_rows","_law_p","_law_q"] 2 (gJ)) (kP:Own.Has P w K mg base "_law_digit" ["_law_pot_here","_law_many"] 1 (wO)) (z_range:mg "range" = none):FnOk P w K mg base CX0 3 f fd ["_law_pot_here","_law_n"] (kFP):=by
 refine F.ok sc_law_any (λ vs H Q E h=>?_) (λ cdv A outer s0 H vs Q E hr h=>?_)
 ·obtain ⟨a,n,rfl,_⟩:=h
  rfl
 obtain ⟨a,n,rfl,pa,n3,n40,k⟩:=h
 refine ⟨_,(kD (aF (i:=2) (Nc:=["_law_k"]) (js:=[none]) rfl rfl sc_law_any.nd rfl (cz rfl) (jJ rfl z_range (kA (pv 1) kB)) (CS.of rfl rfl) rfl (λ C s₂ H₂ fp pins=>(kM (i:=0) (show iw (α:=Str) ["_law_k"] by decide +kernel) rfl (cz rfl))) (λ C s₂ H₂ fp pins D L=>(xT (zO (jZ kB)))))
   (kD (xP gj rfl (kDN rfl z_range (kA kO (kA (pv 1) kB))) (kM (i:=3) sc_law_any.nd rfl (cz rfl)) (kJ (qB (Own.pe_has zW (hr.mono (by decide)) rfl (kA (pv 0) (kA (pv 2) (kA (Own.pe_has kP (hr.mono (by decide)) rfl (kA (pv 0) (kA (pv 3) kB))) (kA (pv 3) kB))))))))
   (kD (xP gj rfl (jJ rfl z_range (kA (Own.pe_has kP (hr.mono (by decide)) rfl (kA (pv 0) (kA (qC Own.op_mulW kO (pv 1)) kB))) kB)) (kM (i:=3) sc_law_any.nd rfl (cz rfl)) (kD (kT (i:=4) sc_law_any.nd rfl (cz rfl) (Own.pe_has kP (hr.mono (by decide)) rfl (kA (pv 0) (kA (pv 1) kB))))
   (kJ (qB (Own.pe_has zW (hr.mono (by decide)) rfl (kA (pv 0) (kA (pv 2) (kA (pv 4) (kA (Own.pe_has kP (hr.mono (by decide)) rfl (kA (pv 0) (kA (pv 1) kB))) kB)))))))))
   (kJ (kW (pv 2)))))),?_⟩
 refine ⟨_,rfl,(n:Int),rfl,by omega,by omega,λ D nD=>?_⟩;obtain ⟨v4,w4,pot4,_⟩:=id pa;have aD:a≠D:=kF pot4 nD
 refine gA (lo:=0) (n:=(n:Int).toNat) (λ i σ H1=>∃ (u:Option V) (B:List ah),σ=[u]/\RowsAt H1 D B (fh i [])/\(∀ b∈B,H b=none)/\Same H H1)
  ⟨none,[],rfl,⟨kC,rfl,.nil,by simp,λ i a ns e=>by simp at e⟩,(λ b hb=>by cases hb),kI nD _⟩ ?_ ?_
 ·rintro i σ H1 hi ⟨u,B,rfl,X,tB,g⟩
  refine ⟨yS0,λ b nb=>?_⟩;have gb:=kI nb (.lst []);refine ⟨_,gb _ _ X.top,(by rw [aj,X.len,ux];exact qJ (by omega)),?_⟩;refine ⟨_,B++[b],rfl,?_,(λ c hc=>?_),qK nD (g.trans gb)⟩
  ·rw [List.replicate_succ']
   exact X.app nb []
  ·rcases eY.mp hc with z | z
   ·exact tB c z
   ·rw [fw.mp z];exact g.free nb
 ·rintro σ H1 ⟨u,B,rfl,X,tB,g⟩
  have e0:(n:Int).toNat=n:=by omega
  rw [e0] at X;have aB:a∉B:=λ z=>by rw [tB a z] at pot4;cases pot4
  have fr:∀ {H2 H3:Hp},SameBut a H H2->(∀ b o,b≠a->b≠D->b∉B->H2 b=some o->H3 b=some o)->SameBut a H H3:=λ s2 f b o nb e=>f b o nb (kF e nD) (λ z=>by rw [tB b z] at e;cases e) (s2 b o nb e)
  have N0:Nb (fh n ([]:List Nat)):=by
   have none:∀ (p:Nat) (row:List Nat),(fh n ([]:List Nat))[p]?=some row->row=[]:=λ p row e=>(Ag.mp (dw e)).2;refine ⟨λ p row e=>(by rw [none p row e];exact .nil),λ p row x e m=>(by rw [none p row e] at m;cases m),λ x y ⟨row,e,m⟩=>(by rw [none x row e] at m;cases m)⟩
  refine ⟨_,rfl,1,(n:Int),rfl,⟨by decide,by decide,by omega,by omega⟩,?_⟩
  refine jX (lo:=1) (n:=((n:Int)-1).toNat) (λ i σ H2=>∃ (x3 x4:Option V) (L:Rows),σ=[some (.ref a),some (vn n),some (.ref D),x3,x4]/\RowsAt H2 D B L/\Nb L/\L.length=n/\(∀ x,x<=i->Reach L 0 x)/\SameBut a H H2/\PotAt H2 a)
   ⟨_,_,_,rfl,X,N0,by simp,(λ x hx=>by rw [show x=0 by omega];exact .here _),.of g,pa.kept g⟩ ?_ ?_
  ·rintro i σ H2 hi ⟨x3,x4,L,rfl,X2,N2,l2,re,s2,p2⟩
   refine ⟨_,rfl,_,rfl,_,rfl,_,rfl,a,_,rfl,p2,(by omega),xU (eP (m:=50) (by omega) (by decide)),λ d H3 d0 d1 s3 p3=>?_⟩;obtain ⟨d,rfl⟩:=iD d0;have e1:(1:Int)+(i:Int)=((i+1:Nat):Int):=by omega
   rw [e1] at d1;refine ⟨_,rfl,a,D,B,L,d,i+1,(by rw [e1];rfl),p3,X2.but aD aB s3,aD,aB,N2,by omega,by omega,by omega,λ L' H4 X4 N4 l4 sub new f4 p4=>?_⟩;refine ⟨_,_,L',rfl,X4,N4,by omega,λ x hx=>?_,fr (s2.trans s3) f4,p4⟩;rcases iU i x with h | h
   ·rw [show x=i+1 by omega]
    exact .more ((re d (by omega)).sub sub) (new (by omega))
   ·exact (re x h).sub sub
  ·rintro σ H2 ⟨x3,x4,L,rfl,X2,N2,l2,re,s2,p2⟩
   have con:∀ p,p<L.length->Reach L 0 p:=λ p hp=>re p (by omega);refine ⟨_,rfl,_,rfl,_,_,rfl,rfl,⟨xU (by decide),xU (eP (m:=40) (by show ((n:Int)).natAbs<=40;omega) (by decide))⟩,a,_,rfl,p2,(by show (0:Int)<2*(n:Int);omega),xU (eP (m:=80) (by show (2*(n:Int)).natAbs<=80;omega) (by decide)),λ d H3 d0 d1 s3 p3=>?_⟩;have d80:d<2*(n:Int):=d1
   refine ⟨d,rfl,by omega,by omega,jX (lo:=0) (n:=d.toNat) (λ i σ H2=>∃ (x3 x4:Option V) (L:Rows),σ=[some (.ref a),some (vn n),some (.ref D),x3,x4]/\RowsAt H2 D B L/\Nb L/\L.length=n/\(∀ p,p<L.length->Reach L 0 p)/\SameBut a H H2/\PotAt H2 a)
    ⟨_,_,_,rfl,X2.but aD aB s3,N2,l2,con,s2.trans s3,p3⟩ ?_ ?_⟩
   ·rintro i σ H4 hi ⟨x3,x4,L,rfl,X4,N4,l4,con,s4,p4⟩
    refine ⟨_,rfl,_,rfl,a,_,rfl,p4,(by omega),xU (eP (m:=50) (by omega) (by decide)),λ d1 H5 d10 d11 s5 p5=>?_⟩;obtain ⟨p,rfl⟩:=iD d10;refine ⟨_,rfl,_,rfl,_,rfl,_,rfl,_,rfl,a,_,rfl,p5,(by omega),xU (eP (m:=50) (by omega) (by decide)),λ d2 H6 d20 d21 s6 p6=>?_⟩;obtain ⟨q,rfl⟩:=iD d20;have s56:=s5.trans s6;refine ⟨a,D,B,L,p,q,rfl,p6,X4.but aD aB s56,aD,aB,N4,by omega,by omega,by omega,λ L' H7 X7 N7 l7 sub new f7 p7=>?_⟩;exact ⟨_,_,L',rfl,X7,N7,by omega,λ x hx=>(con x (by omega)).sub sub,fr (s4.trans s56) f7,p7⟩
   ·rintro σ H4 ⟨x3,x4,L,rfl,X4,N4,l4,con,s4,p4⟩
    exact ⟨_,rfl,k D B L H4 s4 p4 X4 ⟨N4,by omega,con⟩ l4 aD aB⟩
theorem kAJ {f:ah} {fd:eO} (F:Fun K "_law_web" "_law_web" zY f fd) (zD:Own.Has P w K mg base "_law_from_least" ["_law_row"] 1 (gI)) (z_len:mg "len" = none) (z_enumerate:mg "enumerate" = none) (z_tuple:mg "tuple" = none):FnOk P w K mg base CX0 2 f fd ["_law_rows","_law_names_here"] (kBO):=by
 refine F.ok sc_law_web (λ vs H Q E h=>?_) (λ cdv A outer s H vs Q E hr h=>?_)
 ·obtain ⟨r,l,A,L,ns,rfl,_⟩:=h
  rfl
 obtain ⟨r,l,A1,L,ns,rfl,X,hl,hp,S,rng,k⟩:=h
 refine ⟨_,(kD (kT (i:=2) sc_law_web.nd rfl (cz rfl) (qC kLX (jZ (kA (jK kB) kB)) (kL kQ rfl z_len fe (kA (pv 0) kB))))
   (kD (xP gj rfl (kBV true rfl z_enumerate (kA (pv 0) kB)) (xQ rfl (kU (kM (i:=3) sc_law_web.nd rfl (cz rfl)) (kU (kM (i:=4) sc_law_web.nd rfl (cz rfl)) jG))) (kJ (xZ (Own.pe_has zD (hr.mono (by decide)) rfl (kA (bM (Nc:=["_law_q","_law_names_here"]) (js:=[none,some 1]) rfl rfl (xX (pv 4)) (CS.of rfl rfl) rfl (λ C s₂ H₂ fp pins=>(kM (i:=0) (show iw (α:=Str) ["_law_q","_law_names_here"] by decide +kernel) rfl (cz rfl))) (λ C s₂ H₂ fp pins D L=>(xT (zO (qA (show IxR _ (kOF K) from kY) (pv 1) (pv 0) (λ _ _=>rfl)))))) kB)) (gX (pv 2) (qA kY (pv 1) (pv 3) (λ _ _=>rfl)) uF))))
   (kJ (kW (jV jY rfl z_tuple jf (kA (pv 2) kB)))))),?_⟩
 have lns:ns.length=L.length:=by rw [hp.length_eq,iN]
 have nsb:∀ {j:Nat} {n:Nat},ns[j]?=some n->n<L.length:=λ {j n} e=>iM.mp (hp.mem_iff.mp (dw e));have nnd:ns.Nodup:=hp.nodup_iff.mpr yx;have lA:((A1.map V.ref).length:Int)=L.length:=by rw [aj,X.len]
 have L150:=S.le;refine ⟨yS0,λ e ne=>⟨yS1,λ l1 n1=>?_⟩⟩;have g1:=(kI ne (.tup [])).trans (kI n1 (.lst [.ref e]));have he:=(kI n1 (.lst [.ref e])) _ _ (kC (H:=H) (a:=e) (o:=.tup []));have hl1:=kC (H:=upd H e (.tup [])) (a:=l1) (o:=.lst [.ref e]);generalize upd (upd H e (.tup [])) l1 (.lst [.ref e])=H1 at *;refine ⟨_,rfl,r,_,rfl,.inl (SqL.of (g1 _ _ X.top)),l1,_,_,rfl,rfl,hl1,(by omega),(by omega),(by rw [lA];exact qq (qJ (by simp;omega))),λ f nf=>?_⟩;rw [lA,qw,kFU];have gf:=kI nf (.lst ((fh L.length e).map V.ref));have g2:=g1.trans gf;have he2:=gf _ _ he;have hf2:=kC (H:=H1) (a:=f) (o:=.lst ((fh L.length e).map V.ref));generalize upd H1 f (.lst ((fh L.length e).map V.ref))=H2 at *
 refine ⟨_,rfl,r,rfl,⟨_,SqL.of (g2 _ _ X.top)⟩,kGZ (k:=true) (xs:=A1.map V.ref) (λ i σ H3=>∃ (x3 x4:Option V) (ts:List ah) (W:Rows),σ=[some (.ref r),some (.ref l),some (.ref f),x3,x4]/\H3 f=some (.lst (ts.map V.ref))/\ts.length=L.length/\W.length=L.length /\
   (∀ (j:Nat) (a:ah) (row:List Nat),ts[j]?=some a->W[j]?=some row->H3 a=some (.tup (row.map vn)))/\(∀ p,p<i->kCZ L ns W p)/\Same H H3/\H f=none)
  ⟨none,none,fh L.length e,fh L.length [],rfl,hf2,ux,ux,(λ j a row e1 e2=>?_),(λ p hp'=>by omega),g2,g1.free nf⟩ ?_ ?_ ?_⟩
 ·have a1:=(Ag.mp (dw e1)).2
  have a2:=(Ag.mp (dw e2)).2;subst a1 a2;exact he2
 ·rintro i σ H3 _ ⟨x3,x4,ts,W,rfl,hf,lt,lW,hts,hW,g3,nf0⟩
  exact SqL.of (g3 _ _ X.top)
 ·rintro i x T σ H3 hx nT ⟨x3,x4,ts,W,rfl,hf,lt,lW,hts,hW,g3,nf0⟩
  rw [bg] at hx;obtain ⟨a,ea,rfl⟩:=eQ.mp hx;have hi:i<L.length:=by rw [<-X.len];exact (ag.mp ea).1
  have hrow:=aa hi;have har:=X.row i a _ ea hrow;obtain ⟨rne,rle⟩:=S.ne i _ hrow;have rb:=rng i _ hrow;have gT:=g3.trans (kI nT (.tup [.int i,.ref a]));have hfT:=(kI nT (.tup [.int i,.ref a])) _ _ hf;have htsT:∀ (j:Nat) (b:ah) (row:List Nat),ts[j]?=some b->W[j]?=some row->upd H3 T (.tup [.int i,.ref a]) b=some (.tup (row.map vn)):=λ j b row w1 w2=>(kI nT (.tup [.int i,.ref a])) _ _ (hts j b row w1 w2);refine ⟨T,_,rfl,SqT.of kC,rfl,_,_,rfl,_,_,rfl,rfl,?_⟩;generalize upd H3 T (.tup [.int i,.ref a])=H4 at *
  generalize hr0:L[i]=row at *
  refine ⟨_,rfl,a,rfl,⟨_,SqL.of (gT _ _ har)⟩,λ D nD=>?_⟩;refine xG (xs:=row.map vn) (λ j σ H5=>∃ x:Option V,σ=[x,some (.ref l)]/\H5 D=some (.lst (((row.take j).map λ q=>ns.getD q 0).map vn))/\Same H4 H5) ⟨none,rfl,kC,kI nD _⟩ ?_ ?_ ?_
  ·rintro j σ H5 _ ⟨x,rfl,hD,g5⟩
   exact SqL.of (g5 _ _ (gT _ _ har))
  ·rintro j x σ H5 hx ⟨y,rfl,hD,g5⟩
   rw [bg] at hx;obtain ⟨q,eq,rfl⟩:=eQ.mp hx;have hj:j<row.length:=(ag.mp eq).1;have hq:q<ns.length:=by rw [lns];exact rb q (dw eq)
   refine ⟨_,rfl,_,rfl,l,_,_,_,rfl,rfl,SqL.of (g5 _ _ (gT _ _ hl)),rL hq,_,hD,(by rw [aj,aj,fb];exact qJ (by omega)),?_⟩;refine ⟨_,rfl,?_,qK nD g5⟩;rw [oq,eq];simp only [xj,gq,iW,BN];rw [show ns.getD q 0=ns[q] by simp [dh,hq]];exact kC
  ·rintro σ H5 ⟨x,rfl,hD,g5⟩
   rw [aj,ig] at hD;generalize hc:(row.map λ q=>ns.getD q 0)=cl at *;have lcl:cl.length=row.length:=by rw [<-hc,aj]
   have cpos:0<cl.length:=by rw [lcl];exact nj.mpr rne
   refine ⟨D,cl,rfl,hD,nj.mp cpos,by omega,λ m t H6 hm mle hh nt ht=>?_⟩;have g6:=gT.trans (g5.trans hh);have hf6:=hh _ _ (g5 _ _ hfT);have hin:i<ns.length:=by omega
   have hni:=aa hin;have hnb:=nsb hni;refine ⟨_,rfl,_,rfl,_,rfl,l,_,_,_,rfl,rfl,SqL.of (g6 _ _ hl),rL hin,f,_,_,ns[i],rfl,rfl,hf6,pU (by rw [aj,lt];exact hnb),?_⟩;refine ⟨_,_,ts.set ns[i] t,W.set ns[i] (rot cl m),rfl,(by rw [DD];exact kC),(by rw [sg];exact lt),(by rw [sg];exact lW),(λ j b rw' e1 e2=>?_),(λ p hp'=>?_),qK nf0 g6,nf0⟩
   ·have bt:b≠f->upd H6 f (.lst ((ts.map V.ref).set ns[i] (.ref t))) b=H6 b:=λ z=>kH z
    by_cases ej:ns[i]=j
    ·subst ej
     rw [fz (by omega)] at e1;rw [fz (by omega)] at e2;cases e1
     cases e2
     rw [bt (zK ht hf6 (by intro z;cases z))];exact ht
    ·rw [di ej] at e1 e2
     have hb:=hh _ _ (g5 _ _ (htsT j b rw' e1 e2));rw [bt (zK hb hf6 (by intro z;cases z))];exact hb
   ·intro row' er'
    by_cases epi:p=i
    ·subst epi
     have e0:=hrow.symm.trans er';cases e0
     refine ⟨ns[p],m,hni,(by rw [hc];exact hm),(λ j hj=>mle j (by rw [hc] at hj;exact hj)),?_⟩;rw [hc,fz (by omega)]
    ·obtain ⟨n',M',w1,w2,w3,w4⟩:=hW p (by omega) row' er'
     refine ⟨n',M',w1,w2,w3,?_⟩
     have:ns[i]≠n':=λ z=>by
      have hpl:=(ag.mp w1).1;have:=(yc hpl nnd).mp (w1.trans (by rw [<-z];exact hni.symm));exact epi this
     rw [di this];exact w4
 ·rintro σ H3 ⟨x3,x4,ts,W,rfl,hf,lt,lW,hts,hW,g3,nf0⟩
  rw [aj,X.len] at hW;refine ⟨_,rfl,f,_,rfl,.inl ⟨SqL.of hf,λ t nt=>?_⟩⟩;have gt:=kI nt (.tup (ts.map V.ref));exact k t W _ (g3.trans gt) ⟨ts,kC,by omega,λ j b row w1 w2=>gt _ _ (hts j b row w1 w2)⟩ lW hW
theorem kDU {L W:Rows} {ns:List Nat} (hp:ns.Perm (fc L.length)) (hl:W.length=L.length) (h:∀ p,p<L.length->kCZ L ns W p):Ren L W ns:=⟨hp,hl,λ p row e=>by
 obtain ⟨n,M,h1,_,_,h4⟩:=h p (ag.mp e).1 row e;exact ⟨n,(row.map λ q=>ns.getD q 0).take ((row.map λ q=>ns.getD q 0).idxOf M),(row.map λ q=>ns.getD q 0).drop ((row.map λ q=>ns.getD q 0).idxOf M),h1,(iF _ _).symm,h4⟩⟩
theorem kDV {L W:Rows} {ns:List Nat} (hp:ns.Perm (fc L.length)) (hl:W.length=L.length) (h:∀ p,p<L.length->kCZ L ns W p) (x:Nat) (row:List Nat) (e:W[x]?=some row):Can row:=by
 have hx:=(ag.mp e).1;have hxn:x∈ns:=hp.mem_iff.mpr (iM.mpr (by omega));obtain ⟨p,hpl,ep⟩:=ft.mp hxn;have lns:ns.length=L.length:=by rw [hp.length_eq,iN]
 have hpL:p<L.length:=by omega
 obtain ⟨m,M,w1,w2,w3,w4⟩:=h p hpL _ (aa hpL);rw [aa hpl,ep] at w1;cases w1
 rw [e] at w4;cases w4
 exact oV w2 w3
def kBP (K:au):Sp:=λ vs H Q _=>∃ (a:ah) (ns:List Int),vs=[.ref a]/\SqL K H a (ns.map V.int)/\ns.length<=63/\∀ H',Q (.bl true) H'
def prZ (t:Nat×Nat):List Int:=[(t.1:Int),(t.2:Int)]
theorem tU {H:Hp} {s:ah} {T:List (Nat×Nat)} (h:PairsAt H s T):∃ ps:List (ah×List Int),H s=some (.lst (ps.map λ q=>V.ref q.1))/\kNH H ps /\
  ∀ (l:ah) (ps':List (ah×List Int)),H l=none->ps'.Perm ps->ps'.Pairwise (λ a b=>Srt.lexLt b.2 a.2=false)->PairsAt (upd H l (.lst (ps'.map λ q=>V.ref q.1))) l (Fc.sortP T):=by
 obtain ⟨ss,h1,h2,h3⟩:=h
 have e1:(ss.zip (T.map prZ)).map (λ q=>V.ref q.1)=ss.map V.ref:=by
  rw [show (λ q:ah×List Int=>V.ref q.1)=V.ref∘wu from rfl,<-AF,DR (by rw [aj];omega)]
 have mem:∀ q∈ss.zip (T.map prZ),∃ t:Nat×Nat,q.2=prZ t/\H q.1=some (.tup [vn t.1,vn t.2]):=λ q hq=>by
  obtain ⟨i,hi,rfl⟩:=ft.mp hq;rw [Dj,aj] at hi;refine ⟨T[i]'(by omega),by simp,?_⟩;have:=h3 i (ss[i]'(by omega)) (T[i]'(by omega)) (aa _) (aa _);simpa using this
 refine ⟨ss.zip (T.map prZ),by rw [e1];exact h1,λ q hq=>?_,λ l ps' nl pm sr=>?_⟩
 ·obtain ⟨t,e,ht⟩:=mem q hq
  rw [e];exact ⟨ht,by simp [prZ]⟩
 ·have back:∃ T':List (Nat×Nat),ps'.map (·.2)=T'.map prZ/\T'.Perm T:=by
   have pz:(ps'.map (·.2)).Perm (T.map prZ):=by
    have:=pm.map (λ q:ah×List Int=>q.2);rwa [BE (by rw [aj];omega)] at this
   obtain ⟨m,a,b⟩:=Srt.perm_back pz rfl;exact ⟨m,b,a⟩
  obtain ⟨T',eT,pT⟩:=back
  have srt:T'.Pairwise (λ a b=>Fc.leP a b=true):=by
   have a1:(ps'.map (·.2)).Pairwise (λ a b=>Srt.lexLt b a=false):=kg.mpr sr;rw [eT] at a1;refine (kg.mp a1).imp λ {a b} hh=>?_;rw [<-Fc.leP_leL,Fc.leL_iff];exact hh
  have eq:=Fc.sortP_is pT srt
  have ln:ps'.length=T'.length:=by
   have:=congrArg iP eT;simpa using this
  refine ⟨ps'.map (·.1),by rw [AF];exact kC,by rw [<-eq,aj,ln],λ i b t e1 e2=>?_⟩;rw [<-eq] at e2;have hi:=(ag.mp e2).1;have hi':i<ps'.length:=by omega
  rw [bg,aa hi'] at e1;have e1:ps'[i].1=b:=du e1
  have e3:ps'[i].2=prZ t:=by
   have:=congrArg (λ l=>l[i]?) eT;rw [bg,bg,e2,aa hi'] at this;exact du this
  obtain ⟨t',e4,ht⟩:=mem ps'[i] (pm.mem_iff.mp (fg hi'))
  have tt:t'=t:=by
   rw [e4] at e3;unfold prZ at e3;injection e3 with z1 z2
   injection z2 with z2 _
   exact vi (by omega) (by omega)
  rw [<-e1,kH (kF ht nl),ht,tt]
def fK:Sp:=λ vs H Q _=>∃ (t:ah) (W:Rows),vs=[.ref t]/\WebAt H t W/\Nb W/\W.length<=42 /\
 ∀ (s:ah) (H':Hp),Same H H'->H s=none->PairsAt H' s (Fc.stepsS W)->Q (.ref s) H'
theorem tQ (W:Rows) (i:Nat) (hi:i<W.length):kK (W.take (i+1))=kK (W.take i)++(W[i].map λ q=>(i,q)):=by
 unfold kK;rw [fb,fb,iG (by omega),iG (by omega),yw,AA]
 congr 1
 ·rw [DT,DT]
  congr 1
  refine CD λ p hp=>?_;have:=iM.mp hp;simp only [dh];rw [me (by omega),me (by omega)]
 ·rw [yf]
  simp only [dh];rw [me (by omega),aa hi]
  rfl
theorem Nb.take_len {W:Rows} (S:Nb W) (h:W.length<=42) (i:Nat):(kK (W.take i)).length<=1764:=by
 have a:=jQ S h
 have:(kK (W.take i)).length<=(kK W).length:=by
  rw [qQ,qQ]
  conv=>rhs;rw [<-iF i W]
  rw [gq,BX];omega
 omega
theorem rY {f:ah} {fd:eO} (F:Fun K "steps_of" "steps_of" yX f fd) (z_sorted:mg "sorted" = none) (z_enumerate:mg "enumerate" = none):FnOk P w K mg base CX0 1 f fd ["web"] (fK):=by
 refine F.ok rT (λ vs H Q E h=>?_) (λ cdv A outer s0 H vs Q E hr h=>?_)
 ·obtain ⟨t,W,rfl,_⟩:=h
  rfl
 obtain ⟨t,W,rfl,hW,S,h42,k⟩:=h;refine ⟨_,(kJ (kW (kL mC rfl z_sorted Ax (kA (kIT (Nc:=["p","row","q"]) (js:=[none,none,none]) rfl rfl (kBV false rfl z_enumerate (kA (pv 0) kB)) (CS.of rfl rfl) rfl (λ C s₂ H₂ fp pins=>(show PG _ _ (kGY K 2 _) from xQ rfl (kU (kM (i:=0) (show iw (α:=Str) ["p","row","q"] by decide +kernel) rfl (cz rfl)) (kU (kM (i:=1) (show iw (α:=Str) ["p","row","q"] by decide +kernel) rfl (cz rfl)) jG)))) (λ C s₂ H₂ fp pins=>(show PI _ _ _ (kOO K _) from (gW (pv 1)))) (λ C s₂ H₂ fp pins=>(kM (i:=2) (show iw (α:=Str) ["p","row","q"] by decide +kernel) rfl (cz rfl))) (λ C s₂ H₂ fp pins D L=>(xT (zO (jK (kA (pv 0) (kA (pv 2) kB))))))) kB)))),?_⟩;obtain ⟨ts,h1,lts,h3⟩:=id hW;refine ⟨_,rfl,t,rfl,⟨_,SqT.of h1⟩,λ D nD=>?_⟩
 refine kDB (k:=false) (xs:=ts.map V.ref) (λ i σ H2=>∃ (x0 x1 x2:Option V),σ=[x0,x1,x2]/\Same H H2/\PairsAt H2 D (kK (W.take i)))
  ⟨none,none,none,rfl,kI nD _,⟨[],kC,rfl,λ i b t e=>by simp at e⟩⟩ ?_ ?_ ?_
 ·rintro i σ H2 _ ⟨x0,x1,x2,rfl,g2,_⟩
  exact SqT.of (g2 _ _ h1)
 ·rintro i x T σ H2 hx nT ⟨x0,x1,x2,rfl,g2,pr⟩
  rw [bg] at hx;obtain ⟨a,ea,rfl⟩:=eQ.mp hx;have hi:i<W.length:=by rw [<-lts];exact (ag.mp ea).1
  have har:=h3 i a _ ea (aa hi);have rl:=S.len (aa hi);have gT:=kI nT (.tup [.int i,.ref a]);refine ⟨T,_,rfl,SqT.of kC,rfl,_,_,rfl,_,_,rfl,rfl,?_⟩;have g3:=g2.trans gT;have pr3:=pr.kept gT;generalize upd H2 T (.tup [.int i,.ref a])=H3 at *;refine ⟨_,rfl,a,rfl,⟨_,SqT.of (g3 _ _ har)⟩,?_⟩;refine aX (xs:=W[i].map vn) (λ j σ H4=>∃ (x2:Option V),σ=[some (vn i),some (.ref a),x2]/\Same H H4/\PairsAt H4 D (kK (W.take i)++((W[i].take j).map λ q=>(i,q)))) ⟨x2,rfl,g3,by simpa using pr3⟩ ?_ ?_ ?_
  ·rintro j σ H4 _ ⟨x2,rfl,g4,_⟩
   exact SqT.of (g4 _ _ har)
  ·rintro j v σ H4 hv ⟨x2,rfl,g4,pr4⟩
   rw [bg] at hv;obtain ⟨q,eq',rfl⟩:=eQ.mp hv;have hj:=(ag.mp eq').1;refine ⟨_,rfl,_,rfl,yS2,λ b nb=>?_⟩;have gb:=kI nb (.tup [vn i,vn q]);have hb:=kC (H:=H4) (a:=b) (o:=.tup [vn i,vn q]);have pr5:=pr4.kept gb;have g5:=g4.trans gb;refine (λ (z:upd H4 b (.tup [vn i,vn q]) b=some (.tup [vn i,vn q]))=>?_) hb;generalize upd H4 b (.tup [vn i,vn q])=H5 at *;obtain ⟨ss,c1,c2,c3⟩:=id pr5;have l1:=Nb.take_len S h42 i
   have l2:ss.length<=1764+42:=by
    rw [c2,eI,aj,fb];omega
   refine ⟨_,c1,(by rw [aj];exact qU (by omega)),?_⟩;have A1:=PairsAt.app (H':=H5) c1 c2 c3 (t:=(i,q)) z;refine ⟨_,rfl,qK nD g5,?_⟩;have tk:(W[i].take (j+1)).map (λ q=>(i,q))=(W[i].take j).map (λ q=>(i,q))++[(i,q)]:=by rw [oq,eq',gq];rfl
   rw [tk,<-eh];exact A1
  ·rintro σ H4 ⟨x2,rfl,g4,pr4⟩
   rw [aj,ig] at pr4;exact ⟨_,_,_,rfl,g4,by rw [tQ W i hi];exact pr4⟩
 ·rintro σ H2 ⟨x0,x1,x2,rfl,g2,pr⟩
  rw [aj,lts,ig] at pr;obtain ⟨ps,e1,e2,e3⟩:=tU pr;refine ⟨D,ps,rfl,.inl (SqL.of e1),e2,λ l ps' nl pm sr=>?_⟩;exact k l _ (g2.trans (kI nl _)) (g2.free nl) (e3 l ps' nl pm sr)
def RowsT (H:Hp) (s:ah) (T:List (List Nat)):Prop:=∃ ss:List ah,H s=some (.lst (ss.map V.ref))/\ss.length=T.length/\∀ (i:Nat) (b:ah) (t:List Nat),ss[i]?=some b->T[i]?=some t->H b=some (.tup (t.map vn))
theorem RowsT.app {H:Hp} {s b:ah} {ss:List ah} {T:List (List Nat)} {t:List Nat} (h1:H s=some (.lst (ss.map V.ref))) (h2:ss.length=T.length) (h3:∀ (i:Nat) (b:ah) (t:List Nat),ss[i]?=some b->T[i]?=some t->H b=some (.tup (t.map vn))) (hb:H b=some (.tup (t.map vn))) :
  RowsT (upd H s (.lst (ss.map V.ref++[.ref b]))) s (T++[t]):=by
 refine ⟨ss++[b],by rw [gq];exact kC,by simp [h2],λ i c u e1 e2=>?_⟩;have cs:c≠s->upd H s (.lst (ss.map V.ref++[.ref b])) c=H c:=λ z=>kH z;rcases iU i ss.length with hl | hl
 ·rw [cu hl] at e1
  rw [cu (by omega)] at e2;have:=h3 i c u e1 e2;rw [cs (zK this h1 (by simp))];exact this
 ·obtain rfl:i=ss.length:=by
   have:=(ag.mp e1).1;simp at this;omega
  rw [km] at e1;rw [h2,km] at e2;cases e1
  cases e2
  rw [cs (zK hb h1 (by simp))];exact hb
theorem kDG {H:Hp} {s:ah} {T:List (List Nat)} (h:RowsT H s T) (hne:∀ t∈T,t≠[]):∃ ps:List (ah×List Int),H s=some (.lst (ps.map λ q=>V.ref q.1))/\kNH H ps /\
  ∀ (l:ah) (ps':List (ah×List Int)),H l=none->ps'.Perm ps->ps'.Pairwise (λ a b=>Srt.lexLt b.2 a.2=false)->RowsT (upd H l (.lst (ps'.map λ q=>V.ref q.1))) l (Fc.sortL T):=by
 obtain ⟨ss,h1,h2,h3⟩:=h
 have e1:(ss.zip (T.map Fc.zl)).map (λ q=>V.ref q.1)=ss.map V.ref:=by
  rw [show (λ q:ah×List Int=>V.ref q.1)=V.ref∘wu from rfl,<-AF,DR (by rw [aj];omega)]
 have vz:∀ t:List Nat,(Fc.zl t).map V.int=t.map vn:=λ t=>by unfold Fc.zl;rw [AF];rfl
 have mem:∀ q∈ss.zip (T.map Fc.zl),∃ t:List Nat,t∈T/\q.2=Fc.zl t/\H q.1=some (.tup (t.map vn)):=λ q hq=>by
  obtain ⟨i,hi,rfl⟩:=ft.mp hq;rw [Dj,aj] at hi;refine ⟨T[i]'(by omega),fg _,by simp,?_⟩;have:=h3 i (ss[i]'(by omega)) (T[i]'(by omega)) (aa _) (aa _);simpa using this
 refine ⟨ss.zip (T.map Fc.zl),by rw [e1];exact h1,λ q hq=>?_,λ l ps' nl pm sr=>?_⟩
 ·obtain ⟨t,m,e,ht⟩:=mem q hq
  rw [e,vz];refine ⟨ht,λ z=>hne t m ?_⟩;unfold Fc.zl at z;exact wo.mp z
 ·have back:∃ T':List (List Nat),ps'.map (·.2)=T'.map Fc.zl/\T'.Perm T:=by
   have pz:(ps'.map (·.2)).Perm (T.map Fc.zl):=by
    have:=pm.map (λ q:ah×List Int=>q.2);rwa [BE (by rw [aj];omega)] at this
   obtain ⟨m,a,b⟩:=Srt.perm_back pz rfl;exact ⟨m,b,a⟩
  obtain ⟨T',eT,pT⟩:=back
  have srt:T'.Pairwise (λ a b=>Fc.leL a b=true):=by
   have a1:(ps'.map (·.2)).Pairwise (λ a b=>Srt.lexLt b a=false):=kg.mpr sr;rw [eT] at a1;refine (kg.mp a1).imp λ {a b} hh=>?_;rw [Fc.leL_iff];exact hh
  have eq:=Fc.sortL_is pT srt
  have ln:ps'.length=T'.length:=by
   have:=congrArg iP eT;simpa using this
  refine ⟨ps'.map (·.1),by rw [AF];exact kC,by rw [<-eq,aj,ln],λ i b t e1 e2=>?_⟩;rw [<-eq] at e2;have hi:=(ag.mp e2).1;have hi':i<ps'.length:=by omega
  rw [bg,aa hi'] at e1;have e1:ps'[i].1=b:=du e1
  have e3:ps'[i].2=Fc.zl t:=by
   have:=congrArg (λ l=>l[i]?) eT;rw [bg,bg,e2,aa hi'] at this;exact du this
  obtain ⟨t',m,e4,ht⟩:=mem ps'[i] (pm.mem_iff.mp (fg hi'))
  have tt:t'=t:=by
   rw [e4] at e3;exact Fc.zl_inj e3
  rw [<-e1,kH (kF ht nl),ht,tt]
def oG:Sp:=λ vs H Q _=>∃ (t:ah) (W:Rows),vs=[.ref t]/\WebAt H t W/\Nb W/\W.length<=42 /\
 ∀ (s:ah) (H':Hp),Same H H'->H s=none->PairsAt H' s (Fc.tiesS W)->Q (.ref s) H'
theorem gF {W:Rows} (S:Nb W) (h:W.length<=42):(Fc.stepsS W).length<=1764:=by
 have:=jQ S h;rw [show (Fc.stepsS W).length=(kK W).length from (Fc.sortP_perm _).length_eq];exact this
theorem kIX {f:ah} {fd:eO} (F:Fun K "ties" "ties" cX f fd) (zB:Own.Has P w K mg base "steps_of" ["web"] 1 (fK)):FnOk P w K mg base CX0 2 f fd ["web"] (oG):=by
 refine F.ok kIF (λ vs H Q E h=>?_) (λ cdv A outer s0 H vs Q E hr h=>?_)
 ·obtain ⟨t,W,rfl,_⟩:=h
  rfl
 obtain ⟨t,W,rfl,hW,S,h42,k⟩:=h;refine ⟨_,(kJ (kW (bM (Nc:=["p","q"]) (js:=[none,none]) rfl rfl (xX (Own.pe_has zB (hr.mono (by decide)) rfl (kA (pv 0) kB))) (CS.of rfl rfl) rfl (λ C s₂ H₂ fp pins=>(show PG _ _ (kGY K 2 _) from xQ rfl (kU (kM (i:=0) (show iw (α:=Str) ["p","q"] by decide +kernel) rfl (cz rfl)) (kU (kM (i:=1) (show iw (α:=Str) ["p","q"] by decide +kernel) rfl (cz rfl)) jG)))) (λ C s₂ H₂ fp pins D L=>(bK (qI kGH (pv 0) (pv 1) (qZ _)) (zO (jK (kA (pv 0) (kA (pv 1) kB))))))))),?_⟩;have l1:=gF S h42;refine ⟨_,rfl,t,W,rfl,hW,S,h42,λ s H1 g1 ns pr=>?_⟩;obtain ⟨ss,h1,h2,h3⟩:=id pr;refine ⟨s,rfl,⟨_,SqL.of h1⟩,λ D nD=>?_⟩
 refine xG (xs:=ss.map V.ref) (λ i σ H2=>∃ (x0 x1:Option V),σ=[x0,x1]/\Same H1 H2/\PairsAt H2 D (((Fc.stepsS W).take i).filter λ t=>decide (t.1<t.2)))
  ⟨none,none,rfl,kI nD _,⟨[],kC,rfl,λ i b t e=>by simp at e⟩⟩ ?_ ?_ ?_
 ·rintro i σ H2 _ ⟨x0,x1,rfl,g2,_⟩
  exact SqL.of (g2 _ _ h1)
 ·rintro i x σ H2 hx ⟨x0,x1,rfl,g2,pr2⟩
  rw [bg] at hx;obtain ⟨b,eb,rfl⟩:=eQ.mp hx;have hi:i<(Fc.stepsS W).length:=by rw [<-h2];exact (ag.mp eb).1
  have et:=aa hi;have hb:=h3 i b _ eb et;have tk:(Fc.stepsS W).take (i+1)=(Fc.stepsS W).take i++[(Fc.stepsS W)[i]]:=by rw [oq,et];rfl
  generalize (Fc.stepsS W)[i]=t at *;refine ⟨b,_,rfl,SqT.of (g2 _ _ hb),rfl,_,_,rfl,_,_,rfl,rfl,?_⟩;refine ⟨_,rfl,_,rfl,_,_,rfl,rfl,_,rfl,?_⟩;rw [tk];refine pV (λ z=>?_) (λ z=>?_)
  ·have z:=of_decide_eq_true z
   refine ⟨_,rfl,_,rfl,yS2,λ c nc=>?_⟩;have gc:=kI nc (.tup [vn t.1,vn t.2]);have hc:=kC (H:=H2) (a:=c) (o:=.tup [vn t.1,vn t.2]);have pr3:=pr2.kept gc;have g3:=g2.trans gc;refine (λ (y:upd H2 c (.tup [vn t.1,vn t.2]) c=some (.tup [vn t.1,vn t.2]))=>?_) hc;generalize upd H2 c (.tup [vn t.1,vn t.2])=H3 at *;obtain ⟨cs,c1,c2,c3⟩:=id pr3
   have lc:cs.length<=1764:=by
    rw [c2];have:=vb (λ t:Nat×Nat=>decide (t.1<t.2)) ((Fc.stepsS W).take i);rw [fb] at this;omega
   refine ⟨_,c1,(by rw [aj];exact qU (by omega)),?_⟩;refine ⟨_,_,rfl,qK nD g3,?_⟩;rw [so,ip,if_pos (by exact decide_eq_true (by omega))];exact PairsAt.app (H':=H3) c1 c2 c3 y
  ·have z:¬ (t.1:Int)<(t.2:Int):=λ q=>z (decide_eq_true q)
   refine ⟨_,_,rfl,g2,?_⟩;rw [so,ip,if_neg (by intro q;have:=of_decide_eq_true q;omega)];simpa using pr2
 ·rintro σ H2 ⟨x0,x1,rfl,g2,pr2⟩
  rw [aj,h2,ig] at pr2;exact k D H2 (g1.trans g2) (g1.free nD) pr2
def pk (t:Nat×Nat):List Key:=[zc (t.1:Int),zc (t.2:Int)]
theorem kLR {a b:Nat×Nat} (h:pk a=pk b):a=b:=by
 unfold pk at h;injection h with h1 h2
 injection h2 with h2 _
 have:=DU h1;have:=DU h2;exact vi (by omega) (by omega)
def SeenAt (H:Hp) (d:ah) (X:List (Nat×Nat)):Prop:=∃ kvs:List (List Key×V),H d=some (.dT kvs)/\(∀ t:Nat×Nat,(yP kvs (pk t)).isSome=decide (t∈X))/\kvs.length<=X.length/\∀ y∈kvs,∃ t∈X,y.1=pk t
theorem SeenAt.kept {H H':Hp} {d:ah} {X:List (Nat×Nat)} (h:SeenAt H d X) (g:Same H H'):SeenAt H' d X:=by
 obtain ⟨kvs,a,b⟩:=h;exact ⟨kvs,g _ _ a,b⟩
theorem bF {H:Hp} {d:ah}:SeenAt (upd H d (.dT [])) d []:=⟨[],kC,λ t=>by simp [yP],be _,λ y hy=>nomatch hy⟩
theorem sJ {kvs:List (List Key×V)} {k:List Key} {v:V} {y:List Key×V} (h:y∈wN kvs k v):y.1=k\/∃ z∈kvs,z.1=y.1:=by
 unfold wN at h
 split at h
 ·obtain ⟨z,hz,rfl⟩:=gi.mp h
  split
  ·exact .inr ⟨z,hz,rfl⟩
  ·exact .inr ⟨z,hz,rfl⟩
 ·rcases eY.mp h with z | z
  ·exact .inr ⟨y,z,rfl⟩
  ·exact .inl (by rw [fw.mp z])
theorem cW {kvs:List (List Key×V)} {X:List (Nat×Nat)} {t:Nat×Nat} {v:V} (h1:∀ t:Nat×Nat,(yP kvs (pk t)).isSome=decide (t∈X)) (h2:kvs.length<=X.length) (h3:∀ y∈kvs,∃ t∈X,y.1=pk t) :
  (∀ u:Nat×Nat,(yP (wN kvs (pk t) v) (pk u)).isSome=decide (u∈X++[t]))/\(wN kvs (pk t) v).length<=(X++[t]).length/\∀ y∈wN kvs (pk t) v,∃ u∈X++[t],y.1=pk u:=by
 refine ⟨λ u=>?_,?_,λ y hy=>?_⟩
 ·rw [rM]
  by_cases e:pk u=pk t
  ·rw [if_pos e,kLR e]
   simp
  ·rw [if_neg e,h1 u]
   have:u≠t:=λ z=>e (by rw [z]);simp [this]
 ·have:=yN kvs (pk t) v
  rw [eI,iu];omega
 ·rcases sJ hy with e | ⟨z,hz,e⟩
  ·exact ⟨t,by simp,e⟩
  ·obtain ⟨u,hu,eu⟩:=h3 z hz
   exact ⟨u,iJ _ hu,by rw [<-e,eu]⟩
theorem nO:∀ (more kvs:List (List Key×V)) (k:List Key),(yP (yW kvs more) k).isSome=((yP kvs k).isSome || (yP more k).isSome)
 | [],kvs,k=>by simp [yW,yP]
 | m::more,kvs,k=>by
  have:=nO more (wN kvs m.1 m.2) k;unfold yW at this ⊢;rw [si,this,rM];by_cases e:m.1=k
  ·rw [if_pos e.symm,jO e]
   simp
  ·rw [if_neg (λ z=>e z.symm),jP e]
theorem nP:∀ (more kvs:List (List Key×V)),(yW kvs more).length<=kvs.length+more.length
 | [],kvs=>be _
 | m::more,kvs=>by
  have:=nP more (wN kvs m.1 m.2);have:=yN kvs m.1 m.2;unfold yW at *;rw [si,iE];omega
theorem lQ:∀ (more kvs:List (List Key×V)) (y:List Key×V),y∈yW kvs more->(∃ z∈kvs,z.1=y.1)\/∃ z∈more,z.1=y.1
 | [],kvs,y,h=>.inl ⟨y,h,rfl⟩
 | m::more,kvs,y,h=>by
  have h:y∈yW (wN kvs m.1 m.2) more:=h;rcases lQ more _ y h with ⟨z,hz,e⟩ | ⟨z,hz,e⟩
  ·rcases sJ hz with e2 | ⟨z2,hz2,e2⟩
   ·exact .inr ⟨m,fv ..,by rw [<-e,e2]⟩
   ·exact .inl ⟨z2,hz2,by rw [e2,e]⟩
  ·exact .inr ⟨z,eZ _ hz,e⟩
theorem SeenAt.upd {H:Hp} {d:ah} {X Y:List (Nat×Nat)} {kvs more:List (List Key×V)} (h1:∀ t:Nat×Nat,(yP kvs (pk t)).isSome=decide (t∈X)) (h2:kvs.length<=X.length) (h3:∀ y∈kvs,∃ t∈X,y.1=pk t)
  (m1:∀ t:Nat×Nat,(yP more (pk t)).isSome=decide (t∈Y)) (m2:more.length<=Y.length) (m3:∀ y∈more,∃ t∈Y,y.1=pk t):SeenAt (L2.upd H d (.dT (yW kvs more))) d (X++Y):=by
 refine ⟨_,kC,λ t=>?_,?_,λ y hy=>?_⟩
 ·rw [nO,h1,m1,jl,BY,decide_eq_true_iff,decide_eq_true_iff,decide_eq_true_iff,eY]
 ·have:=nP more kvs
  rw [eI];omega
 ·rcases lQ more kvs y hy with ⟨z,hz,e⟩ | ⟨z,hz,e⟩
  ·obtain ⟨u,hu,eu⟩:=h3 z hz
   exact ⟨u,iJ _ hu,by rw [<-e,eu]⟩
  ·obtain ⟨u,hu,eu⟩:=m3 z hz
   exact ⟨u,fu _ hu,by rw [<-e,eu]⟩
theorem cQ {W:Rows} {p q k:Nat} (T:Turns W p q k):Fc.per W (p,q)=k:=Fc.per_is T.pos T.back T.first
theorem cP {W:Rows} {p q k:Nat} (T:Turns W p q k):orb W p q k=Fc.rnd W (p,q):=by
 unfold orb Fc.rnd;rw [cQ T]
def bA:Sp:=λ vs H Q _=>∃ (t:ah) (W:Rows),vs=[.ref t]/\WebAt H t W/\Nb W/\W.length<=42 /\
 ∀ (s:ah) (H':Hp),Same H H'->H s=none->RowsT H' s (Fc.facesS W)->Q (.ref s) H'
theorem kLL {W:Rows} (S:Nb W) {t:Nat×Nat} (h:t∈kK W):(Fc.rnd W t).map (·.1)≠[]:=λ z=>by
 have:=Fc.rnd_self S h;rw [wo.mp z] at this;cases this
theorem sR {W:Rows} (S:Nb W) {T:List (Nat×Nat)} (hT:∀ t∈T,t∈kK W):∀ f∈(Fc.fgo W T).1,f≠[]:=λ f hf=>by
 obtain ⟨R,r1,r2,_⟩:=(Fc.fgo_ok S T hT).reps;rw [r2] at hf;obtain ⟨r,hr,rfl⟩:=gi.mp hf;exact kLL S (hT r (r1 r hr))
theorem vO {W:Rows}:∀ t∈Fc.stepsS W,t∈kK W:=λ t h=>(Fc.sortP_perm _).mem_iff.mp h
theorem kID {W:Rows} (S:Nb W) (h:W.length<=42) {t:Nat×Nat} (ht:t∈kK W):t.1<42/\t.2<42:=by
 have:=S.e (mem_steps.mp (show (t.1,t.2)∈kK W from ht));omega
theorem kGJ {f:ah} {fd:eO} (F:Fun K "faces" "faces" aA f fd) (zB:Own.Has P w K mg base "steps_of" ["web"] 1 (fK)) (jW:Own.Has P w K mg base "steps_round" ["web","step"] 2 (zH)) (z_tuple:mg "tuple" = none) (z_sorted:mg "sorted" = none):FnOk P w K mg base CX0 3 f fd ["web"] (bA):=by
 refine F.ok sc_faces (λ vs H Q E h=>?_) (λ cdv A outer s0 H vs Q E hr h=>?_)
 ·obtain ⟨t,W,rfl,_⟩:=h
  rfl
 obtain ⟨t,W,rfl,hW,S,h42,k⟩:=h
 refine ⟨_,(kD (kT (i:=1) sc_faces.nd rfl (cz rfl) (jZ kB))
   (kD (kT (i:=2) sc_faces.nd rfl (cz rfl) rW)
   (kD (xP gj rfl (xX (Own.pe_has zB (hr.mono (by decide)) rfl (kA (pv 0) kB))) (kM (i:=3) sc_faces.nd rfl (cz rfl)) (kJ (yT (kAB (dA (lN hr) (pv 3) (pv 2))) (kD (kT (i:=4) sc_faces.nd rfl (cz rfl) (Own.pe_has jW (hr.mono (by decide)) rfl (kA (pv 0) (kA (pv 3) kB))))
   (kD (qB (jA PySem.F.plainAttrs_dict Aw PySem.F.type_dict_update (kJB (lN hr)) (pv 2) (kA (kBX (Nc:=["one"]) (js:=[none]) rfl rfl (xX (pv 4)) (CS.of rfl rfl) rfl (λ C s₂ H₂ fp pins=>(kM (i:=0) (show iw (α:=Str) ["one"] by decide +kernel) rfl (cz rfl))) (λ C s₂ H₂ fp pins D L=>(xT (kBY (lN hr) (pv 0) uJ)))) kB)))
   (kJ (qB (jA dc ml mm wG (pv 1) (kA (jV jY rfl z_tuple jf (kA (bM (Nc:=["p","q"]) (js:=[none,none]) rfl rfl (xX (pv 4)) (CS.of rfl rfl) rfl (λ C s₂ H₂ fp pins=>(show PG _ _ (kGY K 2 _) from xQ rfl (kU (kM (i:=0) (show iw (α:=Str) ["p","q"] by decide +kernel) rfl (cz rfl)) (kU (kM (i:=1) (show iw (α:=Str) ["p","q"] by decide +kernel) rfl (cz rfl)) jG)))) (λ C s₂ H₂ fp pins D L=>(xT (zO (pv 0))))) kB)) kB)))))) qX)))
   (kJ (kW (kL mC rfl z_sorted Ax (kA (pv 1) kB))))))),?_⟩
 have l1:=gF S h42;have l0:=jQ S h42;refine ⟨yS0,λ l nl=>?_⟩;have gl:=kI nl (.lst []);have hl:=kC (H:=H) (a:=l) (o:=.lst []);refine λ d nd=>?_;have gd:=kI nd (.dT []);have hd:=bF (H:=upd H l (.lst [])) (d:=d);have nld:l≠d:=λ z=>by rw [<-z,hl] at nd;cases nd
 have hl1:=gd _ _ hl;have g1:=gl.trans gd;have nd0:H d=none:=gl.free nd;refine (λ (hd':SeenAt (upd (upd H l (.lst [])) d (.dT [])) d [])=>?_) hd;generalize upd (upd H l (.lst [])) d (.dT [])=H1 at *;refine ⟨_,rfl,t,W,rfl,hW.kept g1,S,h42,λ s H2 g2 ns pr=>?_⟩;obtain ⟨ss,h1,h2,h3⟩:=id pr;have g02:=g1.trans g2;have nsl:s≠l:=λ z=>by rw [z,hl1] at ns;cases ns
 have nsd:s≠d:=λ z=>by obtain ⟨kvs,a,_⟩:=hd';rw [z,a] at ns;cases ns
 refine ⟨s,rfl,⟨_,SqL.of h1⟩,?_⟩
 refine lP (xs:=ss.map V.ref) (λ i σ H3=>∃ (x3 x4:Option V),σ=[some (.ref t),some (.ref l),some (.ref d),x3,x4]/\(∀ b o,b≠l->b≠d->H2 b=some o->H3 b=some o)/\RowsT H3 l (Fc.fgo W ((Fc.stepsS W).take i)).1/\SeenAt H3 d (Fc.fgo W ((Fc.stepsS W).take i)).2)
  ⟨none,none,rfl,(λ b o _ _ e=>e),⟨[],g2 _ _ hl1,rfl,λ i b t e=>by simp at e⟩,hd'.kept g2⟩ ?_ ?_ ?_
 ·rintro i σ H3 _ ⟨x3,x4,rfl,f3,_⟩
  exact SqL.of (f3 _ _ nsl nsd h1)
 ·rintro i x σ H3 hx ⟨x3,x4,rfl,f3,rt,sn⟩
  rw [bg] at hx;obtain ⟨b,eb,rfl⟩:=eQ.mp hx;have hi:i<(Fc.stepsS W).length:=by rw [<-h2];exact (ag.mp eb).1
  have et:=aa hi;have hb:=h3 i b _ eb et;have tk:(Fc.stepsS W).take (i+1)=(Fc.stepsS W).take i++[(Fc.stepsS W)[i]]:=by rw [oq,et];rfl
  have mt:=vO _ (fg hi);have fi:=Fc.fgo_ok S ((Fc.stepsS W).take i) λ t h=>vO t (rj h);have lX:=fi.len;rw [tk,Fc.fgo_snoc]
  have lF:(Fc.fgo W ((Fc.stepsS W).take i)).1.length<=1764:=by
   have:∀ T:List (Nat×Nat),(Fc.fgo W T).1.length<=T.length:=λ T=>by
    have:∀ n,n<=T.length->(Fc.fgo W (T.take n)).1.length<=n:=λ n=>by
     induction n with
     | zero=>intro _;rw [BD];exact be _
     | succ n ih =>
      intro hn;rw [show T.take (n+1)=T.take n++[T[n]] by rw [oq,aa (by omega)];rfl,Fc.fgo_snoc];have:=ih (by omega);unfold Fc.fstep
      split
      ·omega
      ·rw [eI]
       show _+1<=_;omega
    have:=this T.length (be _);rwa [ig] at this
   have:=this ((Fc.stepsS W).take i);rw [fb] at this;omega
  generalize (Fc.stepsS W)[i]=u at *;generalize Fc.fgo W ((Fc.stepsS W).take i)=st at *
  have nbl:b≠l:=λ z=>by
   have a:=g2 _ _ hl1;rw [z,a] at hb;cases hb
  have nbd:b≠d:=λ z=>by
   obtain ⟨kvs,a,_⟩:=hd'.kept g2;rw [z,a] at hb;cases hb
  have hb3:=f3 _ _ nbl nbd hb;obtain ⟨kvs,k1,k2,k3,k4⟩:=id sn;refine ⟨_,rfl,_,rfl,d,_,rfl,DGet.t (k:=pk u) k1 hb3,_,rfl,?_⟩;rw [k2 u];unfold Fc.fstep;by_cases c:u∈st.2
  ·rw [decide_eq_true c,if_pos c]
   exact xB ⟨_,_,rfl,f3,rt,sn⟩
  rw [decide_eq_false c,if_neg c];obtain ⟨u1,u2⟩:=u;have hE:Tri.E W u1 u2:=mem_steps.mp mt
  have keepW:WebAt H3 t W:=by
   obtain ⟨ts,q1,q2,q3⟩:=hW.kept g02;have ok:∀ (b:ah) (xs:List V),H2 b=some (.tup xs)->H3 b=some (.tup xs):=λ b xs e=>f3 b _ (λ z=>by rw [z,g2 _ _ hl1] at e;cases e) (λ z=>by obtain ⟨kvs,a,_⟩:=hd'.kept g2;rw [z,a] at e;cases e) e;exact ⟨ts,ok _ _ q1,q2,λ j a row e1 e2=>ok _ _ (q3 j a row e1 e2)⟩
  refine uN ⟨_,rfl,_,rfl,t,b,W,u1,u2,rfl,keepW,S,h42,hb3,hE,λ q m H4 g4 T prq=>?_⟩;rw [cP T] at prq;have few:=T.few;have lm:=cQ T;obtain ⟨qs,q1,q2,q3⟩:=id prq
  have lq:(Fc.rnd W (u1,u2)).length=m:=by rw [Fc.rnd_len,lm]
  refine ⟨_,rfl,.inr (.inr (.inl ⟨rfl,.inr ⟨_,g4 _ _ k1⟩⟩)),_,rfl,q,rfl,⟨_,SqL.of q1⟩,λ D nD=>?_⟩;refine xG (xs:=qs.map V.ref) (λ j σ H5=>∃ (x0:Option V),σ=[x0]/\Same H4 H5/\SeenAt H5 D ((Fc.rnd W (u1,u2)).take j)) ⟨none,rfl,kI nD _,bF⟩ ?_ ?_ ?_
  ·rintro j σ H5 _ ⟨x0,rfl,g5,_⟩
   exact SqL.of (g5 _ _ q1)
  ·rintro j v σ H5 hv ⟨x0,rfl,g5,sD⟩
   rw [bg] at hv;obtain ⟨c',ec,rfl⟩:=eQ.mp hv;have hj:j<(Fc.rnd W (u1,u2)).length:=by rw [<-q2];exact (ag.mp ec).1
   have ej:=aa hj;have hc:=g5 _ _ (q3 j c' _ ec ej);have tkj:(Fc.rnd W (u1,u2)).take (j+1)=(Fc.rnd W (u1,u2)).take j++[(Fc.rnd W (u1,u2))[j]]:=by rw [oq,ej];rfl
   rw [tkj];generalize (Fc.rnd W (u1,u2))[j]=y at *;obtain ⟨dv,d1,d2,d3,d4⟩:=sD;have ld:dv.length<=1764:=by rw [fb] at d3;omega
   refine ⟨_,rfl,_,DPut.t (k:=pk y) d1 hc (qU (by omega)),?_⟩;obtain ⟨a1,a2,a3⟩:=cW (t:=y) (v:=.bl true) d2 d3 d4;exact ⟨_,rfl,qK nD g5,⟨_,kC,a1,a2,a3⟩⟩
  ·rintro σ H5 ⟨x0,rfl,g5,sD⟩
   rw [aj,q2,ig] at sD;obtain ⟨dv,d1,d2,d3,d4⟩:=sD;have g45:=g4.trans g5;have k15:=g45 _ _ k1;have nDd:d≠D:=λ z=>by rw [<-z,g4 _ _ k1] at nD;cases nD
   refine ⟨d,D,kvs,dv,rfl,rfl,nDd,k15,d1,(λ y hy=>?_),?_,?_⟩
   ·obtain ⟨v,hv,e⟩:=d4 y hy
    have:=kID S h42 (Fc.rnd_sub S mt hv);exact ⟨v.1,v.2,e,this.1,this.2⟩
   ·have:kvs.length+dv.length<=20000:=by omega
    exact qq (qU this)
   have sn6:=SeenAt.upd (H:=H5) (d:=d) k2 k3 k4 d2 d3 d4;have f6:∀ b o,b≠d->H3 b=some o->upd H5 d (.dT (yW kvs dv)) b=some o:=λ b o nb e=>by rw [kH nb];exact g45 _ _ e
   have q16:upd H5 d (.dT (yW kvs dv)) q=some (.lst (qs.map V.ref)):=by
    rw [kH (zK (g5 _ _ q1) k15 (by simp))];exact g5 _ _ q1
   have q36:∀ (i:Nat) (b:ah) (t:Nat×Nat),qs[i]?=some b->(Fc.rnd W (u1,u2))[i]?=some t->upd H5 d (.dT (yW kvs dv)) b=some (.tup [vn t.1,vn t.2]):=λ i b t e1 e2=>by
    have:=g5 _ _ (q3 i b t e1 e2);rw [kH (zK this k15 (by simp))];exact this
   obtain ⟨ls,r1,r2,r3⟩:=id rt;have r16:upd H5 d (.dT (yW kvs dv)) l=some (.lst (ls.map V.ref)):=f6 l _ nld r1
   have r36:∀ (i:Nat) (b:ah) (t:List Nat),ls[i]?=some b->st.1[i]?=some t->upd H5 d (.dT (yW kvs dv)) b=some (.tup (t.map vn)):=λ i b t e1 e2=>by
    have:=r3 i b t e1 e2;exact f6 b _ (zK this k1 (by simp)) this
   have f36:∀ b o,b≠l->b≠d->H2 b=some o->upd H5 d (.dT (yW kvs dv)) b=some o:=λ b o n1 n2 e=>f6 b o n2 (f3 b o n1 n2 e)
   generalize upd H5 d (.dT (yW kvs dv))=H6 at *
   refine ⟨_,rfl,.inl ⟨rfl,_,SqL.of r16⟩,_,rfl,q,rfl,⟨_,SqL.of q16⟩,λ D2 nD2=>?_⟩;refine xG (xs:=qs.map V.ref) (λ j σ H7=>∃ (x0 x1:Option V),σ=[x0,x1]/\Same H6 H7/\H7 D2=some (.lst ((((Fc.rnd W (u1,u2)).take j).map (·.1)).map vn))) ⟨none,none,rfl,kI nD2 _,kC⟩ ?_ ?_ ?_
   ·rintro j σ H7 _ ⟨x0,x1,rfl,g7,_⟩
    exact SqL.of (g7 _ _ q16)
   ·rintro j v σ H7 hv ⟨x0,x1,rfl,g7,hD2⟩
    rw [bg] at hv;obtain ⟨c',ec,rfl⟩:=eQ.mp hv;have hj:j<(Fc.rnd W (u1,u2)).length:=by rw [<-q2];exact (ag.mp ec).1
    have ej:=aa hj;have hc:=g7 _ _ (q36 j c' _ ec ej);have tkj:(Fc.rnd W (u1,u2)).take (j+1)=(Fc.rnd W (u1,u2)).take j++[(Fc.rnd W (u1,u2))[j]]:=by rw [oq,ej];rfl
    rw [tkj];generalize (Fc.rnd W (u1,u2))[j]=y at *;refine ⟨c',_,rfl,SqT.of hc,rfl,_,_,rfl,_,_,rfl,rfl,?_⟩;refine ⟨_,rfl,_,hD2,(by rw [aj,aj,fb];exact qU (by omega)),?_⟩;refine ⟨_,_,rfl,qK nD2 g7,?_⟩;rw [gq,gq];exact kC
   ·rintro σ H7 ⟨x0,x1,rfl,g7,hD2⟩
    rw [aj,q2,ig] at hD2;refine ⟨D2,_,rfl,.inl ⟨SqL.of hD2,λ f nf=>?_⟩⟩;have gf:=kI nf (.tup (((Fc.rnd W (u1,u2)).map (·.1)).map vn));have g8:=g7.trans gf;have hf:=kC (H:=H7) (a:=f) (o:=.tup (((Fc.rnd W (u1,u2)).map (·.1)).map vn));generalize hH8:upd H7 f (.tup (((Fc.rnd W (u1,u2)).map (·.1)).map vn))=H8 at *;have r18:=g8 _ _ r16;have r38:∀ (i:Nat) (b:ah) (t:List Nat),ls[i]?=some b->st.1[i]?=some t->H8 b=some (.tup (t.map vn)):=λ i b t e1 e2=>g8 _ _ (r36 i b t e1 e2);refine ⟨l,_,_,rfl,rfl,r18,(by rw [aj,r2];exact qU (by omega)),?_⟩;refine ⟨_,_,rfl,(λ b o n1 n2 e=>by rw [kH n1];exact g8 _ _ (f36 b o n1 n2 e)),RowsT.app r18 r2 r38 hf,?_⟩;obtain ⟨kv6,z1,z2⟩:=sn6.kept g8;exact ⟨kv6,by rw [kH nld.symm];exact z1,z2⟩
 ·rintro σ H3 ⟨x3,x4,rfl,f3,rt,sn⟩
  rw [aj,h2,ig] at rt;obtain ⟨ps,e1,e2,e3⟩:=kDG rt (sR S vO);have g03:Same H H3:=λ b o e=>f3 b o (kF e nl) (kF e nd0) (g02 b o e);refine ⟨_,rfl,l,ps,rfl,.inl (SqL.of e1),e2,λ l' ps' nl' pm sr=>?_⟩;exact k l' _ (g03.trans (kI nl' _)) (g03.free nl') (e3 l' ps' nl' pm sr)
def gN:Sp:=λ vs H Q _=>∃ (t:ah) (W:Rows),vs=[.ref t]/\WebAt H t W/\Nb W/\W.length<=42 /\
 ∀ (H':Hp),Same H H'->Q (.bl (decide (W.length+(Fc.facesS W).length=(Fc.tiesS W).length+2))) H'
theorem kAO {f:ah} {fd:eO} (F:Fun K "is_flat" "is_flat" wD f fd) (zX:Own.Has P w K mg base "faces" ["web"] 3 (bA)) (uO:Own.Has P w K mg base "ties" ["web"] 2 (oG)) (z_len:mg "len" = none):FnOk P w K mg base CX0 4 f fd ["web"] (gN):=by
 refine F.ok tY (λ vs H Q E h=>?_) (λ cdv A outer s0 H vs Q E hr h=>?_)
 ·obtain ⟨t,W,rfl,_⟩:=h
  rfl
 obtain ⟨t,W,rfl,hW,S,h42,k⟩:=h;refine ⟨_,(kJ (kW (bN mX (qC jM (kL kQ rfl z_len fe (kA (pv 0) kB)) (kL kQ rfl z_len fe (kA (Own.pe_has zX (hr.mono (by decide)) rfl (kA (pv 0) kB)) kB))) (qC jM (kL kQ rfl z_len fe (kA (Own.pe_has uO (hr.mono (by decide)) rfl (kA (pv 0) kB)) kB)) kO) (qZ _)))),?_⟩;obtain ⟨ts,h1,lts,h3⟩:=id hW;refine ⟨_,rfl,t,_,rfl,.inr (SqT.of h1),_,rfl,t,W,rfl,hW,S,h42,λ s H1 g1 ns rt=>?_⟩;obtain ⟨ss,r1,r2,_⟩:=rt;refine ⟨s,_,rfl,.inl (SqL.of r1),_,_,rfl,rfl,_,rfl,t,W,rfl,hW.kept g1,S,h42,λ u H2 g2 nu pr=>?_⟩;obtain ⟨us,p1,p2,_⟩:=pr;refine ⟨u,_,rfl,.inl (SqL.of p1),_,_,rfl,rfl,rfl,?_⟩
 have e:decide (V.int (((ts.map V.ref).length:Int)+((ss.map V.ref).length:Int))=V.int (((us.map V.ref).length:Int)+2))=decide (W.length+(Fc.facesS W).length=(Fc.tiesS W).length+2):=by
  rw [jl,decide_eq_true_iff,decide_eq_true_iff,aj,aj,aj,lts,r2,p2];constructor
  ·intro z
   have:=V.int.inj z;omega
  ·intro z
   congr 1
   omega
 rw [e];exact k H2 (g1.trans g2)
def TpsAt (H:Hp) (ta:List V) (T:List (List Nat)):Prop:=∃ as:List ah,ta=as.map V.ref/\as.length=T.length/\∀ (j:Nat) (b:ah) (t:List Nat),as[j]?=some b->T[j]?=some t->H b=some (.tup (t.map vn))
theorem TpsAt.but {H H':Hp} {ta:List V} {T:List (List Nat)} (h:TpsAt H ta T) (g:∀ b xs,H b=some (.tup xs)->H' b=some (.tup xs)):TpsAt H' ta T:=by
 obtain ⟨as,h1,h2,h3⟩:=h;exact ⟨as,h1,h2,λ j b t e1 e2=>g b _ (h3 j b t e1 e2)⟩
theorem TpsAt.kept {H H':Hp} {ta:List V} {T:List (List Nat)} (h:TpsAt H ta T) (g:Same H H'):TpsAt H' ta T:=h.but λ b xs e=>g _ _ e
theorem TpsAt.over {H:Hp} {ta xs ys:List V} {T:List (List Nat)} {l:ah} (h:TpsAt H ta T) (e:H l=some (.lst xs)):TpsAt (upd H l (.lst ys)) ta T:=h.but λ b zs hb=>by
 rw [kH λ z=>by rw [z,e] at hb;cases hb];exact hb
theorem TpsAt.app {H:Hp} {ta:List V} {T:List (List Nat)} {b:ah} {t:List Nat} (h:TpsAt H ta T) (e:H b=some (.tup (t.map vn))):TpsAt H (ta++[.ref b]) (T++[t]):=by
 obtain ⟨as,h1,h2,h3⟩:=h;refine ⟨as++[b],by rw [h1,gq];rfl,by rw [eI,eI,h2];rfl,λ j c s e1 e2=>?_⟩;by_cases hj:j<as.length
 ·rw [cu hj] at e1
  rw [cu (by omega)] at e2;exact h3 j c s e1 e2
 ·rw [bz (by omega)] at e1 e2
  have:j-as.length=0:=by
   have:=(ag.mp e1).1;rw [iu] at this;omega
  rw [this] at e1;rw [<-h2,this] at e2;cases e1
  cases e2
  exact e
def aN:Sp:=λ vs H Q _=>∃ (t:ah) (W:Rows),vs=[.ref t]/\WebAt H t W/\Nb W/\Fc.Flat W/\W.length<=42/\∀ H',Same H H'->Q .non H'
theorem fE {f:ah} {fd:eO} (F:Fun K "must_be_flat" "must_be_flat" qV f fd) (xL:Own.Has P w K mg base "is_flat" ["web"] 4 (gN)):FnOk P w K mg base CX0 5 f fd ["web"] (aN):=by
 refine F.ok uB (λ vs H Q E h=>?_) (λ cdv A outer s0 H vs Q E hr h=>?_)
 ·obtain ⟨t,W,rfl,_⟩:=h
  rfl
 obtain ⟨t,W,rfl,hW,S,fl,h42,k⟩:=h;refine ⟨_,(kJ (yT (uH (yS (Own.pe_has xL (hr.mono (by decide)) rfl (kA (pv 0) kB)))) (kJ zE) qX)),?_⟩;refine ⟨_,rfl,t,W,rfl,hW,S,h42,λ H1 g1=>⟨_,rfl,?_⟩⟩;rw [decide_eq_true (show W.length+(Fc.facesS W).length=(Fc.tiesS W).length+2 from fl)];exact xB (k H1 g1)
theorem nQ {W:Rows} (S:Nb W) (h:W.length<=42):(Fc.facesS W).length<=1764:=by
 have a:=Fc.faces_sum S;have b:=jQ S h;have fl:(Fc.facesS W).length=(Fc.facesU W).length:=(Fc.sortL_perm _).length_eq;rw [fl];have ne:∀ f∈Fc.facesU W,f≠[]:=sR S vO
 have:(Fc.facesU W).length<=((Fc.facesU W).map iP).sum:=by
  generalize Fc.facesU W=F at ne;clear a fl
  induction F with
  | nil=>exact be _
  | cons f F ih =>
   rw [iW,AV,iE];have:=ih λ g hg=>ne g (eZ _ hg);have:=nj.mpr (ne f fv);omega
 omega
def kFN:Sp:=λ vs H Q _=>∃ (t:ah) (W:Rows),vs=[.ref t]/\WebAt H t W/\Nb W/\W.length<=42/\∀ (v:V) (H':Hp),Same H H'->(Fc.oddF W=none/\v=.non\/∃ f b,Fc.oddF W=some f/\v=.ref b/\H' b=some (.tup (f.map vn)))->Q v H'
theorem aP {f:ah} {fd:eO} (F:Fun K "uncornered_face" "uncornered_face" qL f fd) (zX:Own.Has P w K mg base "faces" ["web"] 3 (bA)) (z_len:mg "len" = none):FnOk P w K mg base CX0 4 f fd ["web"] (kFN):=by
 refine F.ok sc_uncornered_face (λ vs H Q E h=>?_) (λ cdv A outer s0 H vs Q E hr h=>?_)
 ·obtain ⟨t,W,rfl,_⟩:=h
  rfl
 obtain ⟨t,W,rfl,hW,S,h42,k⟩:=h
 refine ⟨_,(kD (aF (i:=1) (Nc:=["face"]) (js:=[none]) rfl rfl sc_uncornered_face.nd rfl (cz rfl) (xX (Own.pe_has zX (hr.mono (by decide)) rfl (kA (pv 0) kB))) (CS.of rfl rfl) rfl (λ C s₂ H₂ fp pins=>(kM (i:=0) (show iw (α:=Str) ["face"] by decide +kernel) rfl (cz rfl))) (λ C s₂ H₂ fp pins D L=>(bK (qI gY (kL (show xW _ _ (λ xs H Q=>∃ p ys,xs=[.ref p]/\(SqL K H p ys\/SqT K H p ys)/\Q (.int ys.length) H) from kQ) rfl z_len fe (kA (pv 0) kB)) kO (qZ _)) (zO (pv 0)))))
   (kJ (kW (kGE (kFW (pv 1) (λ _=>rfl)) (qA kY (pv 1) kO (λ _ _=>rfl)) kAF)))),?_⟩
 refine ⟨_,rfl,t,W,rfl,hW,S,h42,λ s H1 g1 ns rt=>?_⟩;obtain ⟨ss,h1,h2,h3⟩:=id rt;refine ⟨s,rfl,⟨_,SqL.of h1⟩,λ D nD=>?_⟩;have few:=nQ S h42
 refine xG (xs:=ss.map V.ref) (λ i σ H2=>∃ (x0:Option V) (bs:List V),σ=[x0]/\Same H1 H2/\H2 D=some (.lst bs)/\TpsAt H2 bs (((Fc.facesS W).take i).filter Fc.oddL))
  ⟨none,[],rfl,kI nD _,kC,[],rfl,rfl,λ j b t e=>by simp at e⟩ ?_ ?_ ?_
 ·rintro i σ H2 _ ⟨x0,bs,rfl,g2,_⟩
  exact SqL.of (g2 _ _ h1)
 ·rintro i x σ H2 hx ⟨x0,bs,rfl,g2,hD,tb⟩
  rw [bg] at hx;obtain ⟨b,eb,rfl⟩:=eQ.mp hx;have hi:i<(Fc.facesS W).length:=by rw [<-h2];exact (ag.mp eb).1
  have et:=aa hi;have hb:=h3 i b _ eb et;have tk:(Fc.facesS W).take (i+1)=(Fc.facesS W).take i++[(Fc.facesS W)[i]]:=by rw [oq,et];rfl
  rw [tk,so,ip,Bd];have fl:=vb Fc.oddL ((Fc.facesS W).take i);rw [fb] at fl;generalize (Fc.facesS W)[i]=f at *
  have lb:bs.length=(((Fc.facesS W).take i).filter Fc.oddL).length:=by
   obtain ⟨as,e1,e2,_⟩:=tb;rw [e1,aj,e2]
  refine ⟨_,rfl,b,_,rfl,.inr (SqT.of (g2 _ _ hb)),rfl,_,rfl,?_⟩;rw [aj];by_cases c:f.length=3
  ·have o:Fc.oddL f=false:=by unfold Fc.oddL;rw [c];rfl
   rw [o,if_neg (by decide),ir,c];exact xB ⟨_,bs,rfl,g2,hD,tb⟩
  ·have o:Fc.oddL f=true:=by unfold Fc.oddL;simpa using c
   rw [o,if_pos rfl];have e:decide (V.int (f.length:Int)≠V.int 3)=true:=decide_eq_true λ z=>c (by have:=V.int.inj z;omega)
   have e':(!decide (V.int (f.length:Int)=V.int 3))=true:=by
    rw [Ao,decide_eq_false_iff_not];exact λ z=>c (by have:=V.int.inj z;omega)
   first | rw [e] | rw [e']
   refine uN ⟨_,rfl,_,hD,(by exact qU (by omega)),?_⟩;exact ⟨_,bs++[.ref b],rfl,qK nD g2,kC,(tb.app (g2 _ _ hb)).over hD⟩
 ·rintro σ H2 ⟨x0,bs,rfl,g2,hD,tb⟩
  rw [aj,h2,ig] at tb;obtain ⟨as,e1,e2,e3⟩:=tb;subst e1
  cases hL:(Fc.facesS W).filter Fc.oddL with
  | nil =>
   rw [hL] at e2;have:as=[]:=qh.mp e2;subst this;refine ⟨_,rfl,false,.inl ⟨_,SqL.of hD,rfl⟩,k _ H2 (g1.trans g2) (.inl ⟨by unfold Fc.oddF;rw [hL];rfl,rfl⟩)⟩
  | cons f L =>
   rw [hL] at e2 e3
   cases as with
   | nil=>cases e2
   | cons b as =>
    refine ⟨_,rfl,true,.inl ⟨_,SqL.of hD,rfl⟩,?_⟩;refine ⟨_,rfl,D,_,_,_,rfl,rfl,SqL.of hD,xY (j:=0) rfl,k _ H2 (g1.trans g2) (.inr ⟨f,b,by unfold Fc.oddF;rw [hL];rfl,rfl,e3 0 b f rfl rfl⟩)⟩
theorem mP {l:List Nat} {i:Nat} (h:i+4<=l.length):(l.drop i).take 4=[l.getD i 0,l.getD (i+1) 0,l.getD (i+2) 0,l.getD (i+3) 0]:=by
 have g:∀ k,k<l.length->l.drop k=l.getD k 0::l.drop (k+1):=λ k hk=>by
  rw [kr hk,dh,aa hk]
  rfl
 rw [g i (by omega),g (i+1) (by omega),g (i+1+1) (by omega),g (i+1+1+1) (by omega)]
 rfl
theorem kJR (xs:List V) {b c:Nat} (hbc:b<=c) (h:c<=xs.length):uC xs (some (b:Int)) (some (c:Int))=(xs.drop b).take (c-b):=by
 unfold uC;rw [HT.sIx_nat,HT.sIx_nat,iG h,iG (show b<=xs.length by omega)]
def kFO:Sp:=λ vs H Q _=>∃ (t b:ah) (W:Rows) (f:List Nat),vs=[.ref t,.ref b]/\WebAt H t W/\Wb W/\Fc.Flat W/\W.length<=42/\H b=some (.tup (f.map vn))/\f∈Fc.facesS W/\f.length≠3 /\
 ∀ (z y y':ah) (p v q u:Nat) (H':Hp),Same H H'->p=(Fc.arnd f).getD (Fc.cutJ W f) 0->v=(Fc.arnd f).getD (Fc.cutJ W f+1) 0->q=(Fc.arnd f).getD (Fc.cutJ W f+2) 0->u=(Fc.arnd f).getD (Fc.cutJ W f+3) 0->H' z=some (.tup [.ref y,.ref y'])->H' y=some (.tup [vn p,vn v])->H' y'=some (.tup [vn q,vn u])->Q (.ref z) H'
theorem kMB {f:ah} {fd:eO} (F:Fun K "cut" "cut" mT f fd) (z_range:mg "range" = none) (z_len:mg "len" = none):FnOk P w K mg base CX0 1 f fd ["web","face"] (kFO):=by
 refine F.ok sc_cut (λ vs H Q EX h=>?_) (λ cdv A outer s0 H vs Q EX hr h=>?_)
 ·obtain ⟨t,b,W,f,rfl,_⟩:=h
  rfl
 obtain ⟨t,b,W,f,rfl,hW,G,fl,h42,hb,hf,odd,k⟩:=h
 refine ⟨_,(kD (kT (i:=2) sc_cut.nd rfl (FG rfl) (qC kIW (pv 1) (xE kBS (pv 1) zS (xK kO))))
   (kD (aF (i:=3) (Nc:=["at","around"]) (js:=[none,some 2]) rfl rfl sc_cut.nd rfl (cz rfl) (jJ rfl z_range (kA (kL kQ rfl z_len fe (kA (pv 1) kB)) kB)) (CS.of rfl rfl) rfl (λ C s₂ H₂ fp pins=>(kM (i:=0) (show iw (α:=Str) ["at","around"] by decide +kernel) rfl (cz rfl))) (λ C s₂ H₂ fp pins D L=>(xT (zO (xE (show SlR _ (kOA K) from kBS) (pv 1) (xK (pv 0)) (xK (qC jM (pv 0) kO)))))))
   (kD (aF (i:=4) (Nc:=["p","v","q","w","web"]) (js:=[none,none,none,none,some 0]) rfl rfl sc_cut.nd rfl (cz rfl) (xX (pv 3)) (CS.of rfl rfl) rfl (λ C s₂ H₂ fp pins=>(show PG _ _ (kGY K 4 _) from xQ rfl (kU (kM (i:=0) (show iw (α:=Str) ["p","v","q","w","web"] by decide +kernel) rfl (cz rfl)) (kU (kM (i:=1) (show iw (α:=Str) ["p","v","q","w","web"] by decide +kernel) rfl (cz rfl)) (kU (kM (i:=2) (show iw (α:=Str) ["p","v","q","w","web"] by decide +kernel) rfl (cz rfl)) (kU (kM (i:=3) (show iw (α:=Str) ["p","v","q","w","web"] by decide +kernel) rfl (cz rfl)) jG)))))) (λ C s₂ H₂ fp pins D L=>(bK (PW.pt (uG (qI gY (pv 0) (pv 2) (qZ _)) (vR (qI (show OpR _ _ (rIn K true) from zT) (pv 2) (qA (show IxR _ (kOE K) from jF) (pv 4) (pv 0) (λ _ _=>rfl)) rfl)))) (zO (jK (kA (pv 0) (kA (pv 1) (kA (pv 2) (kA (pv 3) kB)))))))))
   (kD (xZ (qA kY (pv 4) kO (λ _ _=>rfl)) (xQ rfl (kU (kM (i:=5) sc_cut.nd rfl (cz rfl)) (kU (kM (i:=6) sc_cut.nd rfl (cz rfl)) (kU (kM (i:=7) sc_cut.nd rfl (cz rfl)) (kU (kM (i:=8) sc_cut.nd rfl (cz rfl)) jG))))))
   (kJ (kW (jK (kA (jK (kA (pv 5) (kA (pv 6) kB))) (kA (jK (kA (pv 7) (kA (pv 8) kB))) kB))))))))),?_⟩
 have S:=G.toNb;obtain ⟨p4,cj,fj,eA,eB,itq⟩:=Fc.cut_at_j G fl hf odd;obtain ⟨r0,hr0,ef⟩:=Fc.face_of S hf
 have flen:f.length<=1764:=by
  rw [ef,aj];have:=eX (Fc.rnd_nodup S hr0) (l₂:=kK W) λ x hx=>Fc.rnd_sub S hr0 hx;have:=jQ S h42;omega
 have frng:∀ x∈f,x<W.length:=λ x hx=>by
  rw [ef] at hx;obtain ⟨s,hs,rfl⟩:=gi.mp hx;have:=Fc.rnd_sub S hr0 hs;exact (S.e (mem_steps.mp (show (s.1,s.2)∈kK W from this))).1
 have la:(Fc.arnd f).length=f.length+3:=by
  unfold Fc.arnd;rw [eI,fb];omega
 have arng:∀ i,i<f.length+3->(Fc.arnd f).getD i 0<W.length:=λ i hi=>by
  rw [dh,aa (by rw [la];exact hi)];have:=fg (l:=Fc.arnd f) (n:=i) (by rw [la];exact hi);rcases eY.mp this with q | q
  ·exact frng _ q
  ·exact frng _ (rj q)
 obtain ⟨ts,hw1,lts,hw3⟩:=hW.at;refine ⟨_,rfl,_,rfl,_,rfl,b,_,rfl,hb,λ p1 H1 g1 hp1=>?_⟩;rw [show (3:Int)=((3:Nat):Int) from rfl,dR _ (by rw [aj];omega),<-Ae] at hp1;refine ⟨b,p1,_,_,rfl,rfl,g1 _ _ hb,hp1,(by rw [aj,aj,fb];exact qq (qU (by omega))),λ ar H2 g2 har=>?_⟩;rw [<-gq] at har;have har:H2 ar=some (.tup ((Fc.arnd f).map vn)):=har
 have g02:Same H H2:=Same.trans g1 g2
 refine ⟨_,rfl,b,_,rfl,.inr (SqT.of (g02 _ _ hb)),_,rfl,(by rw [aj];omega),(by rw [aj];omega),λ D nD=>?_⟩
 refine gA (lo:=0) (n:=(((f.map vn).length:Nat):Int).toNat) (λ j σ H3=>∃ (x0:Option V) (cs:List V),σ=[x0,some (.ref ar)]/\Same H2 H3/\H3 D=some (.lst cs)/\TpsAt H3 cs ((fc j).map λ i=>((Fc.arnd f).drop i).take 4))
  ⟨none,[],rfl,kI nD _,kC,[],rfl,rfl,λ j b t e=>by simp at e⟩ ?_ ?_
 ·rintro j σ H3 hj ⟨x0,cs,rfl,g3,hD,tc⟩
  rw [aj] at hj;have hj:j<f.length:=by omega
  have lc:cs.length=j:=by
   obtain ⟨as,e1,e2,_⟩:=tc;rw [e1,aj,e2,aj,iN]
  refine ⟨_,rfl,_,rfl,_,rfl,_,rfl,_,_,rfl,rfl,_,rfl,ar,_,rfl,g3 _ _ har,λ p H4 g4 hp=>?_⟩;rw [show (0+(j:Int))=((j:Nat):Int) by omega,show ((j:Nat):Int)+4=((j+4:Nat):Int) by omega,kJR _ (by omega) (by rw [aj,la];omega),show j+4-j=4 by omega,<-BG,<-Ae] at hp;refine ⟨_,g4 _ _ hD,(by rw [lc];exact qU (by omega)),?_⟩;refine ⟨_,cs++[.ref p],rfl,qK nD (Same.trans g3 g4),kC,?_⟩;rw [yw,gq];exact ((tc.kept g4).app hp).over (g4 _ _ hD)
 rintro σ H3 ⟨x0,cs,rfl,g3,hD,tc⟩;rw [aj,qw] at tc;obtain ⟨ca,ec,lca,hca⟩:=tc;rw [aj,iN] at lca;subst ec
 have g03:=g02.trans g3
 refine ⟨_,rfl,D,rfl,⟨_,SqL.of hD⟩,λ D2 nD2=>?_⟩
 refine xG (xs:=ca.map V.ref) (λ i σ H4=>∃ (x0 x1 x2 x3:Option V) (fs:List V),σ=[x0,x1,x2,x3,some (.ref t)]/\Same H3 H4/\H4 D2=some (.lst fs)/\TpsAt H4 fs (((fc i).filter (Fc.freeJ W f)).map λ j=>((Fc.arnd f).drop j).take 4))
  ⟨none,none,none,none,[],rfl,kI nD2 _,kC,[],rfl,rfl,λ j b t e=>by simp at e⟩ ?_ ?_ ?_
 ·rintro i σ H4 _ ⟨x0,x1,x2,x3,fs,rfl,g4,_⟩
  exact SqL.of (g4 _ _ hD)
 ·rintro i x σ H4 hx ⟨x0,x1,x2,x3,fs,rfl,g4,hD2,tf⟩
  rw [bg] at hx;obtain ⟨c,ec,rfl⟩:=eQ.mp hx;have hi:i<f.length:=by rw [<-lca];exact (ag.mp ec).1
  have hc:=hca i c (((Fc.arnd f).drop i).take 4) ec (by rw [bg,tz hi];rfl);have t4:=mP (l:=Fc.arnd f) (i:=i) (by rw [la];omega);rw [t4] at hc
  have lfs:fs.length<=i:=by
   obtain ⟨as,e1,e2,_⟩:=tf;rw [e1,aj,e2,aj];have:=vb (Fc.freeJ W f) (fc i);rwa [iN] at this
  have g34:=g03.trans g4;refine ⟨c,_,rfl,SqT.of (g4 _ _ hc),rfl,_,_,rfl,_,_,rfl,_,_,rfl,_,_,rfl,rfl,?_⟩;rw [yw,so,ip,Bd,gq];have efr:Fc.freeJ W f i=decide ((Fc.arnd f).getD i 0≠(Fc.arnd f).getD (i+2) 0/\(Fc.arnd f).getD (i+2) 0∉W.getD ((Fc.arnd f).getD i 0) []):=rfl;have plt:=arng i (by omega);generalize (Fc.arnd f).getD i 0=p at *;generalize hv1:(Fc.arnd f).getD (i+1) 0=v at *;generalize (Fc.arnd f).getD (i+2) 0=q at *;generalize hu1:(Fc.arnd f).getD (i+3) 0=u at *;refine ⟨_,rfl,_,rfl,rfl,_,rfl,?_⟩;by_cases c1:p=q
  ·rw [efr,decide_eq_false (λ z=>z.1 c1),if_neg (by decide),BN,ir,c1]
   first | rw [show (!decide (vn q=vn q))=false by simp] | rw [show decide (vn q≠vn q)=false by simp]
   exact xB (xB ⟨_,_,_,_,fs,rfl,g4,hD2,tf⟩)
  have nd:decide (vn p=vn q)=false:=decide_eq_false λ z=>c1 (by have:=V.int.inj z;omega)
  first | rw [nd] | rw [show decide (vn p≠vn q)=true from decide_eq_true (of_decide_eq_false nd)]
  refine uN ?_;have er:=aa plt;obtain ⟨b',e1,e2⟩:=hw3 _ _ er;have gd:W.getD p []=W[p]:=by rw [dh,er];rfl
  rw [gd] at efr;generalize W[p]=row at *;refine ⟨_,rfl,_,rfl,_,rfl,t,_,_,_,rfl,rfl,SqT.of (g34 _ _ hw1),e1,b',_,rfl,.inr (SqT.of (g34 _ _ e2)),rfl,uW _,_,rfl,?_⟩;rw [if_pos rfl,bZ];by_cases c2:q∈row
  ·rw [decide_eq_true c2,efr,decide_eq_false (λ z=>z.2 c2),if_neg (by decide),BN,ir]
   exact xB ⟨_,_,_,_,fs,rfl,g4,hD2,tf⟩
  ·rw [decide_eq_false c2,efr,decide_eq_true ⟨c1,c2⟩,if_pos rfl]
   refine uN ⟨_,rfl,_,rfl,_,rfl,_,rfl,yS4,λ T nT=>?_⟩;have gT:=kI nT (.tup [vn p,vn v,vn q,vn u]);refine ⟨_,gT _ _ hD2,qU (by omega),?_⟩;refine ⟨_,_,_,_,fs++[.ref T],rfl,qK nD2 (g4.trans gT),kC,?_⟩;refine ((tf.kept gT).app (t:=((Fc.arnd f).drop i).take 4) ?_).over (gT _ _ hD2);rw [t4];exact kC
 rintro σ H4 ⟨x0,x1,x2,x3,fs,rfl,g4,hD2,tf⟩;rw [aj,lca] at tf;obtain ⟨fa,ea,lfa,hfa⟩:=tf;subst ea;have ecut:Fc.cutJ W f=((fc f.length).filter (Fc.freeJ W f)).headD 0:=rfl;have mc:Fc.cutJ W f∈(fc f.length).filter (Fc.freeJ W f):=iC.mpr ⟨iM.mpr cj,fj⟩;generalize (fc f.length).filter (Fc.freeJ W f)=L at *
 cases L with
 | nil=>cases mc
 | cons x L =>
  have ex:Fc.cutJ W f=x:=ecut
  cases fa with
  | nil=>cases lfa
  | cons c0 fa =>
   have h0:H4 c0=some (.tup ((((Fc.arnd f).drop x).take 4).map vn)):=hfa 0 c0 _ rfl rfl;rw [<-ex,mP (by rw [la];omega)] at h0;refine ⟨_,rfl,D2,_,_,_,rfl,rfl,SqL.of hD2,xY (j:=0) rfl,c0,_,rfl,SqT.of h0,rfl,_,_,rfl,_,_,rfl,_,_,rfl,_,_,rfl,rfl,?_⟩;have g04:=g03.trans g4;refine ⟨_,rfl,_,rfl,yS2,λ y n1=>⟨_,rfl,_,rfl,yS2,λ y' n2=>⟨yS2,λ z n3=>?_⟩⟩⟩;have k1:=kI n1 (.tup [vn ((Fc.arnd f).getD (Fc.cutJ W f) 0),vn ((Fc.arnd f).getD (Fc.cutJ W f+1) 0)]);have k2:=kI n2 (.tup [vn ((Fc.arnd f).getD (Fc.cutJ W f+2) 0),vn ((Fc.arnd f).getD (Fc.cutJ W f+3) 0)]);have k3:=kI n3 (.tup [.ref y,.ref y']);exact k z y y' _ _ _ _ _ (g04.trans (k1.trans (k2.trans k3))) rfl rfl rfl rfl kC (k3 _ _ (k2 _ _ kC)) (k3 _ _ kC)
def kIH (H:Hp):V->Nat
 | .ref b=>match H b with
  | some (.tup xs)=>xs.length
  | _=>0
 | _=>0
def kEZ (H:Hp) (a:ah):Nat:=match H a with
 | some (.tup xs)=>(xs.map (kIH H)).sum
 | _=>0
theorem kBM {H:Hp} {a:ah} {W:Rows} (h:WebAt H a W):kEZ H a=(W.map iP).sum:=by
 obtain ⟨ts,h1,h2,h3⟩:=h;unfold kEZ;rw [h1];show ((ts.map V.ref).map (kIH H)).sum=_
 congr 1
 refine Aq λ i=>?_;rw [bg,bg,bg];rcases iU i W.length with c | c
 ·have e1:=aa (show i<ts.length by omega)
  have e2:=aa c;have:=h3 i _ _ e1 e2;rw [e1,e2];show some (kIH H (.ref ts[i]))=some W[i].length;simp only [kIH,this,aj]
 ·rw [lh (show ts.length<=i by omega),lh c]
  rfl
def kPW (K0:Nat) (σ:St) (H:Hp):Nat:=match σ with
 | [_,some (.ref f),_,_,_,_]=>K0-kEZ H f
 | _=>0
noncomputable def kQB (W X:Rows):List (Nat×Nat):=(Fc.tiesS X).filter λ t=>decide (t∉Fc.tiesS W)
def cT:Sp:=λ vs H Q _=>∃ (t:ah) (W:Rows),vs=[.ref t]/\WebAt H t W/\Wb W/\Fc.Flat W/\(∀ (p:Nat) (row:List Nat),W[p]?=some row->Can row)/\W.length<=40 /\
 ∀ (z x l:ah) (X:Rows) (T:List (Nat×Nat)) (H':Hp),Same H H'->H' z=some (.tup [.ref x,.ref l])->WebAt H' x X->PairsAt H' l (kQB W X)->H l=none->Wb X->Fc.Flat X->Plus W X T->Fc.oddF X=none->Fc.Fd W X->Q (.ref z) H'
theorem mY {f:ah} {fd:eO} (F:Fun K "filled" "filled" wH f fd) (yV:Own.Has P w K mg base "must_be_flat" ["web"] 5 (aN)) (jE:Own.Has P w K mg base "uncornered_face" ["web"] 4 (kFN)) (kCJ:Own.Has P w K mg base "cut" ["web","face"] 1 (kFO)) (cA:Own.Has P w K mg base "put_in" ["web","step","other"] 4 (kFL)) (uO:Own.Has P w K mg base "ties" ["web"] 2 (oG)):FnOk P w K mg base CX0 6 f fd ["web"] (cT):=by
 refine F.ok sc_filled (λ vs H Q E h=>?_) (λ cdv A outer s0 H vs Q E hr h=>?_)
 ·obtain ⟨t,W,rfl,_⟩:=h
  rfl
 obtain ⟨t,W,rfl,hW,G,fl,can,h40,k⟩:=h
 refine ⟨_,(kD (qB (Own.pe_has yV (hr.mono (by decide)) rfl (kA (pv 0) kB)))
   (kD (kT (i:=1) sc_filled.nd rfl (cz rfl) (pv 0))
   (kD (kT (i:=2) sc_filled.nd rfl (cz rfl) (Own.pe_has jE (hr.mono (by decide)) rfl (kA (pv 1) kB)))
   (kD (bL gj (qI kIU (pv 2) kAF (qZ _)) (kD (xZ (Own.pe_has kCJ (hr.mono (by decide)) rfl (kA (pv 1) (kA (pv 2) kB))) (xQ rfl (kU (kM (i:=3) sc_filled.nd rfl (cz rfl)) (kU (kM (i:=4) sc_filled.nd rfl (cz rfl)) jG))))
   (kD (kT (i:=1) sc_filled.nd rfl (cz rfl) (Own.pe_has cA (hr.mono (by decide)) rfl (kA (pv 1) (kA (pv 3) (kA (pv 4) kB)))))
   (kJ (kT (i:=2) sc_filled.nd rfl (cz rfl) (Own.pe_has jE (hr.mono (by decide)) rfl (kA (pv 1) kB)))))))
   (kD (kT (i:=5) sc_filled.nd rfl (FG rfl) (kBX (Nc:=["tie"]) (js:=[none]) rfl rfl (xX (Own.pe_has uO (hr.mono (by decide)) rfl (kA (pv 0) kB))) (CS.of rfl rfl) rfl (λ C s₂ H₂ fp pins=>(kM (i:=0) (show iw (α:=Str) ["tie"] by decide +kernel) rfl (cz rfl))) (λ C s₂ H₂ fp pins D L=>(xT (kBY (lN hr) (pv 0) uJ)))))
   (kJ (kW (jK (kA (pv 1) (kA (bM (Nc:=["tie","before"]) (js:=[none,some 5]) rfl rfl (xX (Own.pe_has uO (hr.mono (by decide)) rfl (kA (pv 1) kB))) (CS.of rfl rfl) rfl (λ C s₂ H₂ fp pins=>(kM (i:=0) (show iw (α:=Str) ["tie","before"] by decide +kernel) rfl (cz rfl))) (λ C s₂ H₂ fp pins D L=>(bK (kAB (dA (lN hr) (pv 0) (pv 1))) (zO (pv 0))))) kB)))))))))),?_⟩
 have S:=G.toNb;refine ⟨_,rfl,t,W,rfl,hW,S,fl,by omega,λ H1 g1=>?_⟩;refine ⟨_,rfl,?_⟩;refine ⟨_,rfl,t,W,rfl,hW.kept g1,S,by omega,λ v0 H2 g2 hv0=>?_⟩
 refine aW (λ σ H3=>∃ (fa:ah) (v x3 x4:Option V) (W1:Rows) (T:List (Nat×Nat)),σ=[some (.ref t),some (.ref fa),v,x3,x4,none]/\Same H H3/\WebAt H3 fa W1/\Wb W1/\Fc.Flat W1/\Plus W W1 T/\(Fc.oddF W1=none/\v=some .non\/∃ f b,Fc.oddF W1=some f/\v=some (.ref b)/\H3 b=some (.tup (f.map vn)))/\∀ X,Fc.Fd W1 X->Fc.Fd W X) (kPW 2000)
  ⟨t,some v0,none,none,W,[],rfl,g1.trans g2,(hW.kept g1).kept g2,G,fl,.start G can,(by
   rcases hv0 with ⟨e,rfl⟩ | ⟨f,b,e,rfl,hb⟩
   ·exact .inl ⟨e,rfl⟩
   ·exact .inr ⟨f,b,e,rfl,hb⟩),λ X h=>h⟩ ?_ ?_
 ·rintro σ H3 ⟨fa,v,x3,x4,W1,T,rfl,g3,hF,G1,fl1,PL,hv,hist⟩
  have l1:W1.length=W.length:=PL.len;have few:=jQ G1.toNb (by omega);rcases hv with ⟨eo,rfl⟩ | ⟨f,b,eo,rfl,hb⟩
  ·refine ⟨_,rfl,rfl,_,rfl,?_⟩
   rw [show (!decide (V.non=V.non))=false by simp];refine xB ?_;have tl:=Fc.ties_len S;have tl1:=Fc.ties_len G1.toNb
   have few0:=jQ S (by omega)
   refine ⟨_,rfl,t,W,rfl,hW.kept g3,S,by omega,λ s H4 g4 ns pr=>?_⟩;obtain ⟨ss,q1,q2,q3⟩:=id pr;refine ⟨s,rfl,⟨_,SqL.of q1⟩,λ D nD=>?_⟩;refine xG (xs:=ss.map V.ref) (λ j σ H5=>∃ (x0:Option V),σ=[x0]/\Same H4 H5/\SeenAt H5 D ((Fc.tiesS W).take j)) ⟨none,rfl,kI nD _,bF⟩ ?_ ?_ ?_
   ·rintro j σ H5 _ ⟨x0,rfl,g5,_⟩
    exact SqL.of (g5 _ _ q1)
   ·rintro j v σ H5 hv ⟨x0,rfl,g5,sD⟩
    rw [bg] at hv;obtain ⟨c',ec,rfl⟩:=eQ.mp hv;have hj:j<(Fc.tiesS W).length:=by rw [<-q2];exact (ag.mp ec).1
    have ej:=aa hj;have hc:=g5 _ _ (q3 j c' _ ec ej);have tkj:(Fc.tiesS W).take (j+1)=(Fc.tiesS W).take j++[(Fc.tiesS W)[j]]:=by rw [oq,ej];rfl
    rw [tkj];generalize (Fc.tiesS W)[j]=y at *;obtain ⟨dv,d1,d2,d3,d4⟩:=sD;have ld:dv.length<=1764:=by rw [fb] at d3;omega
    refine ⟨_,rfl,_,DPut.t (k:=pk y) d1 hc (qU (by omega)),?_⟩;obtain ⟨a1,a2,a3⟩:=cW (t:=y) (v:=.bl true) d2 d3 d4;exact ⟨_,rfl,qK nD g5,⟨_,kC,a1,a2,a3⟩⟩
   rintro σ H5 ⟨x0,rfl,g5,sD⟩;rw [aj,q2,ig] at sD;have g35:=g4.trans g5
   have g05:=g3.trans g35
   refine ⟨_,rfl,_,rfl,fa,W1,rfl,hF.kept g35,G1.toNb,by omega,λ s2 H6 g6 ns2 pr2=>?_⟩;obtain ⟨ss2,r1,r2,r3⟩:=id pr2;refine ⟨s2,rfl,⟨_,SqL.of r1⟩,λ D2 nD2=>?_⟩;have sD6:=sD.kept g6;refine xG (xs:=ss2.map V.ref) (λ j σ H7=>∃ (x0:Option V),σ=[x0,some (.ref D)]/\Same H6 H7/\PairsAt H7 D2 (((Fc.tiesS W1).take j).filter λ t=>decide (t∉Fc.tiesS W))) ⟨none,rfl,kI nD2 _,[],kC,rfl,λ i b t e=>by simp at e⟩ ?_ ?_ ?_
   ·rintro j σ H7 _ ⟨x0,rfl,g7,_⟩
    exact SqL.of (g7 _ _ r1)
   ·rintro j v σ H7 hv ⟨x0,rfl,g7,pD⟩
    rw [bg] at hv;obtain ⟨c',ec,rfl⟩:=eQ.mp hv;have hj:j<(Fc.tiesS W1).length:=by rw [<-r2];exact (ag.mp ec).1
    have ej:=aa hj;have hc:=g7 _ _ (r3 j c' _ ec ej);have tkj:(Fc.tiesS W1).take (j+1)=(Fc.tiesS W1).take j++[(Fc.tiesS W1)[j]]:=by rw [oq,ej];rfl
    rw [tkj,so,ip,Bd];have lfl:=vb (λ t=>decide (t∉Fc.tiesS W)) ((Fc.tiesS W1).take j);rw [fb] at lfl;generalize (Fc.tiesS W1)[j]=y at *;obtain ⟨kvs,k1,k2,k3,k4⟩:=sD6.kept g7;refine ⟨_,rfl,_,rfl,D,_,rfl,DGet.t (k:=pk y) k1 hc,_,rfl,?_⟩;rw [k2 y];by_cases c:y∈Fc.tiesS W
    ·rw [decide_eq_true c,decide_eq_false (not_not_intro c),if_neg (by decide),ir]
     exact xB ⟨_,rfl,g7,pD⟩
    ·rw [decide_eq_false c,decide_eq_true c,if_pos rfl]
     obtain ⟨ds,p1,p2,p3⟩:=pD;refine uN ⟨_,rfl,_,p1,(by rw [aj,p2];exact qU (by omega)),?_⟩;exact ⟨_,rfl,qK nD2 g7,PairsAt.app (H':=H7) p1 p2 p3 hc⟩
   ·rintro σ H7 ⟨x0,rfl,g7,pD⟩
    rw [aj,r2,ig] at pD;refine ⟨yS2,λ z nz=>?_⟩;have g8:=kI nz (.tup [.ref fa,.ref D2]);have gall:=g05.trans (g6.trans (g7.trans g8));refine k z fa D2 W1 T _ gall kC (hF.kept (g35.trans (g6.trans (g7.trans g8)))) (pD.kept g8) ?_ G1 fl1 PL eo (hist _ (.done eo));exact (g05.trans g6).free nD2
  ·refine ⟨_,rfl,rfl,_,rfl,?_⟩
   rw [show (!decide (V.ref b=V.non))=true by simp];refine uN ?_;obtain ⟨of1,of2⟩:=Fc.odd_some eo;refine ⟨_,rfl,_,rfl,fa,b,W1,f,rfl,hF,G1,fl1,by omega,hb,of1,of2,λ z y y' p v q u H4 g4 ep ev eq eu hz hy hy'=>?_⟩;obtain ⟨rp,rq,hp,hq,mv,mu,n1,n2,itq,all⟩:=Fc.fill_turn G1 fl1 PL eo ep ev eq eu;refine ⟨z,_,rfl,SqT.of hz,rfl,_,_,rfl,_,_,rfl,rfl,?_⟩;refine ⟨_,rfl,_,rfl,_,rfl,fa,y,y',W1,p,v,q,u,rp,rq,rfl,hF.kept g4,G1.toNb,by omega,hy,hy',hp,hq,mv,mu,n1,n2,⟨2,itq⟩,λ a b' t' H5 ra ca rb cb g5 hF5=>?_⟩;obtain ⟨G2,fl2,P2,nx,st⟩:=all a b' ra ca rb cb;have l2:(zQ W1 p q a b').length=W1.length:=xD ..;refine ⟨_,rfl,t',_,rfl,hF5,G2.toNb,by omega,λ v' H6 g6 hv'=>?_⟩;have few2:=jQ G2.toNb (show (zQ W1 p q a b').length<=42 by omega);refine ⟨⟨t',some v',_,_,_,_,rfl,g3.trans (g4.trans (g5.trans g6)),hF5.kept g6,G2,fl2,P2,?_,λ X h=>hist X (.step nx h)⟩,?_⟩
   ·rcases hv' with ⟨e,rfl⟩ | ⟨f',b2,e,rfl,hb2⟩
    ·exact .inl ⟨e,rfl⟩
    ·exact .inr ⟨f',b2,e,rfl,hb2⟩
   ·show 2000-kEZ H6 t'<2000-kEZ H3 fa
    rw [kBM (hF5.kept g6),kBM hF,<-qQ,<-qQ,st];omega
 ·rintro σ H1 Q1 Q2 m ⟨v,e1,e2,kk,e6,q1⟩
  exact ⟨v,e1,e2,kk,e6,m _ _ q1⟩
def cU:Sp:=λ vs H Q _=>∃ (a:ah),vs=[.ref a]/\PotAt H a /\
 ∀ (t:ah) (W:Rows) (H':Hp),SameBut a H H'->PotAt H' a->WebAt H' t W->Wb W->(∀ (p:Nat) (row:List Nat),W[p]?=some row->Can row)->W.length<=26->Q (.ref t) H'
theorem pL {f:ah} {fd:eO} (F:Fun K "_law_drawn" "_law_drawn" yJ f fd) (kP:Own.Has P w K mg base "_law_digit" ["_law_pot_here","_law_many"] 1 (wO)) (dM:Own.Has P w K mg base "_law_any" ["_law_pot_here","_law_n"] 3 (kFP)) (wK:Own.Has P w K mg base "_law_cornered" ["_law_pot_here","_law_n"] 3 (aO)) (wZ:Own.Has P w K mg base "_law_thinned" ["_law_pot_here","_law_rows","_law_many"] 3 (cS)) (dJ:Own.Has P w K mg base "_law_web" ["_law_rows","_law_names_here"] 2 (kBO)) (uQ:Own.Has P w K mg base "_law_names" ["_law_pot_here","_law_n"] 2 (fM)) (z_int:mg "int" = none) (z_range:mg "range" = none) (z_len:mg "len" = none):FnOk P w K mg base CX0 4 f fd ["_law_pot_here"] (cU):=by
 refine F.ok sc_law_drawn (λ vs H Q E h=>?_) (λ cdv A outer s0 H vs Q E hr h=>?_)
 ·obtain ⟨a,rfl,_⟩:=h
  rfl
 obtain ⟨a,rfl,pa,k⟩:=h
 refine ⟨_,(kD (kT (i:=1) sc_law_drawn.nd rfl (cz rfl) (qC jM kO (Own.pe_has kP (hr.mono (by decide)) rfl (kA (pv 0) (kA (qC jM kO (qC Own.op_mulW kO (jV kEU rfl z_int FM (kA (bN mX (Own.pe_has kP (hr.mono (by decide)) rfl (kA (pv 0) (kA kO kB))) kO (qZ _)) kB)))) kB)))))
   (kD (yT (qI mX (Own.pe_has kP (hr.mono (by decide)) rfl (kA (pv 0) (kA kO kB))) kO (qZ _)) (kJ (kT (i:=2) sc_law_drawn.nd rfl (cz rfl) (Own.pe_has dM (hr.mono (by decide)) rfl (kA (pv 0) (kA (pv 1) kB))))) (kD (kT (i:=2) sc_law_drawn.nd rfl (cz rfl) (Own.pe_has wK (hr.mono (by decide)) rfl (kA (pv 0) (kA (pv 1) kB))))
   (kD (kT (i:=2) sc_law_drawn.nd rfl (cz rfl) (Own.pe_has wZ (hr.mono (by decide)) rfl (kA (pv 0) (kA (pv 2) (kA (Own.pe_has kP (hr.mono (by decide)) rfl (kA (pv 0) (kA (qC Own.op_mulW kO (pv 1)) kB))) kB)))))
   (kJ (xP gj rfl (jJ rfl z_range (kA (Own.pe_has kP (hr.mono (by decide)) rfl (kA (pv 0) (kA kO kB))) kB)) (kM (i:=3) sc_law_drawn.nd rfl (cz rfl)) (kD (kT (i:=4) sc_law_drawn.nd rfl (cz rfl) (qA kY (pv 2) (Own.pe_has kP (hr.mono (by decide)) rfl (kA (pv 0) (kA (pv 1) kB))) (λ _ _=>rfl)))
   (kJ (qB (jA dc mf mh vH (pv 4) (kA (Own.pe_has kP (hr.mono (by decide)) rfl (kA (pv 0) (kA (kL kQ rfl z_len fe (kA (pv 4) kB)) kB))) (kA (jA dc PySem.F.slot_list_pop PySem.F.type_list_pop kGN (pv 4) (kA (Own.pe_has kP (hr.mono (by decide)) rfl (kA (pv 0) (kA (kL kQ rfl z_len fe (kA (pv 4) kB)) kB))) kB)) kB)))))))))))
   (kJ (kW (Own.pe_has dJ (hr.mono (by decide)) rfl (kA (pv 2) (kA (Own.pe_has uQ (hr.mono (by decide)) rfl (kA (pv 0) (kA (pv 1) kB))) kB))))))),?_⟩
 refine ⟨_,rfl,_,rfl,a,8,rfl,pa,by decide,xU (by decide),λ d H1 d0 d1 s1 p1=>⟨rfl,.inr ⟨_,rfl,?_⟩⟩⟩;generalize hm:(if decide (V.int d=V.int 0)=true then (1:Int) else 0)=m;have m01:m=0\/m=1:=by rw [<-hm];split<;>simp
 refine ⟨_,_,rfl,rfl,⟨xU (by decide),xU (by rcases m01 with rfl | rfl<;>decide)⟩,_,_,rfl,rfl,a,_,rfl,p1,(by rcases m01 with rfl | rfl<;>decide),xU (by rcases m01 with rfl | rfl<;>decide),λ d2 H2 d20 d21 s2 p2=>⟨_,_,rfl,rfl,?_⟩⟩;obtain ⟨n',rfl⟩:=iD d20;have n24:n'<24:=by rcases m01 with rfl | rfl<;>omega
 have s02:=s1.trans s2;refine ⟨_,rfl,a,2,rfl,p2,by decide,xU (by decide),λ d3 H3 d30 d31 s3 p3=>⟨rfl,_,rfl,?_⟩⟩
 have s03:=s02.trans s3
 have web:∀ (r:ah) (A:List ah) (L:Rows) (H5:Hp),SameBut a H H5->PotAt H5 a->RowsAt H5 r A L->Wb L->L.length=3+n'->a≠r->a∉A ->
   ∀ x3 x4:Option V,kNO (mR kBO [] E0 (gE (tO 2) (gE (mR fM [] E0 (gE (tO 0) (gE (tO 1) tP))) tP))) { nx:=λ _ H'=>Q .non H',rt:=Q } [some (.ref a),some (.int (3+(n':Int))),some (.ref r),x3,x4] H5:=by
  intro r A1 L H5 s5 p5 X G hl nar naA x3 x4;refine ⟨_,rfl,_,rfl,_,rfl,a,3+n',rfl,p5,by omega,λ l ns H6 s6 p6 nl la hln perm=>?_⟩;have X6:=X.but nar naA s6;have perm':ns.Perm (fc L.length):=by rw [hl];exact perm
  refine ⟨r,l,A1,L,ns,rfl,X6,hln,perm',Wb.few G (by omega),(λ p row e x hx=>(G.rng p row x e hx).1),λ t W H7 g7 hW lW nm=>?_⟩;exact k t W H7 (s5.trans (s6.trans (.of g7))) (p6.kept g7) hW (kLM G (kDU perm' lW nm)) (kDV perm' lW nm) (by omega)
 refine pV (λ c=>?_) (λ c=>?_)
 ·refine ⟨_,rfl,_,rfl,a,3+n',rfl,p3,by omega,by omega,λ r A1 L H4 s4 p4 X G hl nar naA=>?_⟩
  exact web r A1 L H4 (s03.trans s4) p4 X G hl nar naA _ _
 ·refine ⟨_,rfl,_,rfl,a,3+n',rfl,p3,by omega,by omega,λ r A1 L H4 s4 p4 X G hl nw=>?_⟩
  refine ⟨_,rfl,_,rfl,_,rfl,_,rfl,_,_,rfl,rfl,⟨xU (by decide),xU (eP (m:=40) (by show (3+(n':Int)).natAbs<=40;omega) (by decide))⟩,a,_,rfl,p4,(by show (0:Int)<3*(3+(n':Int));omega),xU (eP (m:=120) (by show (3*(3+(n':Int))).natAbs<=120;omega) (by decide)),λ d5 H5 d50 d51 s5 p5=>?_⟩;obtain ⟨m',rfl⟩:=iD d50;have d51':(m':Int)<3*(3+(n':Int)):=d51;have s05:=s03.trans (s4.trans s5)
  have oldH:∀ x,H x≠none->H5 x≠none:=λ x hx=>by
   by_cases xa:x=a
   ·obtain ⟨_,_,hh,_⟩:=p5
    rw [xa,hh];simp
   ·obtain ⟨o,e⟩:=wc.mp hx
    rw [s05 x o xa e];simp
  have oldA:∀ x∈A1,¬ (H x≠none):=λ x hx hn=>by
   obtain ⟨o,e⟩:=wc.mp hn;have:=s03 x o (λ z=>nw.pot.2 (z ▸ hx)) e;rw [nw.all x hx] at this;cases this
  refine ⟨a,r,A1,L,m',λ x=>H x≠none,rfl,p5,X.but nw.pot.1 nw.pot.2 s5,Wb.of G,by omega,nw.pot.1,nw.pot.2,by omega,oldH,oldA,λ r' A' L' H6 s6 p6 X6 G6 l6 n1 n2 n3=>?_⟩;have s06:=s03.trans (s4.trans (s5.trans s6));have l6':L'.length=3+n':=by omega
  refine ⟨_,rfl,a,4,rfl,p6,by decide,xU (by decide),λ d7 H7 d70 d71 s7 p7=>?_⟩
  refine ⟨d7,rfl,by omega,by omega,jX (lo:=0) (n:=d7.toNat) (λ i σ H8=>∃ (x3 x4:Option V) (L8:Rows),σ=[some (.ref a),some (.int (3+(n':Int))),some (.ref r'),x3,x4]/\SameBut a H H8/\PotAt H8 a/\RowsAt H8 r' A' L8/\Wb L8/\L8.length=3+n')
   ⟨_,_,L',rfl,s06.trans s7,p7,X6.but n1 n2 s7,G6,l6'⟩ ?_ ?_⟩
  ·rintro i σ H8 hi ⟨x3,x4,L8,rfl,s8,p8,X8,G8,l8⟩
   refine ⟨_,rfl,_,rfl,_,rfl,a,_,rfl,p8,(by omega),xU (eP (m:=40) (by show (3+(n':Int)).natAbs<=40;omega) (by decide)),λ d9 H9 d90 d91 s9 p9=>?_⟩;obtain ⟨q,rfl⟩:=iD d90;have X9:=X8.but n1 n2 s9;have hq:q<L8.length:=by omega
   have eq':=aa hq;have lr:=G8.toNb.len eq';have ne:=G8.ne eq';have pos:0<L8[q].length:=nj.mpr ne;generalize L8[q]=row at *;obtain ⟨b,e1,e2,e3⟩:=X9.at eq';have nb:b≠a:=λ z=>n2 (z ▸ dw e1);refine ⟨r',_,_,_,rfl,rfl,SqL.of X9.top,e3,?_⟩;refine ⟨_,rfl,.inl ⟨rfl,_,SqL.of e2⟩,_,rfl,_,rfl,b,_,rfl,.inl (SqL.of e2),a,_,rfl,p9,(by rw [aj];omega),xU (by rw [aj];exact eP (m:=50) (by omega) (by decide)),λ d1 H10 d10 d11 s10 p10=>?_⟩;rw [aj] at d11;have X10:=X9.but n1 n2 s10;have e2':=s10 _ _ nb e2;refine ⟨_,rfl,.inl ⟨rfl,_,SqL.of e2'⟩,_,rfl,_,rfl,b,_,rfl,.inl (SqL.of e2'),a,_,rfl,p10,(by rw [aj];omega),xU (by rw [aj];exact eP (m:=50) (by omega) (by decide)),λ d2 H11 d20' d21' s11 p11=>?_⟩;rw [aj] at d21';obtain ⟨j,rfl⟩:=iD d20';have hj:j<row.length:=by omega
   have X11:=X10.but n1 n2 s11;have e2'':=s11 _ _ nb e2'
   have na:H b=none:=by
    cases e:H b with
    | none=>rfl
    | some o=>exact absurd (λ z=>by rw [e] at z;cases z) (n3 b (dw e1))
   refine ⟨b,_,_,j,_,rfl,rfl,e2'',(by omega),(by omega),DZ (by omega) (by rw [aj];omega),(by rw [bg,aa hj];rfl),?_⟩;refine ⟨b,_,_,_,rfl,rfl,kC,d10,(by omega),?_,?_⟩
   ·rw [zj,aj]
    exact qJ (by split<;>omega)
   rw [kHW,<-zV vn,tH];have X12:=X11.set e1 ((row.eraseIdx j).take d1.toNat++row[j]::(row.eraseIdx j).drop d1.toNat);have s11':=s8.trans (s9.trans (s10.trans s11));refine ⟨_,_,_,rfl,(λ c o nc e=>?_),p11.other nb.symm,X12,kHV G8 eq' (kIR hj),by rw [sg];exact l8⟩;rw [kH (kF e na)];exact s11' c o nc e
  ·rintro σ H8 ⟨x3,x4,L8,rfl,s8,p8,X8,G8,l8⟩
   exact web r' A' L8 H8 s8 p8 X8 G8 l8 n1 n2 x3 x4
def gG:Sp:=λ vs H Q _=>∃ (t:ah) (W:Rows),vs=[.ref t]/\WebAt H t W/\Nb W/\W.length<=42/\(∀ u∈kK W,(Fc.rnd W u).length=3)/\∀ H',Same H H'->Q (.bl true) H'
theorem bO {f:ah} {fd:eO} (F:Fun K "_law_three_each" "_law_three_each" qR f fd) (yO:Own.Has P w K mg base "_law_round" ["_law_web_here","_law_step_here"] 1 (zH)) (z_range:mg "range" = none) (z_len:mg "len" = none):FnOk P w K mg base CX0 2 f fd ["_law_web_here"] (gG):=by
 refine F.ok sc_law_three_each (λ vs H Q E h=>?_) (λ cdv A outer s0 H vs Q E hr h=>?_)
 ·obtain ⟨t,W,rfl,_⟩:=h
  rfl
 obtain ⟨t,W,rfl,hW,S,h42,three,k⟩:=h
 refine ⟨_,(kD (xP gj rfl (jJ rfl z_range (kA (kL kQ rfl z_len fe (kA (pv 0) kB)) kB)) (kM (i:=1) sc_law_three_each.nd rfl (cz rfl)) (kJ (xP gj rfl (gW (qA jF (pv 0) (pv 1) (λ _ _=>rfl))) (kM (i:=2) sc_law_three_each.nd rfl (cz rfl)) (kJ (yT (qI gY (kL kQ rfl z_len fe (kA (Own.pe_has yO (hr.mono (by decide)) rfl (kA (pv 0) (kA (jK (kA (pv 1) (kA (pv 2) kB))) kB))) kB)) kO (qZ _)) (kJ (kW uJ)) qX)))))
   (kJ (kW uJ))),?_⟩
 obtain ⟨ts,t1,lts,t3⟩:=id hW;refine ⟨_,rfl,t,_,rfl,.inr (SqT.of t1),_,rfl,(by rw [aj,lts];omega),(by rw [aj,lts];omega),?_⟩
 refine jX (lo:=0) (n:=((((ts.map V.ref).length:Nat):Int)).toNat) (λ i σ H2=>∃ (x1 x2:Option V),σ=[some (.ref t),x1,x2]/\Same H H2)
  ⟨none,none,rfl,Same.refl H⟩ ?_ ?_
 ·rintro i σ H2 hi ⟨x1,x2,rfl,g2⟩
  rw [aj,lts] at hi;have hi:i<W.length:=by omega
  have eW:=aa hi;have es:=aa (show i<ts.length by omega);have hb:=t3 i _ _ es eW;have ai:atI (ts.map V.ref) (0+(i:Int))=some (.ref (ts[i]'(by omega))):=by rw [show (0+(i:Int))=((i:Nat):Int) by omega];exact xY (by rw [bg,es];rfl)
  have rowE:∀ q∈W[i],Tri.E W i q:=λ q hq=>⟨_,eW,hq⟩;generalize W[i]=row at *;generalize ts[i]'(by omega)=b at *;refine ⟨_,rfl,_,rfl,t,_,_,_,rfl,rfl,SqT.of (g2 _ _ t1),ai,b,rfl,⟨_,SqT.of (g2 _ _ hb)⟩,?_⟩;refine kCL (xs:=row.map vn) (λ j σ H3=>∃ (x2:Option V),σ=[some (.ref t),some (.int (0+(i:Int))),x2]/\Same H H3) ⟨_,rfl,g2⟩ ?_ ?_ ?_
  ·rintro j σ H3 _ ⟨x2,rfl,g3⟩
   exact SqT.of (g3 _ _ hb)
  ·rintro j v σ H3 hv ⟨x2,rfl,g3⟩
   rw [bg] at hv;obtain ⟨q,eq',rfl⟩:=eQ.mp hv;have hE:=rowE q (dw eq');refine ⟨_,rfl,_,rfl,_,rfl,yS2,λ z nz=>?_⟩;have gz:=kI nz (.tup [.int (0+(i:Int)),vn q]);have hz:upd H3 z (.tup [.int (0+(i:Int)),vn q]) z=some (.tup [vn i,vn q]):=by rw [kC,show V.int (0+(i:Int))=vn i by unfold vn;congr 1;omega]
   generalize upd H3 z (.tup [.int (0+(i:Int)),vn q])=H4 at *;refine ⟨t,z,W,i,q,rfl,hW.kept (g3.trans gz),S,h42,hz,hE,λ s m H6 g6 TT prq=>?_⟩;rw [cP TT] at prq;obtain ⟨qs,q1,q2,q3⟩:=id prq;rw [three _ (mem_steps.mpr hE)] at q2;refine ⟨s,_,rfl,.inl (SqL.of q1),rfl,_,rfl,?_⟩;rw [aj,q2];exact xB ⟨_,rfl,g3.trans (gz.trans g6)⟩
  ·rintro σ H3 ⟨x2,rfl,g3⟩
   exact ⟨_,_,rfl,g3⟩
 ·rintro σ H2 ⟨x1,x2,rfl,g2⟩
  exact k _ g2
def oJ:Sp:=λ vs H Q _=>∃ (t:ah) (W:Rows),vs=[.ref t]/\WebAt H t W/\Nb W/\W.length<=42/\∀ H',Same H H'->Q (.int ((Fc.facesS W).length:Nat)) H'
def stp (W:Rows) (i:Nat):List (Nat×Nat):=(fc i).flatMap λ p=>(W.getD p []).map λ q=>(p,q)
theorem kFI (W:Rows) (i:Nat):stp W (i+1)=stp W i++(W.getD i []).map λ q=>(i,q):=by
 unfold stp;rw [yw,AA,yf]
theorem pK {f:ah} {fd:eO} (F:Fun K "_law_faces" "_law_faces" yI f fd) (yO:Own.Has P w K mg base "_law_round" ["_law_web_here","_law_step_here"] 1 (zH)) (z_range:mg "range" = none) (z_len:mg "len" = none):FnOk P w K mg base CX0 2 f fd ["_law_web_here"] (oJ):=by
 refine F.ok sc_law_faces (λ vs H Q E h=>?_) (λ cdv A outer s0 H vs Q E hr h=>?_)
 ·obtain ⟨t,W,rfl,_⟩:=h
  rfl
 obtain ⟨t,W,rfl,hW,S,h42,k⟩:=h
 refine ⟨_,(kD (kT (i:=1) sc_law_faces.nd rfl (cz rfl) rW)
   (kD (kT (i:=2) sc_law_faces.nd rfl (cz rfl) kO)
   (kD (xP gj rfl (jJ rfl z_range (kA (kL kQ rfl z_len fe (kA (pv 0) kB)) kB)) (kM (i:=3) sc_law_faces.nd rfl (cz rfl)) (kJ (xP gj rfl (gW (qA jF (pv 0) (pv 3) (λ _ _=>rfl))) (kM (i:=4) sc_law_faces.nd rfl (cz rfl)) (kJ (yT (kAB (dA (lN hr) (jK (kA (pv 3) (kA (pv 4) kB))) (pv 1))) (kD (kT (i:=2) sc_law_faces.nd rfl (cz rfl) (qC jM (pv 2) kO))
   (kJ (xP gj rfl (xX (Own.pe_has yO (hr.mono (by decide)) rfl (kA (pv 0) (kA (jK (kA (pv 3) (kA (pv 4) kB))) kB)))) (kM (i:=5) sc_law_faces.nd rfl (cz rfl)) (kJ (kIQ (lN hr) (pv 1) (pv 5) uJ rfl))))) qX)))))
   (kJ (kW (pv 2)))))),?_⟩
 have l0:=jQ S h42;obtain ⟨ts,t1,lts,t3⟩:=id hW
 have sub:∀ i,i<=W.length->∀ u∈stp W i,u∈kK W:=λ i hi u hu=>by
  obtain ⟨p,hp,m⟩:=xp.mp hu;exact xp.mpr ⟨p,iM.mpr (by have:=iM.mp hp;omega),m⟩
 refine λ d nd=>?_;have gd:=kI nd (.dT []);have hd:=bF (H:=H) (d:=d);refine (λ (hd':SeenAt (upd H d (.dT [])) d [])=>?_) hd;generalize upd H d (.dT [])=H1 at *;refine ⟨_,rfl,t,_,rfl,.inr (SqT.of (gd _ _ t1)),_,rfl,(by rw [aj,lts];omega),(by rw [aj,lts];omega),?_⟩
 refine jX (lo:=0) (n:=((((ts.map V.ref).length:Nat):Int)).toNat) (λ i σ H2=>∃ (x3 x4 x5:Option V),σ=[some (.ref t),some (.ref d),some (.int ((Fc.fgo W (stp W i)).1.length:Nat)),x3,x4,x5]/\Same H H2/\SeenAt H2 d (Fc.fgo W (stp W i)).2)
  ⟨none,none,none,rfl,gd,hd'⟩ ?_ ?_
 ·rintro i σ H2 hi ⟨x3,x4,x5,rfl,g2,sn2⟩
  rw [aj,lts] at hi;have hi:i<W.length:=by omega
  have eW:W[i]?=some (W.getD i []):=by rw [dh,aa hi];rfl
  have es:=aa (show i<ts.length by omega);have hb:=t3 i _ _ es eW;have ai:atI (ts.map V.ref) (0+(i:Int))=some (.ref (ts[i]'(by omega))):=by rw [show (0+(i:Int))=((i:Nat):Int) by omega];exact xY (by rw [bg,es];rfl)
  have subi:=sub (i+1) (by omega);rw [kFI] at subi ⊢;generalize stp W i=T0 at *;have rowE:∀ q∈W.getD i [],Tri.E W i q:=λ q hq=>⟨_,eW,hq⟩;generalize W.getD i []=row at *;generalize ts[i]'(by omega)=b at *;refine ⟨_,rfl,_,rfl,t,_,_,_,rfl,rfl,SqT.of (g2 _ _ t1),ai,b,rfl,⟨_,SqT.of (g2 _ _ hb)⟩,?_⟩
  refine kCL (xs:=row.map vn) (λ j σ H3=>∃ (x4 x5:Option V),σ=[some (.ref t),some (.ref d),some (.int ((Fc.fgo W (T0++(row.take j).map λ q=>(i,q))).1.length:Nat)),some (.int (0+(i:Int))),x4,x5]/\Same H H3/\SeenAt H3 d (Fc.fgo W (T0++(row.take j).map λ q=>(i,q))).2)
   ⟨_,_,by rw [BD,BN,ir];rfl,g2,by rw [BD,BN,ir];exact sn2⟩ ?_ ?_ ?_
  ·rintro j σ H3 _ ⟨x4,x5,rfl,g3,_⟩
   exact SqT.of (g3 _ _ hb)
  ·rintro j v σ H3 hv ⟨x4,x5,rfl,g3,sn⟩
   rw [bg] at hv;obtain ⟨q,eq',rfl⟩:=eQ.mp hv;have hE:=rowE q (dw eq')
   have tk:T0++(row.take (j+1)).map (λ q=>(i,q))=(T0++(row.take j).map λ q=>(i,q))++[(i,q)]:=by
    rw [oq,eq',xj,gq,eh]
    rfl
   rw [tk,Fc.fgo_snoc]
   have fi:=Fc.fgo_ok S (T0++(row.take j).map λ q=>(i,q)) λ u hu=>subi u (by
    rcases eY.mp hu with m | m
    ·exact iJ _ m
    ·obtain ⟨y,hy,rfl⟩:=gi.mp m
     exact fu _ (gi.mpr ⟨y,rj hy,rfl⟩))
   have lX:=fi.len;generalize Fc.fgo W (T0++(row.take j).map λ q=>(i,q))=st at *;refine ⟨_,rfl,_,rfl,yS2,λ z nz=>?_⟩;have gz:=kI nz (.tup [.int (0+(i:Int)),vn q]);have ez:(.tup [.int (0+(i:Int)),vn q]:HO)=.tup [vn i,vn q]:=by rw [show V.int (0+(i:Int))=vn i by unfold vn;congr 1;omega]
   rw [ez] at gz ⊢;have hz:=kC (H:=H3) (a:=z) (o:=.tup [vn i,vn q]);have sn4:=sn.kept gz;have g4:=g3.trans gz;generalize upd H3 z (.tup [vn i,vn q])=H4 at *;obtain ⟨kvs,k1,k2,k3,k4⟩:=id sn4;refine ⟨_,rfl,d,_,rfl,DGet.t (k:=pk (i,q)) k1 hz,_,rfl,?_⟩;rw [k2 (i,q)];unfold Fc.fstep;by_cases c:(i,q)∈st.2
   ·rw [decide_eq_true c,if_pos c]
    exact xB ⟨_,_,rfl,g4,sn4⟩
   rw [decide_eq_false c,if_neg c];refine uN ⟨_,rfl,_,_,rfl,rfl,?_⟩;refine ⟨_,rfl,_,rfl,_,rfl,yS2,λ z2 nz2=>?_⟩;have gz2:=kI nz2 (.tup [.int (0+(i:Int)),vn q]);rw [ez] at gz2 ⊢;have hz2:=kC (H:=H4) (a:=z2) (o:=.tup [vn i,vn q]);refine ⟨t,z2,W,i,q,rfl,hW.kept (g4.trans gz2),S,h42,hz2,hE,λ s m H6 g6 TT prq=>?_⟩;rw [cP TT] at prq;have few:=TT.few;have lm:=cQ TT;obtain ⟨qs,q1,q2,q3⟩:=id prq;have lq:(Fc.rnd W (i,q)).length=m:=by rw [Fc.rnd_len,lm]
   have g46:=gz2.trans g6;have k16:=g46 _ _ k1;have nsd:s≠d:=zK q1 k16 (by simp);have nd0:H d=none:=nd;have g06:=g4.trans g46;refine ⟨s,rfl,⟨_,SqL.of q1⟩,?_⟩;refine lP (xs:=qs.map V.ref) (λ j σ H7=>∃ (x5:Option V),σ=[some (.ref t),some (.ref d),some (.int ((st.1.length:Int)+1)),some (.int (0+(i:Int))),some (vn q),x5]/\(∀ b o,b≠d->H6 b=some o->H7 b=some o)/\SeenAt H7 d (st.2++(Fc.rnd W (i,q)).take j)) ⟨_,rfl,(λ b o _ e=>e),by rw [BD,ir];exact sn4.kept g46⟩ ?_ ?_ ?_
   ·rintro j σ H7 _ ⟨x5,rfl,f7,_⟩
    exact SqL.of (f7 _ _ nsd q1)
   ·rintro j v σ H7 hv ⟨x5,rfl,f7,sD⟩
    rw [bg] at hv;obtain ⟨c',ec,rfl⟩:=eQ.mp hv;have hj:j<(Fc.rnd W (i,q)).length:=by rw [<-q2];exact (ag.mp ec).1
    have ej:=aa hj;have hc6:=q3 j c' _ ec ej;have hc:=f7 _ _ (zK hc6 k16 (by simp)) hc6;have tkj:(Fc.rnd W (i,q)).take (j+1)=(Fc.rnd W (i,q)).take j++[(Fc.rnd W (i,q))[j]]:=by rw [oq,ej];rfl
    rw [tkj,<-eh];generalize (Fc.rnd W (i,q))[j]=y at *;obtain ⟨dv,d1,d2,d3,d4⟩:=sD;have ld:dv.length<=4000:=by rw [eI,fb] at d3;omega
    refine ⟨_,rfl,_,rfl,d,_,rfl,DPut.t (k:=pk y) d1 hc (qU (by omega)),?_⟩;obtain ⟨a1,a2,a3⟩:=cW (t:=y) (v:=.bl true) d2 d3 d4;exact ⟨_,rfl,(λ b o n e=>by rw [kH n];exact f7 b o n e),⟨_,kC,a1,a2,a3⟩⟩
   ·rintro σ H7 ⟨x5,rfl,f7,sn7⟩
    rw [aj,q2,ig] at sn7;exact ⟨some (vn q),x5,by simp,(λ b o e=>f7 b o (kF e nd0) (g06 b o e)),sn7⟩
  ·rintro σ H3 ⟨x4,x5,rfl,g3,sn⟩
   rw [aj,ig] at *;exact ⟨_,_,_,rfl,g3,sn⟩
 ·rintro σ H2 ⟨x3,x4,x5,rfl,g2,_⟩
  refine ⟨_,rfl,?_⟩;rw [aj,lts,show ((W.length:Nat):Int).toNat=W.length by omega,show stp W W.length=kK W from rfl,Fc.fgo_num S];exact k _ g2
end
def kKJ (s:jw) (j:Nat):jw:=match s with
 | .ClassDef _ _ _ b _ _ _ _ _ _ _=>b.getD j (.Pass ⟨0,0,0,0⟩)
 | _=>.Pass ⟨0,0,0,0⟩
abbrev qT:jw:=kKJ (top 1) 0
abbrev jI:jw:=kKJ (top 3) 0
theorem bG:FnScope ["self","words"] ["self","words"] (kE qT):=⟨rfl,rfl,rfl,by decide +kernel,rfl,by decide +kernel,by decide +kernel⟩
theorem fD:FnScope ["self","faces"] ["self","faces"] (kE jI):=⟨rfl,rfl,rfl,by decide +kernel,rfl,by decide +kernel,by decide +kernel⟩
section
variable {P:eU} {w:gk} {K:au} {mg:Str->Option af} {base:gw}
def kBQ (K:au):Sp:=λ vs H Q _=>∃ (a C:ah) (x:Str),vs=[.ref a,.str x]/\H a=some (.ext (XO a C none .none))/\Ex.XK0 K C/\md K C (.type "ValueError")=some true/\Q .non H
theorem bQ {f:ah} {fd:eO} (F:Fun K "__init__" "DrawError.__init__" qT f fd) (z:mg "ValueError" = none) (vf:ur K (.type "ValueError") (.type "type") "__init__" = some (.val (.builtin "ValueError.__init__"))) :
  FnOk P w K mg base CX0 1 f fd ["self","words"] (kBQ K):=by
 refine F.ok bG (λ vs H Q E h=>?_) (λ cdv A outer s H vs Q E hr h=>?_)
 ·obtain ⟨a,C,x,rfl,_⟩:=h
  rfl
 obtain ⟨a,C,x,rfl,ha,x0,hv,q⟩:=h;refine ⟨_,(kJ (qB (kGD rfl z vf (kA (pv 0) (kA (pv 1) kB))))),?_⟩;exact ⟨_,rfl,_,rfl,a,C,none,_,rfl,ha,x0,hv,by simp,q⟩
def oI (K:au):Sp:=λ vs H Q _=>∃ (a C:ah) (y:V),vs=[.ref a,y]/\H a=some (.ext (XO a C none .none))/\Ex.XK0 K C/\md K C (.type "ValueError")=some true/\gx K (.ref C) "faces" = some none /\
 ∀ d,H d=none->d≠a->Q .non (upd (upd H d (.xd [("faces",y)])) a (.ext (XO a C (some d) .none)))
structure DE (P:eU) (w:gk) (K:au) (mg:Str->Option af) (base:gw):Prop where
 ok:∃ (D f:ah) (fd:eO),FnOk P w K mg base CX0 1 f fd ["self","words"] (kBQ K)/\Binds K fd ["self","words"] []/\bj K (.ref f)=true/\mg "DrawError" = some (.ref D) /\
  vc K (.ref D) "__getattribute__" = some (some (.builtin "type.__getattribute__"))/\Bb K D (.type "type")=true/\ur K (.ref D) (.type "type") "__init__" = some (.val (.ref f))
theorem fG {f:ah} {fd:eO} (F:Fun K "__init__" "NotFlat.__init__" jI f fd) (d:DE P w K mg base):FnOk P w K mg base CX0 2 f fd ["self","faces"] (oI K):=by
 refine F.ok fD (λ vs H Q E h=>?_) (λ cdv A outer s H vs Q E hr h=>?_)
 ·obtain ⟨a,C,x,rfl,_⟩:=h
  rfl
 obtain ⟨a,C,y,rfl,ha,x0,hv,n,q⟩:=h;obtain ⟨D,g,gd,G,b,kp,gm,h1,h2,h3⟩:=d.ok;refine ⟨_,(kD (qB (kGF rfl gm h1 h2 h3 kp G (hr.mono (by decide)) b (kA (pv 0) (kA kLT kB)))) (kJ (kIP (pv 0) (pv 1) rfl))),?_⟩;exact ⟨_,rfl,a,C,_,rfl,ha,x0,hv,_,rfl,_,rfl,a,C,rfl,ha,x0,n,λ d nd na=>q d nd na⟩
def SameX (H H':Hp):Prop:=∀ b o,(∀ φ,o≠.ext φ)->H b=some o->H' b=some o
theorem WebAt.keptX {H H':Hp} {t:ah} {W:Rows} (h:WebAt H t W) (s:SameX H H'):WebAt H' t W:=by
 obtain ⟨ts,h1,h2,h3⟩:=h;exact ⟨ts,s _ _ (by simp) h1,h2,λ j a row e1 e2=>s _ _ (by simp) (h3 j a row e1 e2)⟩
theorem oQ {H H':Hp} (g:Same H H'):SameX H H':=λ b o _ e=>g b o e
theorem SameX.trans {H H1 H2:Hp} (a:SameX H H1) (b:SameX H1 H2):SameX H H2:=λ c o n e=>b c o n (a c o n e)
theorem SameX.seq {H H':Hp} {a:ah} {xs:List V} (g:SameX H H') (h:SqL K H a xs):SqL K H' a xs:=by
 rcases h with (h | ⟨o,h⟩) | r
 ·exact .inl (.inl (g _ _ (by simp) h))
 ·exact .inl (.inr ⟨o,g _ _ (by simp) h⟩)
 ·exact .inr r
structure Cl (P:eU) (w:gk) (K:au) (mg:Str->Option af) (base:gw) (x:Str) (C:ah):Prop where
 made:∃ f fd,XM K C f/\FnOk P w K mg base CX0 2 f fd ["self","faces"] (oI K)/\Binds K fd ["self","faces"] []
 gm:mg x=some (.ref C)
 ve:md K C (.type "ValueError")=some true
 nt:gx K (.ref C) "faces" = some none
theorem kLN {H1:Hp} {x d T C:ah} {y:V} (nx:H1 x=none) (nd:upd H1 x (.ext (XO x C none .none)) d=none) (dx:d≠x) (nT:upd (upd (upd H1 x (.ext (XO x C none .none))) d (.xd [("faces",y)])) x (.ext (XO x C (some d) .none)) T=none) (na:T≠x) :
  SameX H1 (tr2 (upd (upd (upd H1 x (.ext (XO x C none .none))) d (.xd [("faces",y)])) x (.ext (XO x C (some d) .none))) x C (some d) T) /\
  tr2 (upd (upd (upd H1 x (.ext (XO x C none .none))) d (.xd [("faces",y)])) x (.ext (XO x C (some d) .none))) x C (some d) T d=some (.xd [("faces",y)]):=by
 have hd:upd (upd (upd H1 x (.ext (XO x C none .none))) d (.xd [("faces",y)])) x (.ext (XO x C (some d) .none)) d=some (.xd [("faces",y)]):=by rw [kH dx,kC]
 refine ⟨λ b o _ e=>?_,?_⟩
 ·have bx:b≠x:=kF e nx
  have e1:upd H1 x (.ext (XO x C none .none)) b=some o:=by rw [kH bx];exact e
  have bd:b≠d:=kF e1 nd;have e2:upd (upd (upd H1 x (.ext (XO x C none .none))) d (.xd [("faces",y)])) x (.ext (XO x C (some d) .none)) b=some o:=by rw [kH bx,kH bd];exact e1
  unfold tr2;rw [kH bx,kH (kF e2 nT)];exact e2
 ·unfold tr2
  rw [kH dx,kH (kF hd nT)];exact hd
theorem kII {x:Str} {C:ah} {y:V} {H:Hp} {E:XK} {D:Ends} {σ:St} {ta:TA} (c:Cl P w K mg base x C) (x0:Ex.XK0 K C) (q:∀ d H',SameX H H'->H' d=some (.xd [("faces",y)])->E (.ref C) (some d) H') :
  ∀ a,H a=none->oI K [.ref a,y] (upd H a (.ext (XO a C none .none))) (λ v H2=>v=.non/\∃ a' C' dx,V.ref a=.ref a'/\XAt H2 a' C' dx .none/\Ex.XK0 K C'/\∀ T,H2 T=none->T≠a'->E (.ref C') dx (tr2 H2 a' C' dx T)) E0:=by
 refine λ a na=>⟨a,C,_,rfl,kC,x0,c.ve,c.nt,λ d nd da=>⟨rfl,a,C,some d,rfl,⟨kC,λ d' e=>?_⟩,x0,λ T nT nTa=>?_⟩⟩
 ·cases e
  exact ⟨_,by rw [kH da,kC]⟩
 ·obtain ⟨s1,s2⟩:=kLN na nd da nT nTa
  exact q d _ s1 s2
def sorts:List Str:=["NoFace","Doubled","NoTie","Parted","NotFlat","NotTied","NotCornered","NoRim","NoCorners","NoBase","NoOrder","NoWoods","NoWeights","NoText","Alike","Folded"]
structure Kd (K:au) (G:Str->ah) (C:ah) (j:Nat):Prop where
 one:∀ (i:Nat) (c:Str),sorts[i]?=some c->xu K (.ref C) (.ref (G c))=some (decide (i=j))
 ve:xu K (.ref C) (.type "ValueError")=some true
 lt:j<16
theorem kJU:bootBuiltins "ValueError" = some (.type "ValueError"):=by decide +kernel
theorem wS {H:Hp} {a C l:ah} {dx:Option ah} {t1:af} (x:XAt H a C dx t1) (n:H l=none) (o:HO):XAt (upd H l o) a C dx t1:=by
 refine ⟨by rw [kH (kF x.1 n)];exact x.1,λ d e=>?_⟩;obtain ⟨fs,z⟩:=x.2 d e;exact ⟨fs,by rw [kH (kF z n)];exact z⟩
def oF (K:au) (G:Str->ah):Sp:=λ vs H Q _=>∃ (a C:ah) (dx:Option ah) (t1:af) (j:Nat),vs=[.ref a]/\XAt H a C dx t1/\Ex.XK0 K C/\Kd K G C j/\∀ H',(∀ b o,H b=some o->H' b=some o)->Q (.int j) H'
def kBJ (j:Nat):List Bool:=(fc 16).map λ i=>decide (i=j)
theorem kBI:∀ j,j<16->(kBJ j).countP id=1:=by decide
theorem kJV:∀ j,j<16->(kBJ j)[j]?=some true/\∀ m:Nat,m<j->(kBJ j)[m]?=some false:=λ j h=>by
 unfold kBJ;refine ⟨?_,λ m hm=>?_⟩
 ·rw [bg,tz h];simp
 ·rw [bg,tz (by omega)];simp;omega
theorem pF {f:ah} {fd:eO} {G:Str->ah} (F:Fun K "_law_which" "_law_which" yD f fd) (g_:∀ c:Str,c∈sorts->mg c=some (.ref (G c))) (z_isinstance:mg "isinstance" = none) (z_ValueError:mg "ValueError" = none) :
  FnN P w K mg base 1 f fd ["_law_e"] (oF K G):=by
 refine F.okN sc_law_which (λ vs H Q E h=>?_) (λ cdv A outer s H vs Q E hr h=>?_)
 ·obtain ⟨a,C,dx,t1,j,rfl,_⟩:=h
  rfl
 obtain ⟨a,C,dx,t1,j,rfl,xa,x0,k,q⟩:=h
 refine ⟨_,(kD (kT (i:=1) sc_law_which.nd rfl (cz rfl) (jZ (kA (kL qG rfl z_isinstance ck (kA (pv 0) (kA (qM (v:=.ref (G "NoFace")) rfl (g_ "NoFace" (by decide +kernel)) rfl) kB))) (kA (kL qG rfl z_isinstance ck (kA (pv 0) (kA (qM (v:=.ref (G "Doubled")) rfl (g_ "Doubled" (by decide +kernel)) rfl) kB))) (kA (kL qG rfl z_isinstance ck (kA (pv 0) (kA (qM (v:=.ref (G "NoTie")) rfl (g_ "NoTie" (by decide +kernel)) rfl) kB))) (kA (kL qG rfl z_isinstance ck (kA (pv 0) (kA (qM (v:=.ref (G "Parted")) rfl (g_ "Parted" (by decide +kernel)) rfl) kB))) kB))))))
   (kD (kT (i:=1) sc_law_which.nd rfl (cz rfl) (qC dD (pv 1) (jZ (kA (kL qG rfl z_isinstance ck (kA (pv 0) (kA (qM (v:=.ref (G "NotFlat")) rfl (g_ "NotFlat" (by decide +kernel)) rfl) kB))) (kA (kL qG rfl z_isinstance ck (kA (pv 0) (kA (qM (v:=.ref (G "NotTied")) rfl (g_ "NotTied" (by decide +kernel)) rfl) kB))) (kA (kL qG rfl z_isinstance ck (kA (pv 0) (kA (qM (v:=.ref (G "NotCornered")) rfl (g_ "NotCornered" (by decide +kernel)) rfl) kB))) (kA (kL qG rfl z_isinstance ck (kA (pv 0) (kA (qM (v:=.ref (G "NoRim")) rfl (g_ "NoRim" (by decide +kernel)) rfl) kB))) kB)))))))
   (kD (kT (i:=1) sc_law_which.nd rfl (cz rfl) (qC dD (pv 1) (jZ (kA (kL qG rfl z_isinstance ck (kA (pv 0) (kA (qM (v:=.ref (G "NoCorners")) rfl (g_ "NoCorners" (by decide +kernel)) rfl) kB))) (kA (kL qG rfl z_isinstance ck (kA (pv 0) (kA (qM (v:=.ref (G "NoBase")) rfl (g_ "NoBase" (by decide +kernel)) rfl) kB))) (kA (kL qG rfl z_isinstance ck (kA (pv 0) (kA (qM (v:=.ref (G "NoOrder")) rfl (g_ "NoOrder" (by decide +kernel)) rfl) kB))) (kA (kL qG rfl z_isinstance ck (kA (pv 0) (kA (qM (v:=.ref (G "NoWoods")) rfl (g_ "NoWoods" (by decide +kernel)) rfl) kB))) kB)))))))
   (kD (kT (i:=1) sc_law_which.nd rfl (cz rfl) (qC dD (pv 1) (jZ (kA (kL qG rfl z_isinstance ck (kA (pv 0) (kA (qM (v:=.ref (G "NoWeights")) rfl (g_ "NoWeights" (by decide +kernel)) rfl) kB))) (kA (kL qG rfl z_isinstance ck (kA (pv 0) (kA (qM (v:=.ref (G "NoText")) rfl (g_ "NoText" (by decide +kernel)) rfl) kB))) (kA (kL qG rfl z_isinstance ck (kA (pv 0) (kA (qM (v:=.ref (G "Alike")) rfl (g_ "Alike" (by decide +kernel)) rfl) kB))) (kA (kL qG rfl z_isinstance ck (kA (pv 0) (kA (qM (v:=.ref (G "Folded")) rfl (g_ "Folded" (by decide +kernel)) rfl) kB))) kB)))))))
   (kD (yT (PW.pt (mV (qI gY (jA dc PySem.F.slot_list_count PySem.F.type_list_count kDX (pv 1) (kA uJ kB)) kO (qZ _)) (cZ (uH (yS (kL qG rfl z_isinstance ck (kA (pv 0) (kA (fS (v:=.ty "ValueError") rfl z_ValueError kJU rfl) kB))))))))
    (kJ (kW (kOI kKX kO))) qX)
   (kJ (kW (jA dc oy oz kDW (pv 1) (kA uJ kB))))))))),?_⟩
 have f4:∀ a b c d:V,[a,b,c,d].length<=sizeLine:=λ _ _ _ _=>(by decide:4<=sizeLine);refine ⟨_,rfl,a,C,dx,t1,_,_,_,rfl,rfl,(λ _ z=>z),xa,x0,k.one 0 _ rfl,_,rfl,a,C,dx,t1,_,_,_,rfl,rfl,(λ _ z=>z),xa,x0,k.one 1 _ rfl,_,rfl,a,C,dx,t1,_,_,_,rfl,rfl,(λ _ z=>z),xa,x0,k.one 2 _ rfl,_,rfl,a,C,dx,t1,_,_,_,rfl,rfl,(λ _ z=>z),xa,x0,k.one 3 _ rfl,f4 _ _ _ _,λ l1 n1=>?_⟩;have xa1:=wS xa n1 (.lst [.bl (decide (0=j)),.bl (decide (1=j)),.bl (decide (2=j)),.bl (decide (3=j))]);have s1:∀ b o,H b=some o->upd H l1 (.lst [.bl (decide (0=j)),.bl (decide (1=j)),.bl (decide (2=j)),.bl (decide (3=j))]) b=some o:=λ b o e=>by rw [kH (kF e n1)];exact e
 have e1:upd H l1 (.lst [.bl (decide (0=j)),.bl (decide (1=j)),.bl (decide (2=j)),.bl (decide (3=j))]) l1=some (.lst [.bl (decide (0=j)),.bl (decide (1=j)),.bl (decide (2=j)),.bl (decide (3=j))]):=kC;generalize upd H l1 (.lst [.bl (decide (0=j)),.bl (decide (1=j)),.bl (decide (2=j)),.bl (decide (3=j))])=H1 at xa1 s1 e1 ⊢;refine ⟨_,rfl,_,rfl,a,C,dx,t1,_,_,_,rfl,rfl,(λ _ z=>z),xa1,x0,k.one 4 _ rfl,_,rfl,a,C,dx,t1,_,_,_,rfl,rfl,(λ _ z=>z),xa1,x0,k.one 5 _ rfl,_,rfl,a,C,dx,t1,_,_,_,rfl,rfl,(λ _ z=>z),xa1,x0,k.one 6 _ rfl,_,rfl,a,C,dx,t1,_,_,_,rfl,rfl,(λ _ z=>z),xa1,x0,k.one 7 _ rfl,f4 _ _ _ _,λ m1 n1=>?_⟩;refine ⟨l1,m1,[.bl (decide (0=j)),.bl (decide (1=j)),.bl (decide (2=j)),.bl (decide (3=j))],[.bl (decide (4=j)),.bl (decide (5=j)),.bl (decide (6=j)),.bl (decide (7=j))],rfl,rfl,by rw [kH (kF e1 n1)];exact e1,kC,(by exact (by decide:8<=sizeLine)),λ k1 o1=>?_⟩;have xb1:=wS (wS xa1 n1 (.lst [.bl (decide (4=j)),.bl (decide (5=j)),.bl (decide (6=j)),.bl (decide (7=j))])) o1 (.lst ([.bl (decide (0=j)),.bl (decide (1=j)),.bl (decide (2=j)),.bl (decide (3=j))]++[.bl (decide (4=j)),.bl (decide (5=j)),.bl (decide (6=j)),.bl (decide (7=j))]))
 have sb1:∀ b o,H b=some o->upd (upd H1 m1 (.lst [.bl (decide (4=j)),.bl (decide (5=j)),.bl (decide (6=j)),.bl (decide (7=j))])) k1 (.lst ([.bl (decide (0=j)),.bl (decide (1=j)),.bl (decide (2=j)),.bl (decide (3=j))]++[.bl (decide (4=j)),.bl (decide (5=j)),.bl (decide (6=j)),.bl (decide (7=j))])) b=some o:=λ b o e=>by
  have e2:upd H1 m1 (.lst [.bl (decide (4=j)),.bl (decide (5=j)),.bl (decide (6=j)),.bl (decide (7=j))]) b=some o:=by rw [kH (kF (s1 b o e) n1)];exact s1 b o e
  rw [kH (kF e2 o1)];exact e2
 have eb1:upd (upd H1 m1 (.lst [.bl (decide (4=j)),.bl (decide (5=j)),.bl (decide (6=j)),.bl (decide (7=j))])) k1 (.lst ([.bl (decide (0=j)),.bl (decide (1=j)),.bl (decide (2=j)),.bl (decide (3=j))]++[.bl (decide (4=j)),.bl (decide (5=j)),.bl (decide (6=j)),.bl (decide (7=j))])) k1=some (.lst ([.bl (decide (0=j)),.bl (decide (1=j)),.bl (decide (2=j)),.bl (decide (3=j))]++[.bl (decide (4=j)),.bl (decide (5=j)),.bl (decide (6=j)),.bl (decide (7=j))])):=kC;generalize upd (upd H1 m1 (.lst [.bl (decide (4=j)),.bl (decide (5=j)),.bl (decide (6=j)),.bl (decide (7=j))])) k1 (.lst ([.bl (decide (0=j)),.bl (decide (1=j)),.bl (decide (2=j)),.bl (decide (3=j))]++[.bl (decide (4=j)),.bl (decide (5=j)),.bl (decide (6=j)),.bl (decide (7=j))]))=Hb1 at xb1 sb1 eb1 ⊢;refine ⟨_,rfl,_,rfl,a,C,dx,t1,_,_,_,rfl,rfl,(λ _ z=>z),xb1,x0,k.one 8 _ rfl,_,rfl,a,C,dx,t1,_,_,_,rfl,rfl,(λ _ z=>z),xb1,x0,k.one 9 _ rfl,_,rfl,a,C,dx,t1,_,_,_,rfl,rfl,(λ _ z=>z),xb1,x0,k.one 10 _ rfl,_,rfl,a,C,dx,t1,_,_,_,rfl,rfl,(λ _ z=>z),xb1,x0,k.one 11 _ rfl,f4 _ _ _ _,λ m2 n2=>?_⟩;refine ⟨k1,m2,([.bl (decide (0=j)),.bl (decide (1=j)),.bl (decide (2=j)),.bl (decide (3=j))]++[.bl (decide (4=j)),.bl (decide (5=j)),.bl (decide (6=j)),.bl (decide (7=j))]),[.bl (decide (8=j)),.bl (decide (9=j)),.bl (decide (10=j)),.bl (decide (11=j))],rfl,rfl,by rw [kH (kF eb1 n2)];exact eb1,kC,(by exact (by decide:12<=sizeLine)),λ k2 o2=>?_⟩;have xb2:=wS (wS xb1 n2 (.lst [.bl (decide (8=j)),.bl (decide (9=j)),.bl (decide (10=j)),.bl (decide (11=j))])) o2 (.lst (([.bl (decide (0=j)),.bl (decide (1=j)),.bl (decide (2=j)),.bl (decide (3=j))]++[.bl (decide (4=j)),.bl (decide (5=j)),.bl (decide (6=j)),.bl (decide (7=j))])++[.bl (decide (8=j)),.bl (decide (9=j)),.bl (decide (10=j)),.bl (decide (11=j))]))
 have sb2:∀ b o,H b=some o->upd (upd Hb1 m2 (.lst [.bl (decide (8=j)),.bl (decide (9=j)),.bl (decide (10=j)),.bl (decide (11=j))])) k2 (.lst (([.bl (decide (0=j)),.bl (decide (1=j)),.bl (decide (2=j)),.bl (decide (3=j))]++[.bl (decide (4=j)),.bl (decide (5=j)),.bl (decide (6=j)),.bl (decide (7=j))])++[.bl (decide (8=j)),.bl (decide (9=j)),.bl (decide (10=j)),.bl (decide (11=j))])) b=some o:=λ b o e=>by
  have e2:upd Hb1 m2 (.lst [.bl (decide (8=j)),.bl (decide (9=j)),.bl (decide (10=j)),.bl (decide (11=j))]) b=some o:=by rw [kH (kF (sb1 b o e) n2)];exact sb1 b o e
  rw [kH (kF e2 o2)];exact e2
 have eb2:upd (upd Hb1 m2 (.lst [.bl (decide (8=j)),.bl (decide (9=j)),.bl (decide (10=j)),.bl (decide (11=j))])) k2 (.lst (([.bl (decide (0=j)),.bl (decide (1=j)),.bl (decide (2=j)),.bl (decide (3=j))]++[.bl (decide (4=j)),.bl (decide (5=j)),.bl (decide (6=j)),.bl (decide (7=j))])++[.bl (decide (8=j)),.bl (decide (9=j)),.bl (decide (10=j)),.bl (decide (11=j))])) k2=some (.lst (([.bl (decide (0=j)),.bl (decide (1=j)),.bl (decide (2=j)),.bl (decide (3=j))]++[.bl (decide (4=j)),.bl (decide (5=j)),.bl (decide (6=j)),.bl (decide (7=j))])++[.bl (decide (8=j)),.bl (decide (9=j)),.bl (decide (10=j)),.bl (decide (11=j))])):=kC;generalize upd (upd Hb1 m2 (.lst [.bl (decide (8=j)),.bl (decide (9=j)),.bl (decide (10=j)),.bl (decide (11=j))])) k2 (.lst (([.bl (decide (0=j)),.bl (decide (1=j)),.bl (decide (2=j)),.bl (decide (3=j))]++[.bl (decide (4=j)),.bl (decide (5=j)),.bl (decide (6=j)),.bl (decide (7=j))])++[.bl (decide (8=j)),.bl (decide (9=j)),.bl (decide (10=j)),.bl (decide (11=j))]))=Hb2 at xb2 sb2 eb2 ⊢;refine ⟨_,rfl,_,rfl,a,C,dx,t1,_,_,_,rfl,rfl,(λ _ z=>z),xb2,x0,k.one 12 _ rfl,_,rfl,a,C,dx,t1,_,_,_,rfl,rfl,(λ _ z=>z),xb2,x0,k.one 13 _ rfl,_,rfl,a,C,dx,t1,_,_,_,rfl,rfl,(λ _ z=>z),xb2,x0,k.one 14 _ rfl,_,rfl,a,C,dx,t1,_,_,_,rfl,rfl,(λ _ z=>z),xb2,x0,k.one 15 _ rfl,f4 _ _ _ _,λ m3 n3=>?_⟩;refine ⟨k2,m3,(([.bl (decide (0=j)),.bl (decide (1=j)),.bl (decide (2=j)),.bl (decide (3=j))]++[.bl (decide (4=j)),.bl (decide (5=j)),.bl (decide (6=j)),.bl (decide (7=j))])++[.bl (decide (8=j)),.bl (decide (9=j)),.bl (decide (10=j)),.bl (decide (11=j))]),[.bl (decide (12=j)),.bl (decide (13=j)),.bl (decide (14=j)),.bl (decide (15=j))],rfl,rfl,by rw [kH (kF eb2 n3)];exact eb2,kC,(by exact (by decide:16<=sizeLine)),λ k3 o3=>?_⟩;have xb3:=wS (wS xb2 n3 (.lst [.bl (decide (12=j)),.bl (decide (13=j)),.bl (decide (14=j)),.bl (decide (15=j))])) o3 (.lst ((([.bl (decide (0=j)),.bl (decide (1=j)),.bl (decide (2=j)),.bl (decide (3=j))]++[.bl (decide (4=j)),.bl (decide (5=j)),.bl (decide (6=j)),.bl (decide (7=j))])++[.bl (decide (8=j)),.bl (decide (9=j)),.bl (decide (10=j)),.bl (decide (11=j))])++[.bl (decide (12=j)),.bl (decide (13=j)),.bl (decide (14=j)),.bl (decide (15=j))]))
 have sb3:∀ b o,H b=some o->upd (upd Hb2 m3 (.lst [.bl (decide (12=j)),.bl (decide (13=j)),.bl (decide (14=j)),.bl (decide (15=j))])) k3 (.lst ((([.bl (decide (0=j)),.bl (decide (1=j)),.bl (decide (2=j)),.bl (decide (3=j))]++[.bl (decide (4=j)),.bl (decide (5=j)),.bl (decide (6=j)),.bl (decide (7=j))])++[.bl (decide (8=j)),.bl (decide (9=j)),.bl (decide (10=j)),.bl (decide (11=j))])++[.bl (decide (12=j)),.bl (decide (13=j)),.bl (decide (14=j)),.bl (decide (15=j))])) b=some o:=λ b o e=>by
  have e2:upd Hb2 m3 (.lst [.bl (decide (12=j)),.bl (decide (13=j)),.bl (decide (14=j)),.bl (decide (15=j))]) b=some o:=by rw [kH (kF (sb2 b o e) n3)];exact sb2 b o e
  rw [kH (kF e2 o3)];exact e2
 have eb3:upd (upd Hb2 m3 (.lst [.bl (decide (12=j)),.bl (decide (13=j)),.bl (decide (14=j)),.bl (decide (15=j))])) k3 (.lst ((([.bl (decide (0=j)),.bl (decide (1=j)),.bl (decide (2=j)),.bl (decide (3=j))]++[.bl (decide (4=j)),.bl (decide (5=j)),.bl (decide (6=j)),.bl (decide (7=j))])++[.bl (decide (8=j)),.bl (decide (9=j)),.bl (decide (10=j)),.bl (decide (11=j))])++[.bl (decide (12=j)),.bl (decide (13=j)),.bl (decide (14=j)),.bl (decide (15=j))])) k3=some (.lst ((([.bl (decide (0=j)),.bl (decide (1=j)),.bl (decide (2=j)),.bl (decide (3=j))]++[.bl (decide (4=j)),.bl (decide (5=j)),.bl (decide (6=j)),.bl (decide (7=j))])++[.bl (decide (8=j)),.bl (decide (9=j)),.bl (decide (10=j)),.bl (decide (11=j))])++[.bl (decide (12=j)),.bl (decide (13=j)),.bl (decide (14=j)),.bl (decide (15=j))])):=kC;generalize upd (upd Hb2 m3 (.lst [.bl (decide (12=j)),.bl (decide (13=j)),.bl (decide (14=j)),.bl (decide (15=j))])) k3 (.lst ((([.bl (decide (0=j)),.bl (decide (1=j)),.bl (decide (2=j)),.bl (decide (3=j))]++[.bl (decide (4=j)),.bl (decide (5=j)),.bl (decide (6=j)),.bl (decide (7=j))])++[.bl (decide (8=j)),.bl (decide (9=j)),.bl (decide (10=j)),.bl (decide (11=j))])++[.bl (decide (12=j)),.bl (decide (13=j)),.bl (decide (14=j)),.bl (decide (15=j))]))=Hb3 at xb3 sb3 eb3 ⊢;have el:(((([.bl (decide (0=j)),.bl (decide (1=j)),.bl (decide (2=j)),.bl (decide (3=j))]++[.bl (decide (4=j)),.bl (decide (5=j)),.bl (decide (6=j)),.bl (decide (7=j))])++[.bl (decide (8=j)),.bl (decide (9=j)),.bl (decide (10=j)),.bl (decide (11=j))])++[.bl (decide (12=j)),.bl (decide (13=j)),.bl (decide (14=j)),.bl (decide (15=j))]):List V)=(kBJ j).map V.bl:=rfl;rw [el] at eb3;refine ⟨_,rfl,.inl ⟨rfl,_,SqL.of eb3⟩,k3,kBJ j,rfl,rfl,eb3,rfl,_,rfl,?_⟩;rw [kBI j k.lt];refine xB ⟨_,rfl,a,C,dx,t1,_,_,_,rfl,rfl,(λ _ z=>z),xb3,x0,k.ve,_,rfl,xB ?_⟩;obtain ⟨a1,a2⟩:=kJV j k.lt;exact ⟨_,rfl,.inl ⟨rfl,_,SqL.of eb3⟩,k3,kBJ j,j,rfl,rfl,eb3,a1,a2,q _ sb3⟩
theorem Kd.none4 {C:ah} {G:Str->ah} (k:Kd K G C 4):yh K (.ref C) [.ref (G "Doubled"),.ref (G "NoTie"),.ref (G "Parted")]=some false:=by
 have a:=k.one 1 "Doubled" rfl;have b:=k.one 2 "NoTie" rfl;have c:=k.one 3 "Parted" rfl;unfold yh;rw [a,decide_eq_false (by omega)];unfold yh;rw [b,decide_eq_false (by omega)];unfold yh;rw [c,decide_eq_false (by omega)]
 rfl
def oH (K:au) (G:Str->ah):Sp:=λ vs H Q _=>∃ (a C d:ah) (t1:af) (y:V),vs=[.ref a]/\H a=some (.ext (XO a C (some d) t1))/\Ex.XK0 K C/\Kd K G C 4/\H d=some (.xd [("faces",y)])/\gx K (.ref C) "faces" = some none /\
 ∀ H' p,(∀ b o,H b=some o->H' b=some o)->H' p=some (.tup [.int 4,y])->Q (.ref p) H'
theorem pI {f:ah} {fd:eO} {G:Str->ah} (F:Fun K "_law_known" "_law_known" yG f fd) (uP:kHT P w K mg base "_law_which" ["_law_e"] 1 (oF K G)) (g_:∀ c:Str,c∈sorts->mg c=some (.ref (G c))) (z_isinstance:mg "isinstance" = none) :
  FnN P w K mg base 2 f fd ["_law_e"] (oH K G):=by
 refine F.okN oP (λ vs H Q E h=>?_) (λ cdv A outer s H vs Q E hr h=>?_)
 ·obtain ⟨a,C,d,t1,y,rfl,_⟩:=h
  rfl
 obtain ⟨a,C,d,t1,y,rfl,ha,x0,k,hd,nt,q⟩:=h
 refine ⟨_,(kD (yT (yS (kL kBH rfl z_isinstance ck (kA (pv 0) (kA (jK (kA (qM (v:=.ref (G "Doubled")) rfl (g_ "Doubled" (by decide +kernel)) rfl) (kA (qM (v:=.ref (G "NoTie")) rfl (g_ "NoTie" (by decide +kernel)) rfl) (kA (qM (v:=.ref (G "Parted")) rfl (g_ "Parted" (by decide +kernel)) rfl) kB)))) kB))))
   (kJ zE) qX)
   (kD (yT (yS (kL qG rfl z_isinstance ck (kA (pv 0) (kA (qM (v:=.ref (G "NotFlat")) rfl (g_ "NotFlat" (by decide +kernel)) rfl) kB))))
    (kJ (kW (jK (kA (kBW uP (hr.mono (by decide)) rfl (kA (pv 0) kB)) (kA (kIS (pv 0) rfl) kB))))) qX)
   (kJ zE))),?_⟩
 have xa:XAt H a C (some d) t1:=⟨ha,λ d' e=>by cases e;exact ⟨_,hd⟩⟩;refine ⟨_,rfl,by exact (by decide:3<=sizeLine),λ tp np=>?_⟩;have xa1:=wS xa np (.tup [.ref (G "Doubled"),.ref (G "NoTie"),.ref (G "Parted")]);have s1:∀ b o,H b=some o->upd H tp (.tup [.ref (G "Doubled"),.ref (G "NoTie"),.ref (G "Parted")]) b=some o:=λ b o e=>by rw [kH (kF e np)];exact e
 have e1:upd H tp (.tup [.ref (G "Doubled"),.ref (G "NoTie"),.ref (G "Parted")]) tp=some (.tup [.ref (G "Doubled"),.ref (G "NoTie"),.ref (G "Parted")]):=kC;generalize upd H tp (.tup [.ref (G "Doubled"),.ref (G "NoTie"),.ref (G "Parted")])=H1 at xa1 s1 e1 ⊢;refine ⟨a,C,some d,t1,tp,_,[.ref (G "Doubled"),.ref (G "NoTie"),.ref (G "Parted")],false,rfl,e1,.cons rfl (.cons rfl (.cons rfl .nil)),λ us r=>?_,xa1,x0,k.none4,_,rfl,xB ?_⟩
 ·obtain ⟨u1,us1,rfl,r1,r⟩ : ∃ u us',us=u::us'/\RelV (.ref (G "Doubled")) u/\Vals [.ref (G "NoTie"),.ref (G "Parted")] us':=by
   cases r with | cons a b=>exact ⟨_,_,rfl,a,b⟩
  obtain ⟨u2,us2,rfl,r2,r⟩ : ∃ u us',us1=u::us'/\RelV (.ref (G "NoTie")) u/\Vals [.ref (G "Parted")] us':=by
   cases r with | cons a b=>exact ⟨_,_,rfl,a,b⟩
  obtain ⟨u3,rfl,r3⟩:=uA r;cases r1
  cases r2
  cases r3
  rfl
 refine ⟨_,rfl,a,C,some d,t1,_,_,_,rfl,rfl,(λ _ z=>z),xa1,x0,k.one 4 _ rfl,_,rfl,uN ?_⟩;refine ⟨_,rfl,a,C,some d,t1,4,rfl,xa1,x0,k,λ H2 s2=>?_⟩;refine ⟨_,rfl,a,C,d,t1,_,y,rfl,s2 _ _ (s1 _ _ ha),s2 _ _ (s1 _ _ hd),x0,nt,rfl,by exact (by decide:2<=sizeLine),λ p np2=>?_⟩;refine q _ p (λ b o e=>?_) kC;rw [kH (kF (s2 _ _ (s1 _ _ e)) np2)];exact s2 _ _ (s1 _ _ e)
def fN (CN:ah):Sp:=λ vs H Q E=>∃ (t:ah) (W:Rows),vs=[.ref t]/\WebAt H t W/\Nb W/\¬ Fc.Flat W/\W.length<=42/\∀ d H',SameX H H'->H' d=some (.xd [("faces",.int ((Fc.facesS W).length:Nat))])->E (.ref CN) (some d) H'
theorem kDR {f:ah} {fd:eO} {CN:ah} (F:Fun K "must_be_flat" "must_be_flat" qV f fd) (xL:Own.Has P w K mg base "is_flat" ["web"] 4 (gN)) (zX:Own.Has P w K mg base "faces" ["web"] 3 (bA)) (z_len:mg "len" = none) (c:Cl P w K mg base "NotFlat" CN) (x0:Ex.XK0 K CN) :
  FnOk P w K mg base (CXo P w) 5 f fd ["web"] (fN CN):=by
 refine F.okX uB (λ vs H Q E h=>?_) (λ cdv A outer s0 H vs Q E hr h=>?_)
 ·obtain ⟨t,W,rfl,_⟩:=h
  rfl
 obtain ⟨t,W,rfl,hW,S,nf,h42,q⟩:=h;obtain ⟨f1,g1,m_D,f_D,b_D⟩:=c.made;refine ⟨_,(kJ (yT (uH (yS (Own.pe_has xL (hr.mono (by decide)) rfl (kA (pv 0) kB)))) (kJ (kFY (E:=E) (kGC m_D f_D (hr.mono (by decide)) rfl c.gm b_D (by decide) (kA (kL kQ (by rfl) z_len fe (kA (Own.pe_has zX (hr.mono (by decide)) rfl (kA (pv 0) kB)) kB)) kB)) rfl rfl rfl rfl rfl)) qX)),?_⟩;refine ⟨_,rfl,t,W,rfl,hW,S,h42,λ H1 g1'=>⟨_,rfl,?_⟩⟩;rw [decide_eq_false (show ¬ (W.length+(Fc.facesS W).length=(Fc.tiesS W).length+2) from nf)];refine uN ?_;refine ⟨_,rfl,t,W,rfl,hW.kept g1',S,h42,λ s H2 g2 _ rt=>?_⟩;obtain ⟨ss,r1,r2,_⟩:=id rt;refine ⟨s,_,rfl,.inl (SqL.of r1),?_⟩;rw [aj,r2];exact kII (D:={ nx:=λ _ _=>False,rt:=λ _ _=>False }) (σ:=[]) (ta:=tP) c x0 λ d H3 s3 hd=>q d H3 ((oQ (g1'.trans g2)).trans s3) hd
theorem gQ {H H':Hp} {a C T:ah} {dx:Option ah} {t1:af} (ea:H' a=some (.ext (XO a C dx t1))) (nT:H' T=none) (s:SameX H H'):SameX H (tr2 H' a C dx T):=λ b o ne e=>by
 have e1:=s b o ne e;have m1:b≠a:=λ z=>by subst z;rw [ea] at e1;cases e1;exact ne _ rfl
 unfold tr2;rw [kH m1,kH (kF e1 nT)];exact e1
theorem sB {f o:ah} {fd od:eO} {CN:ah} (F:Fun K "filled" "filled" wH f fd) (FO:FnOk P w K mg base (CXo P w) 5 o od ["web"] (fN CN)) (bo:Binds K od ["web"] []) (ko:bj K (.ref o)=true) (mo:mg "must_be_flat" = some (.ref o)) :
  FnOk P w K mg base (CXo P w) 6 f fd ["web"] (fN CN):=by
 refine F.okX sc_filled (λ vs H Q E h=>?_) (λ cdv A outer s0 H vs Q E hr h=>?_)
 ·obtain ⟨t,W,rfl,_⟩:=h
  rfl
 obtain ⟨t,W,rfl,hW,S,nf,h42,q⟩:=h;refine ⟨_,(kD (qB (oZ FO hr rfl mo ko bo .nil (kDO (E:=E) rfl rfl rfl rfl) (kA (pv 0) kB))) (kD zE (kD zE (kD zE (kD zE (kJ zE)))))),?_⟩;refine ⟨_,rfl,t,W,rfl,hW,S,nf,h42,λ d H' sx hd a C t1 T eC ea nT na=>?_⟩;refine q d _ (gQ ea nT sx) (gQ (H:=H') ea nT (λ _ _ _ e=>e) d _ (by simp) hd)
theorem kPU {f:ah} {fd:eO} {k:Nat} {ps:List Str} {sp1 sp2:Sp} (F1:FnOk P w K mg base CX0 k f fd ps sp1) (F2:FnOk P w K mg base (CXo P w) k f fd ps sp2):FnOk P w K mg base (CXo P w) k f fd ps (λ vs H Q E=>sp1 vs H Q E\/sp2 vs H Q E):=by
 refine ⟨λ vs H Q E h=>h.elim (F1.len vs H Q E) (F2.len vs H Q E),λ A outer s H args us vs Q E hr he hb hv hs=>?_⟩;rcases hs with hs | hs
 ·refine xv (F1.run A outer s H args us vs Q E hr he hb hv hs) λ r s' hq=>?_
  cases r with
  | ok c=>cases c<;>exact hq
  | error e=>exact hq.elim
 ·exact F2.run A outer s H args us vs Q E hr he hb hv hs
def XE (CN:ah) (Q:VK):XK:=λ cls dx H'=>∃ d y,cls=.ref CN/\dx=some d/\H' d=some (.xd [("faces",y)])/\∀ H'' p,SameX H' H''->H'' p=some (.tup [.int 4,y])->Q (.ref p) H''
def oK:Sp:=λ vs H Q _=>cT vs H Q E0\/∃ (t:ah) (W:Rows),vs=[.ref t]/\WebAt H t W/\Nb W/\¬ Fc.Flat W/\W.length<=42/\∀ H' p,SameX H H'->H' p=some (.tup [.int 4,.int ((Fc.facesS W).length:Nat)])->Q (.ref p) H'
theorem kEH:∀ (vs:List V) (H:Hp) (Q Q':VK) (E E':XK),(∀ v H',Q v H'->Q' v H')->cT vs H Q E->cT vs H Q' E':=by
 rintro vs H Q Q' E E' mo ⟨t,W,e,h1,h2,h3,h4,h5,k⟩;exact ⟨t,W,e,h1,h2,h3,h4,h5,λ z x l X T H' f1 f2 f3 f4 f5 f6 f7 f8 f9 f10=>mo _ _ (k z x l X T H' f1 f2 f3 f4 f5 f6 f7 f8 f9 f10)⟩
theorem pN {f o:ah} {fd od:eO} {D CN:ah} {G:Str->ah} (F:Fun K "_law_asked" "_law_asked" yL f fd) (uR:kHT P w K mg base "_law_known" ["_law_e"] 2 (oH K G)) (g_D:mg "DrawError" = some (.ref D)) (GD:Ex.XK0 K D)
  (ht:Br K (.ref D) (.type "tuple")=some false) (FO:FnOk P w K mg base (CXo P w) 6 o od ["web"] (λ vs H Q E=>cT vs H Q E\/fN CN vs H Q E)) (bo:Binds K od ["web"] []) (ko:bj K (.ref o)=true) (mo:mg "filled" = some (.ref o))
  (xN:Ex.XK0 K CN) (kN:Kd K G CN 4) (rN:md K CN (.ref D)=some true) (nN:gx K (.ref CN) "faces" = some none) :
  FnOk P w K mg base CX0 7 f fd ["_law_web_here"] (oK):=by
 refine F.ok sc_law_asked (λ vs H Q E h=>?_) (λ cdv A outer s H vs Q E hr h=>?_)
 ·rcases h with ⟨t,W,rfl,_⟩ | ⟨t,W,rfl,_⟩<;>rfl
 obtain ⟨a,ea⟩ : ∃ a,vs=[.ref a]:=by
  rcases h with ⟨t,W,e,_⟩ | ⟨t,W,e,_⟩<;>exact ⟨t,e⟩
 subst ea
 refine ⟨_,(kD (kT (i:=1) sc_law_asked.nd rfl (cz rfl) kAF)
  (kD (kLQ (i:=2) (E:=XE CN Q) sc_law_asked.nd rfl rfl rfl g_D GD ht rfl rfl
   (λ pins E' hp=>kJ (kT (i:=1) sc_law_asked.nd rfl (cz rfl) (oZ FO hr rfl mo ko bo .nil hp (kA (pv 0) kB))))
   (λ a=>kJ (kT (i:=1) sc_law_asked.nd rfl (cz rfl) (kBW uR ((hr.n.mark _).mono (by decide)) rfl (kA (pv 2) kB)))))
  (kJ (kW (pv 1))))),?_⟩
 refine ⟨⟨_,rfl,?_⟩,λ σ' H' e C dx T hl hE xa hT=>?_⟩
 ·dsimp only [tP,vj,sj]
  rcases h with h | ⟨t,W,et,hW,S,nf,h42,q⟩
  ·exact .inl (kEH _ _ Q _ _ _ (λ v H' z=>⟨_,rfl,z⟩) h)
  ·exact .inr ⟨t,W,et,hW,S,nf,h42,λ d H' sx hd=>⟨d,_,rfl,rfl,hd,λ H2 p s2 e2=>q H2 p (sx.trans s2) e2⟩⟩
 obtain ⟨d,y,eC,rfl,hd,q⟩:=hE;cases eC
 obtain ⟨w0,w1,w2,rfl⟩ : ∃ w0 w1 w2,σ'=[w0,w1,w2]:=by
  match σ',hl with
  | [w0,w1,w2],_=>exact ⟨_,_,_,rfl⟩
 refine ⟨xN,rN,λ T' nT na=>?_⟩;have st:SameX H' (tr2 H' e CN (some d) T'):=gQ xa.1 nT λ _ _ _ e=>e;exact ⟨_,rfl,e,CN,d,_,y,rfl,kC,xN,kN,st _ _ (by simp) hd,nN,λ H2 p s2 e2=>⟨_,rfl,q H2 p (λ b o ne eb=>s2 b o (st b o ne eb)) e2⟩⟩
theorem kDK {W:Rows} (S:Nb W) (three:∀ t∈kK W,(nxt W (nxt W t)).2=t.1):∀ u∈kK W,(Fc.rnd W u).length=3:=λ u hu=>by
 obtain ⟨p,q⟩:=u;have h:=mem_steps.mp hu;have ne:p≠q:=λ z=>(S.e h).2.2 z.symm;obtain ⟨s,r1,n1,e1⟩:=wU S h;have t1:=three _ hu;have t2:=three (q,s) (mem_steps.mpr e1);rw [n1] at t1;have n2:nxt W (q,s)=(s,p):=vi rfl t1;rw [n2] at t2;have n3:nxt W (s,p)=(p,q):=vi rfl t2;rw [Fc.rnd_len];refine Fc.per_is (by omega) ?_ λ j j0 j3=>?_
 ·show nxt W (nxt W (nxt W (p,q)))=_
  rw [n1,n2,n3]
 ·rcases (by omega:j=1\/j=2) with rfl | rfl
  ·show nxt W (p,q)≠_
   rw [n1];exact λ z=>ne (congrArg wu z).symm
  ·show nxt W (nxt W (p,q))≠_
   rw [n1,n2];exact λ z=>ne (congrArg EB z)
def tJ (x y:Int):AR:=.tuple [.int x,.int y]
theorem kFA (x y:Int):qx (tJ x y)=true:=by
 first | rfl | simp [tJ,qx,EJ,oh,FH,Di]
theorem kHX (x y:Int):qf (tJ x y) (tJ x y)=true:=by simp [tJ,qf,Ez]
theorem kHG {H:Hp} {z:ah} {x y:Int} (h:H z=some (.tup [.int x,.int y])):Dt K H (tJ x y) (.ref z):=by
 unfold tJ Dt;exact ⟨z,_,rfl,SqT.of h,by simp only [DtAll,Dt];exact ⟨_,_,rfl,rfl,_,_,rfl,rfl,rfl⟩⟩
theorem rR:∀ W:Rows,(W.map λ r=>(r.length:Int)).sum=(((W.map iP).sum:Nat):Int)
 | []=>rfl
 | r::W=>by
  rw [iW,iW,AV,AV,rR W];omega
theorem kMA {f:ah} {fd:eO} (F:Fun K "law" "law" bH f fd) (uU:Own.Has P w K mg base "_law_drawn" ["_law_pot_here"] 4 (cU)) (dL:Own.Has P w K mg base "_law_pot" ["_law_script","_law_k"] 1 (kFM K)) (uT:Own.Has P w K mg base "_law_faces" ["_law_web_here"] 2 (oJ)) (uV:Own.Has P w K mg base "_law_asked" ["_law_web_here"] 7 (oK)) (xL:Own.Has P w K mg base "is_flat" ["web"] 4 (gN)) (zC:Own.Has P w K mg base "_law_three_each" ["_law_web_here"] 2 (gG)) (z_range:mg "range" = none) (z_max:mg "max" = none) (z_min:mg "min" = none) (z_len:mg "len" = none) (z_sum:mg "sum" = none) (z_isinstance:mg "isinstance" = none) (z_bool:mg "bool" = none) (z_list:mg "list" = none) (z_tuple:mg "tuple" = none):FnOk P w K mg base CX0 8 f fd ["_law_script"] (kBP K):=by
 refine F.ok sc_law (λ vs H Q E h=>?_) (λ cdv A outer s H vs Q E hr h=>?_)
 ·obtain ⟨a,ns,rfl,_⟩:=h
  rfl
 obtain ⟨a,ns,rfl,hS,h63,q⟩:=h
 refine ⟨_,(kD (xP gj rfl (jJ rfl z_range (kA (kL (nW rfl) rfl z_max Bi (kA kO (kA (kL (kET rfl) rfl z_min va (kA kO (kA (kL kQ rfl z_len fe (kA (pv 0) kB)) kB))) kB))) kB)) (kM (i:=1) sc_law.nd rfl (cz rfl)) (kD (kT (i:=2) sc_law.nd rfl (cz rfl) (Own.pe_has uU (hr.mono (by decide)) rfl (kA (Own.pe_has dL (hr.mono (by decide)) rfl (kA (pv 0) (kA (pv 1) kB))) kB)))
   (kD (kT (i:=3) sc_law.nd rfl (cz rfl) (Own.pe_has uT (hr.mono (by decide)) rfl (kA (pv 2) kB)))
   (kD (kT (i:=4) sc_law.nd rfl (cz rfl) (Own.pe_has uV (hr.mono (by decide)) rfl (kA (pv 2) kB)))
   (kD (kT (i:=5) sc_law.nd rfl (cz rfl) (bN mX (qC Own.op_mulW kO (qC jM (kL kQ rfl z_len fe (kA (pv 2) kB)) (pv 3))) (qC jM kO (kL (kER rfl) rfl z_sum FN (kA (bM (Nc:=["_law_row"]) (js:=[none]) rfl rfl (gW (pv 2)) (CS.of rfl rfl) rfl (λ C s₂ H₂ fp pins=>(kM (i:=0) (show iw (α:=Str) ["_law_row"] by decide +kernel) rfl (cz rfl))) (λ C s₂ H₂ fp pins D L=>(xT (zO (kL (show xW _ _ (λ xs H Q=>∃ p ys,xs=[.ref p]/\(SqL K H p ys\/SqT K H p ys)/\Q (.int ys.length) H) from kQ) rfl z_len fe (kA (pv 0) kB)))))) kB))) (qZ _)))
   (kD (yT (PW.pt (mV (qI gY (Own.pe_has xL (hr.mono (by decide)) rfl (kA (pv 2) kB)) (pv 5) (qZ _)) (cZ (PW.pt (uG (uH (yS (pv 5))) (vR (PW.pt (mV (qI (kAH hr.units) (pv 4) (jK (kA kO (kA (pv 3) kB))) (qZ _)) (cZ (yS (kL Own.call_isi rfl z_isinstance ck (kA (qA jF (pv 4) kO (λ _ _=>rfl)) (kA (fS (v:=.ty "bool") rfl z_bool FJ rfl) kB))))))))))))) (kJ (kW uJ)) qX)
   (kD (yT (PW.pt (uG (yS (pv 5)) (vR (PW.pt (mV (uH (yS (kL Own.call_isi rfl z_isinstance ck (kA (pv 4) (kA (fS (v:=.ty "tuple") rfl z_tuple jf rfl) kB))))) (cZ (uH (yS (kL Own.call_isi rfl z_isinstance ck (kA (qA jF (pv 4) kO (λ _ _=>rfl)) (kA (fS (v:=.ty "list") rfl z_list um rfl) kB))))))))))) (kJ (kW uJ)) qX)
   (kJ (yT (PW.pt (uG (yS (pv 5)) (vR (uH (yS (Own.pe_has zC (hr.mono (by decide)) rfl (kA (qA jF (pv 4) kO (λ _ _=>rfl)) kB))))))) (kJ (kW uJ)) qX)))))))))
   (kJ (kW uJ))),?_⟩
 have hl:(ns.map V.int).length=ns.length:=aj _;refine ⟨_,rfl,a,_,rfl,.inl hS,8,_,rfl,1,_,rfl,?_⟩;rw [hl];generalize hj:(if (if ((ns.length:Int))<8 then (ns.length:Int) else 8)>1 then (if ((ns.length:Int))<8 then (ns.length:Int) else 8) else 1)=j;have j0:0<=j:=by rw [<-hj];split<;>omega
 have j1:j<=63:=by
  rw [<-hj]
  split
  ·split<;>omega
  ·omega
 refine ⟨j,rfl,by omega,by omega,jX (lo:=0) (n:=j.toNat) (λ i σ H2=>∃ (x1 x2 x3 x4 x5:Option V),σ=[some (.ref a),x1,x2,x3,x4,x5]/\SameX H H2)
  ⟨none,none,none,none,none,rfl,λ _ _ _ e=>e⟩ ?_ ?_⟩
 ·rintro i σ H2 hi ⟨x1,x2,x3,x4,x5,rfl,g⟩
  refine ⟨_,rfl,_,rfl,a,ns,_,rfl,g.seq hS,h63,(by omega),(by omega),λ p x y H3 hx g3 hn hp=>?_⟩;refine ⟨p,rfl,⟨x,y,hp,hx⟩,λ t W H4 s4 p4 hW G can l26=>?_⟩;have S:=G.toNb
  have g4:SameX H H4:=λ b o ne e=>by
   have e2:=g b o ne e;exact s4 b o (kF e2 hn) (g3 _ _ e2)
  refine ⟨_,rfl,t,W,rfl,hW,S,by omega,λ H5 g5=>?_⟩;have g05:=g4.trans (oQ g5);have hW5:=hW.kept g5;obtain ⟨ts,t1,lts,t3⟩:=id hW5;have tl:=Fc.ties_len S;have few:=jQ S (show W.length<=42 by omega);have ff:=nQ S (show W.length<=42 by omega);have sl:=qQ W
  have bnd:∀ r∈W.map (λ r=>(r.length:Int)),-(2 ^ 40)<=r/\r<=2 ^ 40:=λ r hr=>by
   obtain ⟨row,hrow,rfl⟩:=gi.mp hr;obtain ⟨k',hk',rfl⟩:=ft.mp hrow;have:=S.len (aa hk');constructor<;>omega
  have eF:(V.int (2*((((ts.map V.ref).length:Nat):Int)+((Fc.facesS W).length:Nat)))=V.int (4+(W.map λ r=>(r.length:Int)).sum))↔Fc.Flat W:=by
   rw [rR,<-sl,aj,lts];unfold Fc.Flat;constructor
   ·intro z
    have:=V.int.inj z;omega
   ·intro z
    congr 1
    omega
  by_cases fl:Fc.Flat W
  ·refine ⟨_,rfl,.inl ⟨t,W,rfl,hW5,G,fl,can,by omega,λ z x' l X T H6 g6 hz hX pl nl GX fX PX oX _=>?_⟩⟩
   have t16:=g6 _ _ t1;refine ⟨_,rfl,t,_,rfl,.inr (SqT.of t16),_,rfl,_,_,rfl,rfl,_,_,rfl,rfl,⟨xU (by decide),xU (eP (m:=10000) (by rw [aj];omega) (by decide))⟩,?_⟩;refine ⟨_,rfl,t,rfl,⟨_,SqT.of t16⟩,λ D nD=>?_⟩;refine aX (xs:=ts.map V.ref) (λ i σ H7=>∃ (x0:Option V),σ=[x0]/\Same H6 H7/\H7 D=some (.lst (((W.take i).map λ r=>(r.length:Int)).map V.int))) ⟨none,rfl,kI nD _,kC⟩ ?_ ?_ ?_
   ·rintro i σ H7 _ ⟨x0,rfl,g7,_⟩
    exact SqT.of (g7 _ _ t16)
   ·rintro i v σ H7 hv ⟨x0,rfl,g7,hD⟩
    rw [bg] at hv;obtain ⟨b,eb,rfl⟩:=eQ.mp hv;have hi:i<W.length:=by rw [<-lts];exact (ag.mp eb).1
    have et:=aa hi;have hb:=g7 _ _ (g6 _ _ (t3 i b _ eb et));refine ⟨_,rfl,b,_,rfl,.inr (SqT.of hb),_,hD,(by rw [aj,aj,fb];exact qJ (by omega)),?_⟩;refine ⟨_,rfl,qK nD g7,?_⟩;rw [oq,et,xj,gq,gq,aj];exact kC
   rintro σ H7 ⟨x0,rfl,g7,hD⟩;rw [aj,lts,ig] at hD;refine ⟨D,_,rfl,SqL.of hD,(by rw [aj];omega),bnd,_,_,rfl,rfl,rfl,?_⟩;rw [decide_eq_true (eF.mpr fl)];have g67:=g6.trans g7;refine ⟨_,rfl,t,W,rfl,hW5.kept g67,S,by omega,λ H8 g8=>⟨_,rfl,?_⟩⟩;rw [decide_eq_true (show W.length+(Fc.facesS W).length=(Fc.tiesS W).length+2 from fl)];refine ⟨rfl,_,rfl,?_⟩;rw [show (!decide (V.bl true=V.bl true))=false by simp];refine xB ⟨_,rfl,_,rfl,xB (xB ?_)⟩;have g68:=g67.trans g8;have hz8:=(g7.trans g8) _ _ hz;obtain ⟨ls,l1,_⟩:=id pl;have hl8:=(g7.trans g8) _ _ l1;refine ⟨_,rfl,_,rfl,uN ?_⟩;refine ⟨_,rfl,_,_,_,_,rfl,.tup hz8,rfl,_,rfl,xB ?_⟩;refine ⟨_,rfl,z,_,_,_,rfl,rfl,SqT.of hz8,xY (j:=1) rfl,_,_,_,_,rfl,.lst hl8,rfl,_,rfl,xB ?_⟩;have three:=((Fc.three_cornered GX.toNb).mp ⟨fX,Fc.odd_none oX⟩).1;have lX:X.length=W.length:=PX.len;refine ⟨_,rfl,_,rfl,uN ⟨_,rfl,z,_,_,_,rfl,rfl,SqT.of hz8,xY (j:=0) rfl,x',X,rfl,hX.kept (g7.trans g8),GX.toNb,by omega,kDK GX.toNb three,λ H9 g9=>⟨_,rfl,xB ?_⟩⟩⟩;exact ⟨_,_,_,_,_,rfl,g05.trans (oQ (g68.trans g9))⟩
  ·refine ⟨_,rfl,.inr ⟨t,W,rfl,hW5,S,fl,by omega,λ H6 z g6 hz=>?_⟩⟩
   have t16:=g6 _ _ (by simp) t1;have hW6:WebAt H6 t W:=hW5.keptX g6;refine ⟨_,rfl,t,_,rfl,.inr (SqT.of t16),_,rfl,_,_,rfl,rfl,_,_,rfl,rfl,⟨xU (by decide),xU (eP (m:=10000) (by rw [aj];omega) (by decide))⟩,?_⟩;refine ⟨_,rfl,t,rfl,⟨_,SqT.of t16⟩,λ D nD=>?_⟩;refine aX (xs:=ts.map V.ref) (λ i σ H7=>∃ (x0:Option V),σ=[x0]/\Same H6 H7/\H7 D=some (.lst (((W.take i).map λ r=>(r.length:Int)).map V.int))) ⟨none,rfl,kI nD _,kC⟩ ?_ ?_ ?_
   ·rintro i σ H7 _ ⟨x0,rfl,g7,_⟩
    exact SqT.of (g7 _ _ t16)
   ·rintro i v σ H7 hv ⟨x0,rfl,g7,hD⟩
    rw [bg] at hv;obtain ⟨b,eb,rfl⟩:=eQ.mp hv;have hi:i<W.length:=by rw [<-lts];exact (ag.mp eb).1
    have et:=aa hi;have hb:=g7 _ _ (g6 _ _ (by simp) (t3 i b _ eb et));refine ⟨_,rfl,b,_,rfl,.inr (SqT.of hb),_,hD,(by rw [aj,aj,fb];exact qJ (by omega)),?_⟩;refine ⟨_,rfl,qK nD g7,?_⟩;rw [oq,et,xj,gq,gq,aj];exact kC
   rintro σ H7 ⟨x0,rfl,g7,hD⟩;rw [aj,lts,ig] at hD;refine ⟨D,_,rfl,SqL.of hD,(by rw [aj];omega),bnd,_,_,rfl,rfl,rfl,?_⟩;rw [decide_eq_false (λ z=>fl (eF.mp z))];refine ⟨_,rfl,t,W,rfl,hW6.kept g7,S,by omega,λ H8 g8=>⟨_,rfl,?_⟩⟩;rw [decide_eq_false (show ¬ (W.length+(Fc.facesS W).length=(Fc.tiesS W).length+2) from fl)];refine ⟨rfl,_,rfl,?_⟩;rw [show (!decide (V.bl false=V.bl false))=false by simp];refine xB ⟨_,rfl,_,rfl,uN ?_⟩;have g68:=g7.trans g8;have hz8:=g68 _ _ hz;refine ⟨_,rfl,_,rfl,yS2,λ p2 n2=>?_⟩;have g9:=kI n2 (.tup [.int 4,.int ((Fc.facesS W).length:Nat)]);refine ⟨_,_,kHG (g9 _ _ hz8),kHG kC,kFA _ _,kFA _ _,_,rfl,?_⟩;rw [kHX];refine xB ?_;refine ⟨_,rfl,z,_,_,_,rfl,rfl,SqT.of (g9 _ _ hz8),xY (j:=1) rfl,_,_,_,_,rfl,.int _,rfl,_,rfl,xB ?_⟩;refine ⟨_,rfl,_,rfl,xB (xB ?_)⟩;refine ⟨_,rfl,_,rfl,xB (xB ?_)⟩;exact ⟨_,_,_,_,_,rfl,g05.trans (g6.trans (oQ (g68.trans g9)))⟩
 ·rintro σ H2 ⟨x1,x2,x3,x4,x5,rfl,g⟩
  exact q H2
end
theorem kKP (D:ah):([.ref D,.type "ValueError",.type "Exception",.type "BaseException",.type "object"]:List af).contains (.type "BaseException")=true/\([.ref D,.type "ValueError",.type "Exception",.type "BaseException",.type "object"]:List af).contains (.type "object")=true:=by
 constructor<;>(rw [ph];first | rfl | simp)
theorem kGS {K:au} {nm q:Str} {C N:ah} {bs bm:List af} {hdct:Bool} {sn:List Str} {sub:List af} {ab:Bool} {col:Option Bool} {dd:Option ah} {k0 k1 k2 k3 k5:Option af} {i:String}
  (l:K.lookup C=some (excClassObj nm q C N bs bm hdct sn sub ab col dd k0 k1 k2 k3 k5 i)):dq K C=true:=by
 unfold dq PySem.W.clsIn;rw [l]
 rfl
def GGf (g_NoFace g_Doubled g_NoTie g_Parted g_NotFlat g_NotTied g_NotCornered g_NoRim g_NoCorners g_NoBase g_NoOrder g_NoWoods g_NoWeights g_NoText g_Alike g_Folded:ah) (c:Str):ah:=(Bn c (sorts.zip [g_NoFace,g_Doubled,g_NoTie,g_Parted,g_NotFlat,g_NotTied,g_NotCornered,g_NoRim,g_NoCorners,g_NoBase,g_NoOrder,g_NoWoods,g_NoWeights,g_NoText,g_Alike,g_Folded])).getD 0
theorem kOU {mg:Str->Option af} {g_NoFace g_Doubled g_NoTie g_Parted g_NotFlat g_NotTied g_NotCornered g_NoRim g_NoCorners g_NoBase g_NoOrder g_NoWoods g_NoWeights g_NoText g_Alike g_Folded:ah} (m_NoFace:mg "NoFace" = some (.ref g_NoFace)) (m_Doubled:mg "Doubled" = some (.ref g_Doubled)) (m_NoTie:mg "NoTie" = some (.ref g_NoTie)) (m_Parted:mg "Parted" = some (.ref g_Parted)) (m_NotFlat:mg "NotFlat" = some (.ref g_NotFlat)) (m_NotTied:mg "NotTied" = some (.ref g_NotTied)) (m_NotCornered:mg "NotCornered" = some (.ref g_NotCornered)) (m_NoRim:mg "NoRim" = some (.ref g_NoRim)) (m_NoCorners:mg "NoCorners" = some (.ref g_NoCorners)) (m_NoBase:mg "NoBase" = some (.ref g_NoBase)) (m_NoOrder:mg "NoOrder" = some (.ref g_NoOrder)) (m_NoWoods:mg "NoWoods" = some (.ref g_NoWoods)) (m_NoWeights:mg "NoWeights" = some (.ref g_NoWeights)) (m_NoText:mg "NoText" = some (.ref g_NoText)) (m_Alike:mg "Alike" = some (.ref g_Alike)) (m_Folded:mg "Folded" = some (.ref g_Folded)):∀ c:Str,c∈sorts->mg c=some (.ref (GGf g_NoFace g_Doubled g_NoTie g_Parted g_NotFlat g_NotTied g_NotCornered g_NoRim g_NoCorners g_NoBase g_NoOrder g_NoWoods g_NoWeights g_NoText g_Alike g_Folded c)):=by
 intro c hc;unfold sorts at hc;simp only [gv,yv,or_false] at hc;rcases hc with rfl | rfl | rfl | rfl | rfl | rfl | rfl | rfl | rfl | rfl | rfl | rfl | rfl | rfl | rfl | rfl
 ·exact m_NoFace
 ·exact m_Doubled
 ·exact m_NoTie
 ·exact m_Parted
 ·exact m_NotFlat
 ·exact m_NotTied
 ·exact m_NotCornered
 ·exact m_NoRim
 ·exact m_NoCorners
 ·exact m_NoBase
 ·exact m_NoOrder
 ·exact m_NoWoods
 ·exact m_NoWeights
 ·exact m_NoText
 ·exact m_Alike
 ·exact m_Folded
theorem kAW {K:au} {g_NoFace g_Doubled g_NoTie g_Parted g_NotFlat g_NotTied g_NotCornered g_NoRim g_NoCorners g_NoBase g_NoOrder g_NoWoods g_NoWeights g_NoText g_Alike g_Folded:ah} (c_NoFace:dq K g_NoFace=true) (t_NoFace:dn K (.ref g_NoFace)=some (.type "type")) (s_NoFace:eR K (.ref g_NotFlat) (.ref g_NoFace)=some false) (c_Doubled:dq K g_Doubled=true) (t_Doubled:dn K (.ref g_Doubled)=some (.type "type")) (s_Doubled:eR K (.ref g_NotFlat) (.ref g_Doubled)=some false) (c_NoTie:dq K g_NoTie=true) (t_NoTie:dn K (.ref g_NoTie)=some (.type "type")) (s_NoTie:eR K (.ref g_NotFlat) (.ref g_NoTie)=some false) (c_Parted:dq K g_Parted=true) (t_Parted:dn K (.ref g_Parted)=some (.type "type")) (s_Parted:eR K (.ref g_NotFlat) (.ref g_Parted)=some false) (c_NotFlat:dq K g_NotFlat=true) (t_NotFlat:dn K (.ref g_NotFlat)=some (.type "type")) (s_NotFlat:eR K (.ref g_NotFlat) (.ref g_NotFlat)=some true) (c_NotTied:dq K g_NotTied=true) (t_NotTied:dn K (.ref g_NotTied)=some (.type "type")) (s_NotTied:eR K (.ref g_NotFlat) (.ref g_NotTied)=some false) (c_NotCornered:dq K g_NotCornered=true) (t_NotCornered:dn K (.ref g_NotCornered)=some (.type "type")) (s_NotCornered:eR K (.ref g_NotFlat) (.ref g_NotCornered)=some false) (c_NoRim:dq K g_NoRim=true) (t_NoRim:dn K (.ref g_NoRim)=some (.type "type")) (s_NoRim:eR K (.ref g_NotFlat) (.ref g_NoRim)=some false) (c_NoCorners:dq K g_NoCorners=true) (t_NoCorners:dn K (.ref g_NoCorners)=some (.type "type")) (s_NoCorners:eR K (.ref g_NotFlat) (.ref g_NoCorners)=some false) (c_NoBase:dq K g_NoBase=true) (t_NoBase:dn K (.ref g_NoBase)=some (.type "type")) (s_NoBase:eR K (.ref g_NotFlat) (.ref g_NoBase)=some false) (c_NoOrder:dq K g_NoOrder=true) (t_NoOrder:dn K (.ref g_NoOrder)=some (.type "type")) (s_NoOrder:eR K (.ref g_NotFlat) (.ref g_NoOrder)=some false) (c_NoWoods:dq K g_NoWoods=true) (t_NoWoods:dn K (.ref g_NoWoods)=some (.type "type")) (s_NoWoods:eR K (.ref g_NotFlat) (.ref g_NoWoods)=some false) (c_NoWeights:dq K g_NoWeights=true) (t_NoWeights:dn K (.ref g_NoWeights)=some (.type "type")) (s_NoWeights:eR K (.ref g_NotFlat) (.ref g_NoWeights)=some false) (c_NoText:dq K g_NoText=true) (t_NoText:dn K (.ref g_NoText)=some (.type "type")) (s_NoText:eR K (.ref g_NotFlat) (.ref g_NoText)=some false) (c_Alike:dq K g_Alike=true) (t_Alike:dn K (.ref g_Alike)=some (.type "type")) (s_Alike:eR K (.ref g_NotFlat) (.ref g_Alike)=some false) (c_Folded:dq K g_Folded=true) (t_Folded:dn K (.ref g_Folded)=some (.type "type")) (s_Folded:eR K (.ref g_NotFlat) (.ref g_Folded)=some false) (sv:eR K (.ref g_NotFlat) (.type "ValueError")=some true):Kd K (GGf g_NoFace g_Doubled g_NoTie g_Parted g_NotFlat g_NotTied g_NotCornered g_NoRim g_NoCorners g_NoBase g_NoOrder g_NoWoods g_NoWeights g_NoText g_Alike g_Folded) g_NotFlat 4:=by
 refine ⟨λ i c e=>?_,kMJ sv,by decide⟩
 match i,e with
 | 0,e=>cases e;exact xR c_NoFace t_NoFace s_NoFace (λ z=>(by have z2:g_NotFlat=g_NoFace:=z;have z1:=s_NoFace;rw [<-z2,s_NotFlat] at z1;cases z1))
 | 1,e=>cases e;exact xR c_Doubled t_Doubled s_Doubled (λ z=>(by have z2:g_NotFlat=g_Doubled:=z;have z1:=s_Doubled;rw [<-z2,s_NotFlat] at z1;cases z1))
 | 2,e=>cases e;exact xR c_NoTie t_NoTie s_NoTie (λ z=>(by have z2:g_NotFlat=g_NoTie:=z;have z1:=s_NoTie;rw [<-z2,s_NotFlat] at z1;cases z1))
 | 3,e=>cases e;exact xR c_Parted t_Parted s_Parted (λ z=>(by have z2:g_NotFlat=g_Parted:=z;have z1:=s_Parted;rw [<-z2,s_NotFlat] at z1;cases z1))
 | 4,e=>cases e;exact xR c_NotFlat t_NotFlat s_NotFlat (λ _=>rfl)
 | 5,e=>cases e;exact xR c_NotTied t_NotTied s_NotTied (λ z=>(by have z2:g_NotFlat=g_NotTied:=z;have z1:=s_NotTied;rw [<-z2,s_NotFlat] at z1;cases z1))
 | 6,e=>cases e;exact xR c_NotCornered t_NotCornered s_NotCornered (λ z=>(by have z2:g_NotFlat=g_NotCornered:=z;have z1:=s_NotCornered;rw [<-z2,s_NotFlat] at z1;cases z1))
 | 7,e=>cases e;exact xR c_NoRim t_NoRim s_NoRim (λ z=>(by have z2:g_NotFlat=g_NoRim:=z;have z1:=s_NoRim;rw [<-z2,s_NotFlat] at z1;cases z1))
 | 8,e=>cases e;exact xR c_NoCorners t_NoCorners s_NoCorners (λ z=>(by have z2:g_NotFlat=g_NoCorners:=z;have z1:=s_NoCorners;rw [<-z2,s_NotFlat] at z1;cases z1))
 | 9,e=>cases e;exact xR c_NoBase t_NoBase s_NoBase (λ z=>(by have z2:g_NotFlat=g_NoBase:=z;have z1:=s_NoBase;rw [<-z2,s_NotFlat] at z1;cases z1))
 | 10,e=>cases e;exact xR c_NoOrder t_NoOrder s_NoOrder (λ z=>(by have z2:g_NotFlat=g_NoOrder:=z;have z1:=s_NoOrder;rw [<-z2,s_NotFlat] at z1;cases z1))
 | 11,e=>cases e;exact xR c_NoWoods t_NoWoods s_NoWoods (λ z=>(by have z2:g_NotFlat=g_NoWoods:=z;have z1:=s_NoWoods;rw [<-z2,s_NotFlat] at z1;cases z1))
 | 12,e=>cases e;exact xR c_NoWeights t_NoWeights s_NoWeights (λ z=>(by have z2:g_NotFlat=g_NoWeights:=z;have z1:=s_NoWeights;rw [<-z2,s_NotFlat] at z1;cases z1))
 | 13,e=>cases e;exact xR c_NoText t_NoText s_NoText (λ z=>(by have z2:g_NotFlat=g_NoText:=z;have z1:=s_NoText;rw [<-z2,s_NotFlat] at z1;cases z1))
 | 14,e=>cases e;exact xR c_Alike t_Alike s_Alike (λ z=>(by have z2:g_NotFlat=g_Alike:=z;have z1:=s_Alike;rw [<-z2,s_NotFlat] at z1;cases z1))
 | 15,e=>cases e;exact xR c_Folded t_Folded s_Folded (λ z=>(by have z2:g_NotFlat=g_Folded:=z;have z1:=s_Folded;rw [<-z2,s_NotFlat] at z1;cases z1))
 | n+16,e=>exact absurd e (by simp [sorts])
theorem zP {α:Type} {n:Nat} {us:List α} (hn:n=1) (h:us.length=n):∃ x0:α,us=[x0]:=by
 subst hn
 match us,h with
 | [x0],_=>exact ⟨_,rfl⟩
theorem wJ {α:Type} {n:Nat} {us:List α} (hn:n=2) (h:us.length=n):∃ x0 x1:α,us=[x0,x1]:=by
 subst hn
 match us,h with
 | [x0,x1],_=>exact ⟨_,_,rfl⟩
theorem lK {α:Type} {n:Nat} {us:List α} (hn:n=3) (h:us.length=n):∃ x0 x1 x2:α,us=[x0,x1,x2]:=by
 subst hn
 match us,h with
 | [x0,x1,x2],_=>exact ⟨_,_,_,rfl⟩
theorem kKH {α:Type} {n:Nat} {us:List α} (hn:n=4) (h:us.length=n):∃ x0 x1 x2 x3:α,us=[x0,x1,x2,x3]:=by
 subst hn
 match us,h with
 | [x0,x1,x2,x3],_=>exact ⟨_,_,_,_,rfl⟩
theorem all_mk {l:BW} {w:gk} {K:au} {h:gw} {mg:Str->Option af} {fa f1 f2 f3 f4 f5 f6 f7 f8 f9 f10 f11 f12 f13 f14 f15 f16 f17 f18 f19 f20 f21 f22 f23 f24 f25 f26 f27 f28 f29 f30 f31 f32 f33 f34 f35 f36 f37 f38 f39:ah} {C_DrawError N_DrawError F_DrawError:ah} {nm_DrawError qn_DrawError:Str} {bs_DrawError sub_DrawError:List af} {sn_DrawError:List Str} {ab_DrawError:Bool} {col_DrawError:Option Bool} {dd_DrawError:Option ah} {x0_DrawError x1_DrawError x2_DrawError x3_DrawError x5_DrawError:Option af} {oc_DrawError kV_DrawError dc_DrawError pm_DrawError cd_DrawError ct_DrawError:af} {od_DrawError an_DrawError:Option ah} {sl_DrawError:Array (Option af)} {C_NotFlat N_NotFlat F_NotFlat:ah} {nm_NotFlat qn_NotFlat:Str} {bs_NotFlat sub_NotFlat:List af} {sn_NotFlat:List Str} {ab_NotFlat:Bool} {col_NotFlat:Option Bool} {dd_NotFlat:Option ah} {x0_NotFlat x1_NotFlat x2_NotFlat x3_NotFlat x5_NotFlat:Option af} {oc_NotFlat kV_NotFlat dc_NotFlat pm_NotFlat cd_NotFlat ct_NotFlat:af} {od_NotFlat an_NotFlat:Option ah} {sl_NotFlat:Array (Option af)} {C_NoFace:ah} {C_Doubled:ah} {C_NoTie:ah} {C_Parted:ah} {C_NotTied:ah} {C_NotCornered:ah} {C_NoRim:ah} {C_NoCorners:ah} {C_NoBase:ah} {C_NoOrder:ah} {C_NoWoods:ah} {C_NoWeights:ah} {C_NoText:ah} {C_Alike:ah} {C_Folded:ah} (X:K.In h) (G:h.Ns az mg) (hfa:mg "law" = some (.ref fa))
  {od1 an1 od2 an2 od3 an3 od4 an4 od5 an5 od6 an6 od7 an7 od8 an8 od9 an9 od10 an10 od11 an11 od12 an12 od13 an13 od14 an14 od15 an15 od16 an16 od17 an17 od18 an18 od19 an19 od20 an20 od21 an21 od22 an22 od23 an23 od24 an24 od25 an25 od26 an26 od27 an27 od28 an28 od29 an29 od30 an30 od31 an31 od32 an32 od33 an33 od34 an34 od35 an35 od36 an36 od37 an37 od38 an38 od39 an39:Option ah} {sl1 sl2 sl3 sl4 sl5 sl6 sl7 sl8 sl9 sl10 sl11 sl12 sl13 sl14 sl15 sl16 sl17 sl18 sl19 sl20 sl21 sl22 sl23 sl24 sl25 sl26 sl27 sl28 sl29 sl30 sl31 sl32 sl33 sl34 sl35 sl36 sl37 sl38 sl39:Array (Option af)} {oc1 kV1 dc1 pm1 cd1 ct1 oc2 kV2 dc2 pm2 cd2 ct2 oc3 kV3 dc3 pm3 cd3 ct3 oc4 kV4 dc4 pm4 cd4 ct4 oc5 kV5 dc5 pm5 cd5 ct5 oc6 kV6 dc6 pm6 cd6 ct6 oc7 kV7 dc7 pm7 cd7 ct7 oc8 kV8 dc8 pm8 cd8 ct8 oc9 kV9 dc9 pm9 cd9 ct9 oc10 kV10 dc10 pm10 cd10 ct10 oc11 kV11 dc11 pm11 cd11 ct11 oc12 kV12 dc12 pm12 cd12 ct12 oc13 kV13 dc13 pm13 cd13 ct13 oc14 kV14 dc14 pm14 cd14 ct14 oc15 kV15 dc15 pm15 cd15 ct15 oc16 kV16 dc16 pm16 cd16 ct16 oc17 kV17 dc17 pm17 cd17 ct17 oc18 kV18 dc18 pm18 cd18 ct18 oc19 kV19 dc19 pm19 cd19 ct19 oc20 kV20 dc20 pm20 cd20 ct20 oc21 kV21 dc21 pm21 cd21 ct21 oc22 kV22 dc22 pm22 cd22 ct22 oc23 kV23 dc23 pm23 cd23 ct23 oc24 kV24 dc24 pm24 cd24 ct24 oc25 kV25 dc25 pm25 cd25 ct25 oc26 kV26 dc26 pm26 cd26 ct26 oc27 kV27 dc27 pm27 cd27 ct27 oc28 kV28 dc28 pm28 cd28 ct28 oc29 kV29 dc29 pm29 cd29 ct29 oc30 kV30 dc30 pm30 cd30 ct30 oc31 kV31 dc31 pm31 cd31 ct31 oc32 kV32 dc32 pm32 cd32 ct32 oc33 kV33 dc33 pm33 cd33 ct33 oc34 kV34 dc34 pm34 cd34 ct34 oc35 kV35 dc35 pm35 cd35 ct35 oc36 kV36 dc36 pm36 cd36 ct36 oc37 kV37 dc37 pm37 cd37 ct37 oc38 kV38 dc38 pm38 cd38 ct38 oc39 kV39 dc39 pm39 cd39 ct39:af}
  (a1:bf K az "from_on" = some (some (.ref f1))) (l1:K.lookup f1=some ⟨oc1,od1,.func (cx "from_on" "from_on" (kS wE) (kR wE) (kE wE) .none kV1 dc1 pm1 an1 cd1 ct1),sl1⟩) (c1:cq K cd1 "from_on" = true) (k1:bj K (.ref f1)=true)
  (a2:bf K az "from_least" = some (some (.ref f2))) (l2:K.lookup f2=some ⟨oc2,od2,.func (cx "from_least" "from_least" (kS xJ) (kR xJ) (kE xJ) .none kV2 dc2 pm2 an2 cd2 ct2),sl2⟩) (c2:cq K cd2 "from_least" = true) (k2:bj K (.ref f2)=true)
  (a3:bf K az "steps_of" = some (some (.ref f3))) (l3:K.lookup f3=some ⟨oc3,od3,.func (cx "steps_of" "steps_of" (kS yX) (kR yX) (kE yX) .none kV3 dc3 pm3 an3 cd3 ct3),sl3⟩) (c3:cq K cd3 "steps_of" = true) (k3:bj K (.ref f3)=true)
  (a4:bf K az "ties" = some (some (.ref f4))) (l4:K.lookup f4=some ⟨oc4,od4,.func (cx "ties" "ties" (kS cX) (kR cX) (kE cX) .none kV4 dc4 pm4 an4 cd4 ct4),sl4⟩) (c4:cq K cd4 "ties" = true) (k4:bj K (.ref f4)=true)
  (a5:bf K az "behind" = some (some (.ref f5))) (l5:K.lookup f5=some ⟨oc5,od5,.func (cx "behind" "behind" (kS vF) (kR vF) (kE vF) .none kV5 dc5 pm5 an5 cd5 ct5),sl5⟩) (c5:cq K cd5 "behind" = true) (k5:bj K (.ref f5)=true)
  (a6:bf K az "steps_round" = some (some (.ref f6))) (l6:K.lookup f6=some ⟨oc6,od6,.func (cx "steps_round" "steps_round" (kS jS) (kR jS) (kE jS) .none kV6 dc6 pm6 an6 cd6 ct6),sl6⟩) (c6:cq K cd6 "steps_round" = true) (k6:bj K (.ref f6)=true)
  (a7:bf K az "faces" = some (some (.ref f7))) (l7:K.lookup f7=some ⟨oc7,od7,.func (cx "faces" "faces" (kS aA) (kR aA) (kE aA) .none kV7 dc7 pm7 an7 cd7 ct7),sl7⟩) (c7:cq K cd7 "faces" = true) (k7:bj K (.ref f7)=true)
  (a8:bf K az "is_flat" = some (some (.ref f8))) (l8:K.lookup f8=some ⟨oc8,od8,.func (cx "is_flat" "is_flat" (kS wD) (kR wD) (kE wD) .none kV8 dc8 pm8 an8 cd8 ct8),sl8⟩) (c8:cq K cd8 "is_flat" = true) (k8:bj K (.ref f8)=true)
  (a9:bf K az "must_be_flat" = some (some (.ref f9))) (l9:K.lookup f9=some ⟨oc9,od9,.func (cx "must_be_flat" "must_be_flat" (kS qV) (kR qV) (kE qV) .none kV9 dc9 pm9 an9 cd9 ct9),sl9⟩) (c9:cq K cd9 "must_be_flat" = true) (k9:bj K (.ref f9)=true)
  (a10:bf K az "uncornered_face" = some (some (.ref f10))) (l10:K.lookup f10=some ⟨oc10,od10,.func (cx "uncornered_face" "uncornered_face" (kS qL) (kR qL) (kE qL) .none kV10 dc10 pm10 an10 cd10 ct10),sl10⟩) (c10:cq K cd10 "uncornered_face" = true) (k10:bj K (.ref f10)=true)
  (a11:bf K az "is_step" = some (some (.ref f11))) (l11:K.lookup f11=some ⟨oc11,od11,.func (cx "is_step" "is_step" (kS wC) (kR wC) (kE wC) .none kV11 dc11 pm11 an11 cd11 ct11),sl11⟩) (c11:cq K cd11 "is_step" = true) (k11:bj K (.ref f11)=true)
  (a12:bf K az "with_behind" = some (some (.ref f12))) (l12:K.lookup f12=some ⟨oc12,od12,.func (cx "with_behind" "with_behind" (kS jR) (kR jR) (kE jR) .none kV12 dc12 pm12 an12 cd12 ct12),sl12⟩) (c12:cq K cd12 "with_behind" = true) (k12:bj K (.ref f12)=true)
  (a13:bf K az "put_in" = some (some (.ref f13))) (l13:K.lookup f13=some ⟨oc13,od13,.func (cx "put_in" "put_in" (kS vE) (kR vE) (kE vE) .none kV13 dc13 pm13 an13 cd13 ct13),sl13⟩) (c13:cq K cd13 "put_in" = true) (k13:bj K (.ref f13)=true)
  (a14:bf K az "cut" = some (some (.ref f14))) (l14:K.lookup f14=some ⟨oc14,od14,.func (cx "cut" "cut" (kS mT) (kR mT) (kE mT) .none kV14 dc14 pm14 an14 cd14 ct14),sl14⟩) (c14:cq K cd14 "cut" = true) (k14:bj K (.ref f14)=true)
  (a15:bf K az "filled" = some (some (.ref f15))) (l15:K.lookup f15=some ⟨oc15,od15,.func (cx "filled" "filled" (kS wH) (kR wH) (kE wH) .none kV15 dc15 pm15 an15 cd15 ct15),sl15⟩) (c15:cq K cd15 "filled" = true) (k15:bj K (.ref f15)=true)
  (a16:bf K az "_law_pot" = some (some (.ref f16))) (l16:K.lookup f16=some ⟨oc16,od16,.func (cx "_law_pot" "_law_pot" (kS zZ) (kR zZ) (kE zZ) .none kV16 dc16 pm16 an16 cd16 ct16),sl16⟩) (c16:cq K cd16 "_law_pot" = true) (k16:bj K (.ref f16)=true)
  (a17:bf K az "_law_digit" = some (some (.ref f17))) (l17:K.lookup f17=some ⟨oc17,od17,.func (cx "_law_digit" "_law_digit" (kS yK) (kR yK) (kE yK) .none kV17 dc17 pm17 an17 cd17 ct17),sl17⟩) (c17:cq K cd17 "_law_digit" = true) (k17:bj K (.ref f17)=true)
  (a18:bf K az "_law_ahead" = some (some (.ref f18))) (l18:K.lookup f18=some ⟨oc18,od18,.func (cx "_law_ahead" "_law_ahead" (kS yM) (kR yM) (kE yM) .none kV18 dc18 pm18 an18 cd18 ct18),sl18⟩) (c18:cq K cd18 "_law_ahead" = true) (k18:bj K (.ref f18)=true)
  (a19:bf K az "_law_behind" = some (some (.ref f19))) (l19:K.lookup f19=some ⟨oc19,od19,.func (cx "_law_behind" "_law_behind" (kS xI) (kR xI) (kE xI) .none kV19 dc19 pm19 an19 cd19 ct19),sl19⟩) (c19:cq K cd19 "_law_behind" = true) (k19:bj K (.ref f19)=true)
  (a20:bf K az "_law_add" = some (some (.ref f20))) (l20:K.lookup f20=some ⟨oc20,od20,.func (cx "_law_add" "_law_add" (kS wB) (kR wB) (kE wB) .none kV20 dc20 pm20 an20 cd20 ct20),sl20⟩) (c20:cq K cd20 "_law_add" = true) (k20:bj K (.ref f20)=true)
  (a21:bf K az "_law_flip" = some (some (.ref f21))) (l21:K.lookup f21=some ⟨oc21,od21,.func (cx "_law_flip" "_law_flip" (kS yZ) (kR yZ) (kE yZ) .none kV21 dc21 pm21 an21 cd21 ct21),sl21⟩) (c21:cq K cd21 "_law_flip" = true) (k21:bj K (.ref f21)=true)
  (a22:bf K az "_law_step" = some (some (.ref f22))) (l22:K.lookup f22=some ⟨oc22,od22,.func (cx "_law_step" "_law_step" (kS yY) (kR yY) (kE yY) .none kV22 dc22 pm22 an22 cd22 ct22),sl22⟩) (c22:cq K cd22 "_law_step" = true) (k22:bj K (.ref f22)=true)
  (a23:bf K az "_law_cornered" = some (some (.ref f23))) (l23:K.lookup f23=some ⟨oc23,od23,.func (cx "_law_cornered" "_law_cornered" (kS jH) (kR jH) (kE jH) .none kV23 dc23 pm23 an23 cd23 ct23),sl23⟩) (c23:cq K cd23 "_law_cornered" = true) (k23:bj K (.ref f23)=true)
  (a24:bf K az "_law_hangs" = some (some (.ref f24))) (l24:K.lookup f24=some ⟨oc24,od24,.func (cx "_law_hangs" "_law_hangs" (kS yH) (kR yH) (kE yH) .none kV24 dc24 pm24 an24 cd24 ct24),sl24⟩) (c24:cq K cd24 "_law_hangs" = true) (k24:bj K (.ref f24)=true)
  (a25:bf K az "_law_without" = some (some (.ref f25))) (l25:K.lookup f25=some ⟨oc25,od25,.func (cx "_law_without" "_law_without" (kS jT) (kR jT) (kE jT) .none kV25 dc25 pm25 an25 cd25 ct25),sl25⟩) (c25:cq K cd25 "_law_without" = true) (k25:bj K (.ref f25)=true)
  (a26:bf K az "_law_thinned" = some (some (.ref f26))) (l26:K.lookup f26=some ⟨oc26,od26,.func (cx "_law_thinned" "_law_thinned" (kS jU) (kR jU) (kE jU) .none kV26 dc26 pm26 an26 cd26 ct26),sl26⟩) (c26:cq K cd26 "_law_thinned" = true) (k26:bj K (.ref f26)=true)
  (a27:bf K az "_law_joined" = some (some (.ref f27))) (l27:K.lookup f27=some ⟨oc27,od27,.func (cx "_law_joined" "_law_joined" (kS xH) (kR xH) (kE xH) .none kV27 dc27 pm27 an27 cd27 ct27),sl27⟩) (c27:cq K cd27 "_law_joined" = true) (k27:bj K (.ref f27)=true)
  (a28:bf K az "_law_any" = some (some (.ref f28))) (l28:K.lookup f28=some ⟨oc28,od28,.func (cx "_law_any" "_law_any" (kS wA) (kR wA) (kE wA) .none kV28 dc28 pm28 an28 cd28 ct28),sl28⟩) (c28:cq K cd28 "_law_any" = true) (k28:bj K (.ref f28)=true)
  (a29:bf K az "_law_names" = some (some (.ref f29))) (l29:K.lookup f29=some ⟨oc29,od29,.func (cx "_law_names" "_law_names" (kS yF) (kR yF) (kE yF) .none kV29 dc29 pm29 an29 cd29 ct29),sl29⟩) (c29:cq K cd29 "_law_names" = true) (k29:bj K (.ref f29)=true)
  (a30:bf K az "_law_from_least" = some (some (.ref f30))) (l30:K.lookup f30=some ⟨oc30,od30,.func (cx "_law_from_least" "_law_from_least" (kS qS) (kR qS) (kE qS) .none kV30 dc30 pm30 an30 cd30 ct30),sl30⟩) (c30:cq K cd30 "_law_from_least" = true) (k30:bj K (.ref f30)=true)
  (a31:bf K az "_law_web" = some (some (.ref f31))) (l31:K.lookup f31=some ⟨oc31,od31,.func (cx "_law_web" "_law_web" (kS zY) (kR zY) (kE zY) .none kV31 dc31 pm31 an31 cd31 ct31),sl31⟩) (c31:cq K cd31 "_law_web" = true) (k31:bj K (.ref f31)=true)
  (a32:bf K az "_law_drawn" = some (some (.ref f32))) (l32:K.lookup f32=some ⟨oc32,od32,.func (cx "_law_drawn" "_law_drawn" (kS yJ) (kR yJ) (kE yJ) .none kV32 dc32 pm32 an32 cd32 ct32),sl32⟩) (c32:cq K cd32 "_law_drawn" = true) (k32:bj K (.ref f32)=true)
  (a33:bf K az "_law_round" = some (some (.ref f33))) (l33:K.lookup f33=some ⟨oc33,od33,.func (cx "_law_round" "_law_round" (kS yE) (kR yE) (kE yE) .none kV33 dc33 pm33 an33 cd33 ct33),sl33⟩) (c33:cq K cd33 "_law_round" = true) (k33:bj K (.ref f33)=true)
  (a34:bf K az "_law_which" = some (some (.ref f34))) (l34:K.lookup f34=some ⟨oc34,od34,.func (cx "_law_which" "_law_which" (kS yD) (kR yD) (kE yD) .none kV34 dc34 pm34 an34 cd34 ct34),sl34⟩) (c34:cq K cd34 "_law_which" = true) (k34:bj K (.ref f34)=true)
  (a35:bf K az "_law_faces" = some (some (.ref f35))) (l35:K.lookup f35=some ⟨oc35,od35,.func (cx "_law_faces" "_law_faces" (kS yI) (kR yI) (kE yI) .none kV35 dc35 pm35 an35 cd35 ct35),sl35⟩) (c35:cq K cd35 "_law_faces" = true) (k35:bj K (.ref f35)=true)
  (a36:bf K az "_law_known" = some (some (.ref f36))) (l36:K.lookup f36=some ⟨oc36,od36,.func (cx "_law_known" "_law_known" (kS yG) (kR yG) (kE yG) .none kV36 dc36 pm36 an36 cd36 ct36),sl36⟩) (c36:cq K cd36 "_law_known" = true) (k36:bj K (.ref f36)=true)
  (a37:bf K az "_law_asked" = some (some (.ref f37))) (l37:K.lookup f37=some ⟨oc37,od37,.func (cx "_law_asked" "_law_asked" (kS yL) (kR yL) (kE yL) .none kV37 dc37 pm37 an37 cd37 ct37),sl37⟩) (c37:cq K cd37 "_law_asked" = true) (k37:bj K (.ref f37)=true)
  (a38:bf K az "_law_three_each" = some (some (.ref f38))) (l38:K.lookup f38=some ⟨oc38,od38,.func (cx "_law_three_each" "_law_three_each" (kS qR) (kR qR) (kE qR) .none kV38 dc38 pm38 an38 cd38 ct38),sl38⟩) (c38:cq K cd38 "_law_three_each" = true) (k38:bj K (.ref f38)=true)
  (a39:bf K az "law" = some (some (.ref f39))) (l39:K.lookup f39=some ⟨oc39,od39,.func (cx "law" "law" (kS bH) (kR bH) (kE bH) .none kV39 dc39 pm39 an39 cd39 ct39),sl39⟩) (c39:cq K cd39 "law" = true) (k39:bj K (.ref f39)=true)
  (y1:bf K az "tuple" = some none)
  (y2:bf K az "min" = some none)
  (y3:bf K az "sorted" = some none)
  (y4:bf K az "enumerate" = some none)
  (y5:bf K az "len" = some none)
  (y6:bf K az "list" = some none)
  (y7:bf K az "range" = some none)
  (y8:bf K az "abs" = some none)
  (y9:bf K az "max" = some none)
  (y10:bf K az "divmod" = some none)
  (y11:bf K az "int" = some none)
  (y12:bf K az "isinstance" = some none)
  (y13:bf K az "sum" = some none)
  (y14:bf K az "bool" = some none)
  (a_DrawError:bf K az "DrawError" = some (some (.ref C_DrawError)))
  (l_DrawError:K.lookup C_DrawError=some (excClassObj nm_DrawError qn_DrawError C_DrawError N_DrawError bs_DrawError [.type "ValueError",.type "Exception",.type "BaseException",.type "object"] true sn_DrawError sub_DrawError ab_DrawError col_DrawError dd_DrawError x0_DrawError x1_DrawError x2_DrawError x3_DrawError x5_DrawError "ValueError.__new__"))
  (t_DrawError:dn K (.ref C_DrawError)=some (.type "type"))
  (sa_DrawError:gx K (.ref C_DrawError) "__setattr__" = some (some (.builtin "object.__setattr__")))
  (ga_DrawError:gx K (.ref C_DrawError) "__getattribute__" = some (some (.builtin "BaseException.__getattribute__")))
  (gh_DrawError:gx K (.ref C_DrawError) "__getattr__" = some none)
  (cl_DrawError:gx K (.ref C_DrawError) "__class__" = some (some (.builtin "object.__class__")))
  (i_DrawError:gx K (.ref C_DrawError) "__init__" = some (some (.ref F_DrawError)))
  (f_DrawError:dn K (.ref F_DrawError)=some (.type "function"))
  (k_DrawError:bj K (.ref C_DrawError)=true)
  (fl_DrawError:K.lookup F_DrawError=some ⟨oc_DrawError,od_DrawError,.func (cx "__init__" "DrawError.__init__" (kS qT) (kR qT) (kE qT) .none kV_DrawError dc_DrawError pm_DrawError an_DrawError cd_DrawError ct_DrawError),sl_DrawError⟩)
  (fc_DrawError:cq K cd_DrawError "DrawError.__init__" = true)
  (fk_DrawError:bj K (.ref F_DrawError)=true)
  (a_NotFlat:bf K az "NotFlat" = some (some (.ref C_NotFlat)))
  (l_NotFlat:K.lookup C_NotFlat=some (excClassObj nm_NotFlat qn_NotFlat C_NotFlat N_NotFlat bs_NotFlat [.ref C_DrawError,.type "ValueError",.type "Exception",.type "BaseException",.type "object"] true sn_NotFlat sub_NotFlat ab_NotFlat col_NotFlat dd_NotFlat x0_NotFlat x1_NotFlat x2_NotFlat x3_NotFlat x5_NotFlat "ValueError.__new__"))
  (t_NotFlat:dn K (.ref C_NotFlat)=some (.type "type"))
  (sa_NotFlat:gx K (.ref C_NotFlat) "__setattr__" = some (some (.builtin "object.__setattr__")))
  (ga_NotFlat:gx K (.ref C_NotFlat) "__getattribute__" = some (some (.builtin "BaseException.__getattribute__")))
  (gh_NotFlat:gx K (.ref C_NotFlat) "__getattr__" = some none)
  (cl_NotFlat:gx K (.ref C_NotFlat) "__class__" = some (some (.builtin "object.__class__")))
  (n_NotFlat:gx K (.ref C_NotFlat) "faces" = some none)
  (i_NotFlat:gx K (.ref C_NotFlat) "__init__" = some (some (.ref F_NotFlat)))
  (f_NotFlat:dn K (.ref F_NotFlat)=some (.type "function"))
  (k_NotFlat:bj K (.ref C_NotFlat)=true)
  (fl_NotFlat:K.lookup F_NotFlat=some ⟨oc_NotFlat,od_NotFlat,.func (cx "__init__" "NotFlat.__init__" (kS jI) (kR jI) (kE jI) .none kV_NotFlat dc_NotFlat pm_NotFlat an_NotFlat cd_NotFlat ct_NotFlat),sl_NotFlat⟩)
  (fc_NotFlat:cq K cd_NotFlat "NotFlat.__init__" = true)
  (fk_NotFlat:bj K (.ref F_NotFlat)=true)
  (cg:vc K (.builtin "object.__class__") "__get__" = some (some (.builtin "getset_descriptor.__get__")))
  (ctt:Da K (.builtin "object.__class__")=some true)
  (dg:vc K (.ref C_DrawError) "__getattribute__" = some (some (.builtin "type.__getattribute__")))
  (dr:Bb K C_DrawError (.type "type")=true)
  (df:ur K (.ref C_DrawError) (.type "type") "__init__" = some (.val (.ref F_DrawError)))
  (vf:ur K (.type "ValueError") (.type "type") "__init__" = some (.val (.builtin "ValueError.__init__")))
  (zv:bf K az "ValueError" = some none)
  (it:Br K (.ref C_DrawError) (.type "tuple")=some false)
  (a_NoFace:bf K az "NoFace" = some (some (.ref C_NoFace)))
  (t_NoFace:dn K (.ref C_NoFace)=some (.type "type"))
  (c_NoFace:dq K C_NoFace=true)
  (s_NotFlat_NoFace:eR K (.ref C_NotFlat) (.ref C_NoFace)=some false)
  (a_Doubled:bf K az "Doubled" = some (some (.ref C_Doubled)))
  (t_Doubled:dn K (.ref C_Doubled)=some (.type "type"))
  (c_Doubled:dq K C_Doubled=true)
  (s_NotFlat_Doubled:eR K (.ref C_NotFlat) (.ref C_Doubled)=some false)
  (a_NoTie:bf K az "NoTie" = some (some (.ref C_NoTie)))
  (t_NoTie:dn K (.ref C_NoTie)=some (.type "type"))
  (c_NoTie:dq K C_NoTie=true)
  (s_NotFlat_NoTie:eR K (.ref C_NotFlat) (.ref C_NoTie)=some false)
  (a_Parted:bf K az "Parted" = some (some (.ref C_Parted)))
  (t_Parted:dn K (.ref C_Parted)=some (.type "type"))
  (c_Parted:dq K C_Parted=true)
  (s_NotFlat_Parted:eR K (.ref C_NotFlat) (.ref C_Parted)=some false)
  (s_NotFlat_NotFlat:eR K (.ref C_NotFlat) (.ref C_NotFlat)=some true)
  (a_NotTied:bf K az "NotTied" = some (some (.ref C_NotTied)))
  (t_NotTied:dn K (.ref C_NotTied)=some (.type "type"))
  (c_NotTied:dq K C_NotTied=true)
  (s_NotFlat_NotTied:eR K (.ref C_NotFlat) (.ref C_NotTied)=some false)
  (a_NotCornered:bf K az "NotCornered" = some (some (.ref C_NotCornered)))
  (t_NotCornered:dn K (.ref C_NotCornered)=some (.type "type"))
  (c_NotCornered:dq K C_NotCornered=true)
  (s_NotFlat_NotCornered:eR K (.ref C_NotFlat) (.ref C_NotCornered)=some false)
  (a_NoRim:bf K az "NoRim" = some (some (.ref C_NoRim)))
  (t_NoRim:dn K (.ref C_NoRim)=some (.type "type"))
  (c_NoRim:dq K C_NoRim=true)
  (s_NotFlat_NoRim:eR K (.ref C_NotFlat) (.ref C_NoRim)=some false)
  (a_NoCorners:bf K az "NoCorners" = some (some (.ref C_NoCorners)))
  (t_NoCorners:dn K (.ref C_NoCorners)=some (.type "type"))
  (c_NoCorners:dq K C_NoCorners=true)
  (s_NotFlat_NoCorners:eR K (.ref C_NotFlat) (.ref C_NoCorners)=some false)
  (a_NoBase:bf K az "NoBase" = some (some (.ref C_NoBase)))
  (t_NoBase:dn K (.ref C_NoBase)=some (.type "type"))
  (c_NoBase:dq K C_NoBase=true)
  (s_NotFlat_NoBase:eR K (.ref C_NotFlat) (.ref C_NoBase)=some false)
  (a_NoOrder:bf K az "NoOrder" = some (some (.ref C_NoOrder)))
  (t_NoOrder:dn K (.ref C_NoOrder)=some (.type "type"))
  (c_NoOrder:dq K C_NoOrder=true)
  (s_NotFlat_NoOrder:eR K (.ref C_NotFlat) (.ref C_NoOrder)=some false)
  (a_NoWoods:bf K az "NoWoods" = some (some (.ref C_NoWoods)))
  (t_NoWoods:dn K (.ref C_NoWoods)=some (.type "type"))
  (c_NoWoods:dq K C_NoWoods=true)
  (s_NotFlat_NoWoods:eR K (.ref C_NotFlat) (.ref C_NoWoods)=some false)
  (a_NoWeights:bf K az "NoWeights" = some (some (.ref C_NoWeights)))
  (t_NoWeights:dn K (.ref C_NoWeights)=some (.type "type"))
  (c_NoWeights:dq K C_NoWeights=true)
  (s_NotFlat_NoWeights:eR K (.ref C_NotFlat) (.ref C_NoWeights)=some false)
  (a_NoText:bf K az "NoText" = some (some (.ref C_NoText)))
  (t_NoText:dn K (.ref C_NoText)=some (.type "type"))
  (c_NoText:dq K C_NoText=true)
  (s_NotFlat_NoText:eR K (.ref C_NotFlat) (.ref C_NoText)=some false)
  (a_Alike:bf K az "Alike" = some (some (.ref C_Alike)))
  (t_Alike:dn K (.ref C_Alike)=some (.type "type"))
  (c_Alike:dq K C_Alike=true)
  (s_NotFlat_Alike:eR K (.ref C_NotFlat) (.ref C_Alike)=some false)
  (a_Folded:bf K az "Folded" = some (some (.ref C_Folded)))
  (t_Folded:dn K (.ref C_Folded)=some (.type "type"))
  (c_Folded:dq K C_Folded=true)
  (s_NotFlat_Folded:eR K (.ref C_NotFlat) (.ref C_Folded)=some false)
  (s_NotFlat_V:eR K (.ref C_NotFlat) (.type "ValueError")=some true)
  : ∃ fd:eO,(∀ (s:ak) (v:af),Bu s fd ⟨[v],[]⟩ [("_law_script",v)])/\∀ base:gw,K.In base->base.Ns az mg->FnOk l.prog w K mg base CX0 8 fa fd ["_law_script"] (kBP K):=by
 have e:=hfa.symm.trans (bh X G a39);cases e
 have z_tuple:=iB X G y1;have z_min:=iB X G y2;have z_sorted:=iB X G y3;have z_enumerate:=iB X G y4;have z_len:=iB X G y5;have z_list:=iB X G y6;have z_range:=iB X G y7;have z_abs:=iB X G y8;have z_max:=iB X G y9;have z_divmod:=iB X G y10;have z_int:=iB X G y11;have z_isinstance:=iB X G y12;have z_sum:=iB X G y13;have z_bool:=iB X G y14;have F1:=kZ (st:=wE) l1 c1 k1;have F2:=kZ (st:=xJ) l2 c2 k2;have F3:=kZ (st:=yX) l3 c3 k3;have F4:=kZ (st:=cX) l4 c4 k4;have F5:=kZ (st:=vF) l5 c5 k5;have F6:=kZ (st:=jS) l6 c6 k6;have F7:=kZ (st:=aA) l7 c7 k7;have F8:=kZ (st:=wD) l8 c8 k8;have F9:=kZ (st:=qV) l9 c9 k9;have F10:=kZ (st:=qL) l10 c10 k10;have F11:=kZ (st:=wC) l11 c11 k11;have F12:=kZ (st:=jR) l12 c12 k12;have F13:=kZ (st:=vE) l13 c13 k13;have F14:=kZ (st:=mT) l14 c14 k14;have F15:=kZ (st:=wH) l15 c15 k15;have F16:=kZ (st:=zZ) l16 c16 k16;have F17:=kZ (st:=yK) l17 c17 k17;have F18:=kZ (st:=yM) l18 c18 k18;have F19:=kZ (st:=xI) l19 c19 k19;have F20:=kZ (st:=wB) l20 c20 k20;have F21:=kZ (st:=yZ) l21 c21 k21;have F22:=kZ (st:=yY) l22 c22 k22;have F23:=kZ (st:=jH) l23 c23 k23;have F24:=kZ (st:=yH) l24 c24 k24;have F25:=kZ (st:=jT) l25 c25 k25;have F26:=kZ (st:=jU) l26 c26 k26;have F27:=kZ (st:=xH) l27 c27 k27;have F28:=kZ (st:=wA) l28 c28 k28;have F29:=kZ (st:=yF) l29 c29 k29;have F30:=kZ (st:=qS) l30 c30 k30;have F31:=kZ (st:=zY) l31 c31 k31;have F32:=kZ (st:=yJ) l32 c32 k32;have F33:=kZ (st:=yE) l33 c33 k33;have F34:=kZ (st:=yD) l34 c34 k34;have F35:=kZ (st:=yI) l35 c35 k35;have F36:=kZ (st:=yG) l36 c36 k36;have F37:=kZ (st:=yL) l37 c37 k37;have F38:=kZ (st:=qR) l38 c38 k38;have F39:=kZ (st:=bH) l39 c39 k39;have b1:=F1.binds (ps:=["row","first"]) λ _ _ _ _ _ _ us hl=>by obtain ⟨_,_,rfl⟩:=wJ (n:=2) rfl hl;rfl
 have b2:=F2.binds (ps:=["row"]) λ _ _ _ _ _ _ us hl=>by obtain ⟨_,rfl⟩:=zP (n:=1) rfl hl;rfl
 have b3:=F3.binds (ps:=["web"]) λ _ _ _ _ _ _ us hl=>by obtain ⟨_,rfl⟩:=zP (n:=1) rfl hl;rfl
 have b4:=F4.binds (ps:=["web"]) λ _ _ _ _ _ _ us hl=>by obtain ⟨_,rfl⟩:=zP (n:=1) rfl hl;rfl
 have b5:=F5.binds (ps:=["web","step"]) λ _ _ _ _ _ _ us hl=>by obtain ⟨_,_,rfl⟩:=wJ (n:=2) rfl hl;rfl
 have b6:=F6.binds (ps:=["web","step"]) λ _ _ _ _ _ _ us hl=>by obtain ⟨_,_,rfl⟩:=wJ (n:=2) rfl hl;rfl
 have b7:=F7.binds (ps:=["web"]) λ _ _ _ _ _ _ us hl=>by obtain ⟨_,rfl⟩:=zP (n:=1) rfl hl;rfl
 have b8:=F8.binds (ps:=["web"]) λ _ _ _ _ _ _ us hl=>by obtain ⟨_,rfl⟩:=zP (n:=1) rfl hl;rfl
 have b9:=F9.binds (ps:=["web"]) λ _ _ _ _ _ _ us hl=>by obtain ⟨_,rfl⟩:=zP (n:=1) rfl hl;rfl
 have b10:=F10.binds (ps:=["web"]) λ _ _ _ _ _ _ us hl=>by obtain ⟨_,rfl⟩:=zP (n:=1) rfl hl;rfl
 have b11:=F11.binds (ps:=["web","pair"]) λ _ _ _ _ _ _ us hl=>by obtain ⟨_,_,rfl⟩:=wJ (n:=2) rfl hl;rfl
 have b12:=F12.binds (ps:=["row","place","added"]) λ _ _ _ _ _ _ us hl=>by obtain ⟨_,_,_,rfl⟩:=lK (n:=3) rfl hl;rfl
 have b13:=F13.binds (ps:=["web","step","other"]) λ _ _ _ _ _ _ us hl=>by obtain ⟨_,_,_,rfl⟩:=lK (n:=3) rfl hl;rfl
 have b14:=F14.binds (ps:=["web","face"]) λ _ _ _ _ _ _ us hl=>by obtain ⟨_,_,rfl⟩:=wJ (n:=2) rfl hl;rfl
 have b15:=F15.binds (ps:=["web"]) λ _ _ _ _ _ _ us hl=>by obtain ⟨_,rfl⟩:=zP (n:=1) rfl hl;rfl
 have b16:=F16.binds (ps:=["_law_script","_law_k"]) λ _ _ _ _ _ _ us hl=>by obtain ⟨_,_,rfl⟩:=wJ (n:=2) rfl hl;rfl
 have b17:=F17.binds (ps:=["_law_pot_here","_law_many"]) λ _ _ _ _ _ _ us hl=>by obtain ⟨_,_,rfl⟩:=wJ (n:=2) rfl hl;rfl
 have b18:=F18.binds (ps:=["_law_rows","_law_p","_law_q"]) λ _ _ _ _ _ _ us hl=>by obtain ⟨_,_,_,rfl⟩:=lK (n:=3) rfl hl;rfl
 have b19:=F19.binds (ps:=["_law_rows","_law_p","_law_v","_law_new"]) λ _ _ _ _ _ _ us hl=>by obtain ⟨_,_,_,_,rfl⟩:=kKH (n:=4) rfl hl;rfl
 have b20:=F20.binds (ps:=["_law_rows","_law_p","_law_q"]) λ _ _ _ _ _ _ us hl=>by obtain ⟨_,_,_,rfl⟩:=lK (n:=3) rfl hl;rfl
 have b21:=F21.binds (ps:=["_law_rows","_law_p","_law_q"]) λ _ _ _ _ _ _ us hl=>by obtain ⟨_,_,_,rfl⟩:=lK (n:=3) rfl hl;rfl
 have b22:=F22.binds (ps:=["_law_pot_here","_law_rows"]) λ _ _ _ _ _ _ us hl=>by obtain ⟨_,_,rfl⟩:=wJ (n:=2) rfl hl;rfl
 have b23:=F23.binds (ps:=["_law_pot_here","_law_n"]) λ _ _ _ _ _ _ us hl=>by obtain ⟨_,_,rfl⟩:=wJ (n:=2) rfl hl;rfl
 have b24:=F24.binds (ps:=["_law_rows"]) λ _ _ _ _ _ _ us hl=>by obtain ⟨_,rfl⟩:=zP (n:=1) rfl hl;rfl
 have b25:=F25.binds (ps:=["_law_rows","_law_p","_law_q"]) λ _ _ _ _ _ _ us hl=>by obtain ⟨_,_,_,rfl⟩:=lK (n:=3) rfl hl;rfl
 have b26:=F26.binds (ps:=["_law_pot_here","_law_rows","_law_many"]) λ _ _ _ _ _ _ us hl=>by obtain ⟨_,_,_,rfl⟩:=lK (n:=3) rfl hl;rfl
 have b27:=F27.binds (ps:=["_law_pot_here","_law_rows","_law_p","_law_q"]) λ _ _ _ _ _ _ us hl=>by obtain ⟨_,_,_,_,rfl⟩:=kKH (n:=4) rfl hl;rfl
 have b28:=F28.binds (ps:=["_law_pot_here","_law_n"]) λ _ _ _ _ _ _ us hl=>by obtain ⟨_,_,rfl⟩:=wJ (n:=2) rfl hl;rfl
 have b29:=F29.binds (ps:=["_law_pot_here","_law_n"]) λ _ _ _ _ _ _ us hl=>by obtain ⟨_,_,rfl⟩:=wJ (n:=2) rfl hl;rfl
 have b30:=F30.binds (ps:=["_law_row"]) λ _ _ _ _ _ _ us hl=>by obtain ⟨_,rfl⟩:=zP (n:=1) rfl hl;rfl
 have b31:=F31.binds (ps:=["_law_rows","_law_names_here"]) λ _ _ _ _ _ _ us hl=>by obtain ⟨_,_,rfl⟩:=wJ (n:=2) rfl hl;rfl
 have b32:=F32.binds (ps:=["_law_pot_here"]) λ _ _ _ _ _ _ us hl=>by obtain ⟨_,rfl⟩:=zP (n:=1) rfl hl;rfl
 have b33:=F33.binds (ps:=["_law_web_here","_law_step_here"]) λ _ _ _ _ _ _ us hl=>by obtain ⟨_,_,rfl⟩:=wJ (n:=2) rfl hl;rfl
 have b34:=F34.binds (ps:=["_law_e"]) λ _ _ _ _ _ _ us hl=>by obtain ⟨_,rfl⟩:=zP (n:=1) rfl hl;rfl
 have b35:=F35.binds (ps:=["_law_web_here"]) λ _ _ _ _ _ _ us hl=>by obtain ⟨_,rfl⟩:=zP (n:=1) rfl hl;rfl
 have b36:=F36.binds (ps:=["_law_e"]) λ _ _ _ _ _ _ us hl=>by obtain ⟨_,rfl⟩:=zP (n:=1) rfl hl;rfl
 have b37:=F37.binds (ps:=["_law_web_here"]) λ _ _ _ _ _ _ us hl=>by obtain ⟨_,rfl⟩:=zP (n:=1) rfl hl;rfl
 have b38:=F38.binds (ps:=["_law_web_here"]) λ _ _ _ _ _ _ us hl=>by obtain ⟨_,rfl⟩:=zP (n:=1) rfl hl;rfl
 refine ⟨cx "law" "law" (kS bH) (kR bH) (kE bH) .none kV39 dc39 pm39 an39 cd39 ct39,λ s v=>.of_eq rfl,λ base _ _=>?_⟩;have aK:Own.Has l.prog w K mg base "from_on" ["row","first"] 1 (gM):=⟨_,_,kAP (P:=l.prog) (w:=w) (base:=base) (mg:=mg) F1 z_tuple,b1,k1,bh X G a1⟩;have vT:Own.Has l.prog w K mg base "from_least" ["row"] 2 (gH):=⟨_,_,mI (P:=l.prog) (w:=w) (base:=base) (mg:=mg) F2 aK z_min,b2,k2,bh X G a2⟩;have zB:Own.Has l.prog w K mg base "steps_of" ["web"] 1 (fK):=⟨_,_,rY (P:=l.prog) (w:=w) (base:=base) (mg:=mg) F3 z_sorted z_enumerate,b3,k3,bh X G a3⟩;have uO:Own.Has l.prog w K mg base "ties" ["web"] 2 (oG):=⟨_,_,kIX (P:=l.prog) (w:=w) (base:=base) (mg:=mg) F4 zB,b4,k4,bh X G a4⟩;have cB:Own.Has l.prog w K mg base "behind" ["web","step"] 1 (cV):=⟨_,_,kDS (P:=l.prog) (w:=w) (base:=base) (mg:=mg) F5,b5,k5,bh X G a5⟩;have jW:Own.Has l.prog w K mg base "steps_round" ["web","step"] 2 (zH):=⟨_,_,hG (P:=l.prog) (w:=w) (base:=base) (mg:=mg) F6 cB,b6,k6,bh X G a6⟩;have zX:Own.Has l.prog w K mg base "faces" ["web"] 3 (bA):=⟨_,_,kGJ (P:=l.prog) (w:=w) (base:=base) (mg:=mg) F7 zB jW z_tuple z_sorted,b7,k7,bh X G a7⟩;have xL:Own.Has l.prog w K mg base "is_flat" ["web"] 4 (gN):=⟨_,_,kAO (P:=l.prog) (w:=w) (base:=base) (mg:=mg) F8 zX uO z_len,b8,k8,bh X G a8⟩;have yV:Own.Has l.prog w K mg base "must_be_flat" ["web"] 5 (aN):=⟨_,_,fE (P:=l.prog) (w:=w) (base:=base) (mg:=mg) F9 xL,b9,k9,bh X G a9⟩;have jE:Own.Has l.prog w K mg base "uncornered_face" ["web"] 4 (kFN):=⟨_,_,aP (P:=l.prog) (w:=w) (base:=base) (mg:=mg) F10 zX z_len,b10,k10,bh X G a10⟩;have dO:Own.Has l.prog w K mg base "is_step" ["web","pair"] 1 (gK):=⟨_,_,kAN (P:=l.prog) (w:=w) (base:=base) (mg:=mg) F11 z_len,b11,k11,bh X G a11⟩;have zF:Own.Has l.prog w K mg base "with_behind" ["row","place","added"] 3 (oE):=⟨_,_,gZ (P:=l.prog) (w:=w) (base:=base) (mg:=mg) F12 vT,b12,k12,bh X G a12⟩;have cA:Own.Has l.prog w K mg base "put_in" ["web","step","other"] 4 (kFL):=⟨_,_,kDQ (P:=l.prog) (w:=w) (base:=base) (mg:=mg) F13 jW dO zF z_list z_tuple,b13,k13,bh X G a13⟩;have kCJ:Own.Has l.prog w K mg base "cut" ["web","face"] 1 (kFO):=⟨_,_,kMB (P:=l.prog) (w:=w) (base:=base) (mg:=mg) F14 z_range z_len,b14,k14,bh X G a14⟩;have kOT:Own.Has l.prog w K mg base "filled" ["web"] 6 (cT):=⟨_,_,mY (P:=l.prog) (w:=w) (base:=base) (mg:=mg) F15 yV jE kCJ cA uO,b15,k15,bh X G a15⟩;have dL:Own.Has l.prog w K mg base "_law_pot" ["_law_script","_law_k"] 1 (kFM K):=⟨_,_,kAK (P:=l.prog) (w:=w) (base:=base) (mg:=mg) F16 z_abs z_max,b16,k16,bh X G a16⟩;have kP:Own.Has l.prog w K mg base "_law_digit" ["_law_pot_here","_law_many"] 1 (wO):=⟨_,_,pM (P:=l.prog) (w:=w) (base:=base) (mg:=mg) F17 z_divmod,b17,k17,bh X G a17⟩;have xF:Own.Has l.prog w K mg base "_law_ahead" ["_law_rows","_law_p","_law_q"] 1 (fO):=⟨_,_,pO (P:=l.prog) (w:=w) (base:=base) (mg:=mg) F18,b18,k18,bh X G a18⟩;have qO:Own.Has l.prog w K mg base "_law_behind" ["_law_rows","_law_p","_law_v","_law_new"] 1 (bB):=⟨_,_,mH (P:=l.prog) (w:=w) (base:=base) (mg:=mg) F19,b19,k19,bh X G a19⟩;have dN:Own.Has l.prog w K mg base "_law_add" ["_law_rows","_law_p","_law_q"] 2 (kFQ):=⟨_,_,kAM (P:=l.prog) (w:=w) (base:=base) (mg:=mg) F20 xF qO z_len,b20,k20,bh X G a20⟩;have aT:Own.Has l.prog w K mg base "_law_flip" ["_law_rows","_law_p","_law_q"] 2 (tS):=⟨_,_,sA (P:=l.prog) (w:=w) (base:=base) (mg:=mg) F21 xF qO,b21,k21,bh X G a21⟩;have yC:Own.Has l.prog w K mg base "_law_step" ["_law_pot_here","_law_rows"] 2 (fL):=⟨_,_,rZ (P:=l.prog) (w:=w) (base:=base) (mg:=mg) F22 kP z_len,b22,k22,bh X G a22⟩;have wK:Own.Has l.prog w K mg base "_law_cornered" ["_law_pot_here","_law_n"] 3 (aO):=⟨_,_,fF (P:=l.prog) (w:=w) (base:=base) (mg:=mg) F23 yC dN kP aT z_range,b23,k23,bh X G a23⟩;have uS:Own.Has l.prog w K mg base "_law_hangs" ["_law_rows"] 1 (gL):=⟨_,_,pJ (P:=l.prog) (w:=w) (base:=base) (mg:=mg) F24 z_len,b24,k24,bh X G a24⟩;have zG:Own.Has l.prog w K mg base "_law_without" ["_law_rows","_law_p","_law_q"] 1 (cR):=⟨_,_,hJ (P:=l.prog) (w:=w) (base:=base) (mg:=mg) F25 z_list,b25,k25,bh X G a25⟩;have wZ:Own.Has l.prog w K mg base "_law_thinned" ["_law_pot_here","_law_rows","_law_many"] 3 (cS):=⟨_,_,hZ (P:=l.prog) (w:=w) (base:=base) (mg:=mg) F26 yC uS zG z_range z_len,b26,k26,bh X G a26⟩;have zW:Own.Has l.prog w K mg base "_law_joined" ["_law_pot_here","_law_rows","_law_p","_law_q"] 2 (gJ):=⟨_,_,mG (P:=l.prog) (w:=w) (base:=base) (mg:=mg) F27 kP z_len,b27,k27,bh X G a27⟩;have dM:Own.Has l.prog w K mg base "_law_any" ["_law_pot_here","_law_n"] 3 (kFP):=⟨_,_,kAL (P:=l.prog) (w:=w) (base:=base) (mg:=mg) F28 zW kP z_range,b28,k28,bh X G a28⟩;have uQ:Own.Has l.prog w K mg base "_law_names" ["_law_pot_here","_law_n"] 2 (fM):=⟨_,_,pH (P:=l.prog) (w:=w) (base:=base) (mg:=mg) F29 kP z_range,b29,k29,bh X G a29⟩;have zD:Own.Has l.prog w K mg base "_law_from_least" ["_law_row"] 1 (gI):=⟨_,_,bP (P:=l.prog) (w:=w) (base:=base) (mg:=mg) F30 z_min z_tuple,b30,k30,bh X G a30⟩;have dJ:Own.Has l.prog w K mg base "_law_web" ["_law_rows","_law_names_here"] 2 (kBO):=⟨_,_,kAJ (P:=l.prog) (w:=w) (base:=base) (mg:=mg) F31 zD z_len z_enumerate z_tuple,b31,k31,bh X G a31⟩;have uU:Own.Has l.prog w K mg base "_law_drawn" ["_law_pot_here"] 4 (cU):=⟨_,_,pL (P:=l.prog) (w:=w) (base:=base) (mg:=mg) F32 kP dM wK wZ dJ uQ z_int z_range z_len,b32,k32,bh X G a32⟩;have yO:Own.Has l.prog w K mg base "_law_round" ["_law_web_here","_law_step_here"] 1 (zH):=⟨_,_,pG (P:=l.prog) (w:=w) (base:=base) (mg:=mg) F33,b33,k33,bh X G a33⟩;have uT:Own.Has l.prog w K mg base "_law_faces" ["_law_web_here"] 2 (oJ):=⟨_,_,pK (P:=l.prog) (w:=w) (base:=base) (mg:=mg) F35 yO z_range z_len,b35,k35,bh X G a35⟩;have z_ValueError:=iB X G zv;have x_DrawError:=kKA l_DrawError (kKE _) rfl rfl t_DrawError sa_DrawError ga_DrawError gh_DrawError cl_DrawError cg ctt;have x_NotFlat:=kKA l_NotFlat (kOJ _ _) (kKP _).1 (kKP _).2 t_NotFlat sa_NotFlat ga_NotFlat gh_NotFlat cl_NotFlat cg ctt;have FF_DrawError:=kZ (st:=qT) fl_DrawError fc_DrawError fk_DrawError;have bb_DrawError:=FF_DrawError.binds (ps:=["self","words"]) λ _ _ _ _ _ _ us hl=>by obtain ⟨_,_,rfl⟩:=wJ (n:=2) rfl hl;rfl
 have gD:=bh X G a_DrawError;have dE:DE l.prog w K mg base:=⟨_,_,_,bQ (P:=l.prog) (w:=w) (base:=base) (mg:=mg) FF_DrawError z_ValueError vf,bb_DrawError,fk_DrawError,gD,dg,dr,df⟩;have FF_NotFlat:=kZ (st:=jI) fl_NotFlat fc_NotFlat fk_NotFlat;have bb_NotFlat:=FF_NotFlat.binds (ps:=["self","faces"]) λ _ _ _ _ _ _ us hl=>by obtain ⟨_,_,rfl⟩:=wJ (n:=2) rfl hl;rfl
 have vv_NotFlat:md K C_NotFlat (.type "ValueError")=some true:=by rw [lG l_NotFlat,ph,(up2 _).b,yg]
 have rr_NotFlat:md K C_NotFlat (.ref C_NotFlat)=some true:=by rw [lG l_NotFlat];simp
 have rd_NotFlat:md K C_NotFlat (.ref C_DrawError)=some true:=by rw [lG l_NotFlat];simp
 have cc_NotFlat:Cl l.prog w K mg base "NotFlat" C_NotFlat:=⟨⟨_,_,⟨x_NotFlat,⟨_,_,_,_,_,_,_,_,_,_,_,_,_,_,_,_, l_NotFlat,up2 _⟩,i_NotFlat,f_NotFlat,k_NotFlat⟩,fG (P:=l.prog) (w:=w) (base:=base) (mg:=mg) FF_NotFlat dE,bb_NotFlat⟩,bh X G a_NotFlat,vv_NotFlat,n_NotFlat⟩;have g_NotFlat:=bh X G a_NotFlat;have gg:=kOU (mg:=mg) (bh X G a_NoFace) (bh X G a_Doubled) (bh X G a_NoTie) (bh X G a_Parted) (bh X G a_NotFlat) (bh X G a_NotTied) (bh X G a_NotCornered) (bh X G a_NoRim) (bh X G a_NoCorners) (bh X G a_NoBase) (bh X G a_NoOrder) (bh X G a_NoWoods) (bh X G a_NoWeights) (bh X G a_NoText) (bh X G a_Alike) (bh X G a_Folded);have kk_NotFlat:Kd K (GGf C_NoFace C_Doubled C_NoTie C_Parted C_NotFlat C_NotTied C_NotCornered C_NoRim C_NoCorners C_NoBase C_NoOrder C_NoWoods C_NoWeights C_NoText C_Alike C_Folded) C_NotFlat 4:=kAW c_NoFace t_NoFace s_NotFlat_NoFace c_Doubled t_Doubled s_NotFlat_Doubled c_NoTie t_NoTie s_NotFlat_NoTie c_Parted t_Parted s_NotFlat_Parted (kGS l_NotFlat) t_NotFlat s_NotFlat_NotFlat c_NotTied t_NotTied s_NotFlat_NotTied c_NotCornered t_NotCornered s_NotFlat_NotCornered c_NoRim t_NoRim s_NotFlat_NoRim c_NoCorners t_NoCorners s_NotFlat_NoCorners c_NoBase t_NoBase s_NotFlat_NoBase c_NoOrder t_NoOrder s_NotFlat_NoOrder c_NoWoods t_NoWoods s_NotFlat_NoWoods c_NoWeights t_NoWeights s_NotFlat_NoWeights c_NoText t_NoText s_NotFlat_NoText c_Alike t_Alike s_NotFlat_Alike c_Folded t_Folded s_NotFlat_Folded s_NotFlat_V;have uP:kHT l.prog w K mg base "_law_which" ["_law_e"] 1 (oF K (GGf C_NoFace C_Doubled C_NoTie C_Parted C_NotFlat C_NotTied C_NotCornered C_NoRim C_NoCorners C_NoBase C_NoOrder C_NoWoods C_NoWeights C_NoText C_Alike C_Folded)):=⟨_,_,pF (P:=l.prog) (w:=w) (base:=base) (mg:=mg) F34 gg z_isinstance z_ValueError,b34,k34,bh X G a34⟩;have uR:kHT l.prog w K mg base "_law_known" ["_law_e"] 2 (oH K (GGf C_NoFace C_Doubled C_NoTie C_Parted C_NotFlat C_NotTied C_NotCornered C_NoRim C_NoCorners C_NoBase C_NoOrder C_NoWoods C_NoWeights C_NoText C_Alike C_Folded)):=⟨_,_,pI (P:=l.prog) (w:=w) (base:=base) (mg:=mg) F36 uP gg z_isinstance,b36,k36,bh X G a36⟩;have oM:=kDR (P:=l.prog) (w:=w) (base:=base) (mg:=mg) F9 xL zX z_len cc_NotFlat x_NotFlat;have oD:=kPU (mY (P:=l.prog) (w:=w) (base:=base) (mg:=mg) F15 yV jE kCJ cA uO) (sB (P:=l.prog) (w:=w) (base:=base) (mg:=mg) F15 oM b9 k9 (bh X G a9));have uV:Own.Has l.prog w K mg base "_law_asked" ["_law_web_here"] 7 (oK):=⟨_,_,pN (P:=l.prog) (w:=w) (base:=base) (mg:=mg) F37 uR gD x_DrawError it oD b15 k15 (bh X G a15) x_NotFlat kk_NotFlat rd_NotFlat n_NotFlat,b37,k37,bh X G a37⟩;have zC:Own.Has l.prog w K mg base "_law_three_each" ["_law_web_here"] 2 (gG):=⟨_,_,bO (P:=l.prog) (w:=w) (base:=base) (mg:=mg) F38 yO z_range z_len,b38,k38,bh X G a38⟩;exact kMA (P:=l.prog) (w:=w) (base:=base) (mg:=mg) F39 uU dL uT uV xL zC z_range z_max z_min z_len z_sum z_isinstance z_bool z_list z_tuple
theorem walk {l:BW} {q:eU} {loose:List Str} {XP:(Str->Option af)->gw->Prop} {YP:gk->gw->Prop} {d:DefRec} {K:Fe->au} (hn:l.most=some 63) (hdf:d.params.defaults=[])
  (hY:∀ (w:gk) (h:gw),YP w h->(K w.params).In h)
  (F:∀ (w:gk) (mg:Str->Option af) (fa:ah) (h:gw),(K w.params).In h->h.Ns az mg->mg d.name=some (.ref fa) ->
   ∃ fd:eO,(∀ (s:ak) (u:af),Bu s fd ⟨[u],[]⟩ [("_law_script",u)])/\∀ base:gw,(K w.params).In base->base.Ns az mg->FnOk l.prog w (K w.params) mg base CX0 8 fa fd ["_law_script"] (kBP (K w.params))) :
  Ep q loose XP YP l.row.toRowW d [] (λ f vs=>Dx f vs) :=
 L2.walk_of (n:=63) (k:=8) (x:="_law_script") (CX:=λ _=>CX0) (sp:=λ w=>kBP (K w.params)) hn (by decide) hdf ⟨rfl,by decide,by decide,rfl⟩ hY F (λ _ _ a ns hl _ hS=>⟨a,ns,rfl,hS,hl,λ _=>rfl⟩) λ _ _ _ _ _ z=>z
end Prf
def PySem.W.Fast.tw3760831913306180077:Nat:=0
def PySem.W.Fast.tw6141252823559247175:Nat:=0
def PySem.W.Fast.tw648025726528712829:Nat:=0
def PySem.W.Fast.tw16081119823831683850:Nat:=0
def PySem.W.Fast.tw7261001085608832802:Nat:=0
def PySem.W.Fast.tw11726055677680944233:Nat:=0
def PySem.W.Fast.tw15309130727866079207:Nat:=0
def PySem.W.Fast.tw3287307217516686860:Nat:=0
def PySem.W.Fast.tw817656317808903579:Nat:=0
def PySem.W.Fast.tw2476346092266567787:Nat:=0
def PySem.W.Fast.tw6206233000229064426:Nat:=0
def PySem.W.Fast.tw5316683840071440326:Nat:=0
def PySem.W.Fast.tw8311001669214488146:Nat:=0
def PySem.W.Fast.tw16967469081779061678:Nat:=0
def PySem.W.Fast.tw14606498735434672257:Nat:=0
def PySem.W.Fast.tw12521880108708508161:Nat:=0
def PySem.W.Fast.tw5464754000768384609:Nat:=0
def PySem.W.Fast.tw8325160093013688546:Nat:=0
def PySem.W.Fast.tw5713615291802632579:Nat:=0
def PySem.W.Fast.tw1088196940204370118:Nat:=0
def PySem.W.Fast.tw2423407500524241063:Nat:=0
def PySem.W.Fast.tw5187443861738280170:Nat:=0
def PySem.W.Fast.tw9817143920836332106:Nat:=0
def PySem.W.Fast.tw6617199224837964844:Nat:=0
def PySem.W.Fast.tw7241951013029087694:Nat:=0
def PySem.W.Fast.tw4870617946912035409:Nat:=0
def PySem.W.Fast.tw2707990429507772017:Nat:=0
def PySem.W.Fast.tw15659973696231231442:Nat:=0
def PySem.W.Fast.tw7580327356658840947:Nat:=0
def PySem.W.Fast.tw7757328168836453684:Nat:=0
def PySem.W.Fast.tw17858283381685588564:Nat:=0
def PySem.W.Fast.tw5629038221669748500:Nat:=0
def PySem.W.Fast.tw4041592533446785525:Nat:=0
def PySem.W.Fast.tw10652721274842866742:Nat:=0
def PySem.W.Fast.tw797924509962206551:Nat:=0
def PySem.W.Fast.tw7503893613354051129:Nat:=0
def PySem.W.Fast.tw4016566586553295934:Nat:=0
def PySem.W.Fast.tw15038788568818712318:Nat:=0
def PySem.W.Fast.tw14861665580826459263:Nat:=0
open PySem PySem.W PyProof.Rows
set_option maxRecDepth 100000 in
set_option maxHeartbeats 0 in
theorem PySem.Challenge.cw_restdraw_k26_webs_that_are_not_flat_holds : PySem.Challenge.rw_restdraw_k26_webs_that_are_not_flat.Holds := by
 w_on;o_law;k_head;(case hw=>w_witness2)
 k_fill
 refine Prf.walk (l:=PySem.Challenge.rw_restdraw_k26_webs_that_are_not_flat) rfl rfl (λ w h Y=>PySem.W.kIn_of Y) ?F
 case F =>
  intro w mg fa h KX G hmg;refine' Prf.all_mk KX G hmg ?a1 ?l1 ?c1 ?k1 ?a2 ?l2 ?c2 ?k2 ?a3 ?l3 ?c3 ?k3 ?a4 ?l4 ?c4 ?k4 ?a5 ?l5 ?c5 ?k5 ?a6 ?l6 ?c6 ?k6 ?a7 ?l7 ?c7 ?k7 ?a8 ?l8 ?c8 ?k8 ?a9 ?l9 ?c9 ?k9 ?a10 ?l10 ?c10 ?k10 ?a11 ?l11 ?c11 ?k11 ?a12 ?l12 ?c12 ?k12 ?a13 ?l13 ?c13 ?k13 ?a14 ?l14 ?c14 ?k14 ?a15 ?l15 ?c15 ?k15 ?a16 ?l16 ?c16 ?k16 ?a17 ?l17 ?c17 ?k17 ?a18 ?l18 ?c18 ?k18 ?a19 ?l19 ?c19 ?k19 ?a20 ?l20 ?c20 ?k20 ?a21 ?l21 ?c21 ?k21 ?a22 ?l22 ?c22 ?k22 ?a23 ?l23 ?c23 ?k23 ?a24 ?l24 ?c24 ?k24 ?a25 ?l25 ?c25 ?k25 ?a26 ?l26 ?c26 ?k26 ?a27 ?l27 ?c27 ?k27 ?a28 ?l28 ?c28 ?k28 ?a29 ?l29 ?c29 ?k29 ?a30 ?l30 ?c30 ?k30 ?a31 ?l31 ?c31 ?k31 ?a32 ?l32 ?c32 ?k32 ?a33 ?l33 ?c33 ?k33 ?a34 ?l34 ?c34 ?k34 ?a35 ?l35 ?c35 ?k35 ?a36 ?l36 ?c36 ?k36 ?a37 ?l37 ?c37 ?k37 ?a38 ?l38 ?c38 ?k38 ?a39 ?l39 ?c39 ?k39 ?y1 ?y2 ?y3 ?y4 ?y5 ?y6 ?y7 ?y8 ?y9 ?y10 ?y11 ?y12 ?y13 ?y14 ?a_DrawError ?l_DrawError ?t_DrawError ?sa_DrawError ?ga_DrawError ?gh_DrawError ?cl_DrawError ?i_DrawError ?f_DrawError ?k_DrawError ?fl_DrawError ?fc_DrawError ?fk_DrawError ?a_NotFlat ?l_NotFlat ?t_NotFlat ?sa_NotFlat ?ga_NotFlat ?gh_NotFlat ?cl_NotFlat ?n_NotFlat ?i_NotFlat ?f_NotFlat ?k_NotFlat ?fl_NotFlat ?fc_NotFlat ?fk_NotFlat ?cg ?ctt ?dg ?dr ?df ?vf ?zv ?it ?a_NoFace ?t_NoFace ?c_NoFace ?s_NotFlat_NoFace ?a_Doubled ?t_Doubled ?c_Doubled ?s_NotFlat_Doubled ?a_NoTie ?t_NoTie ?c_NoTie ?s_NotFlat_NoTie ?a_Parted ?t_Parted ?c_Parted ?s_NotFlat_Parted ?s_NotFlat_NotFlat ?a_NotTied ?t_NotTied ?c_NotTied ?s_NotFlat_NotTied ?a_NotCornered ?t_NotCornered ?c_NotCornered ?s_NotFlat_NotCornered ?a_NoRim ?t_NoRim ?c_NoRim ?s_NotFlat_NoRim ?a_NoCorners ?t_NoCorners ?c_NoCorners ?s_NotFlat_NoCorners ?a_NoBase ?t_NoBase ?c_NoBase ?s_NotFlat_NoBase ?a_NoOrder ?t_NoOrder ?c_NoOrder ?s_NotFlat_NoOrder ?a_NoWoods ?t_NoWoods ?c_NoWoods ?s_NotFlat_NoWoods ?a_NoWeights ?t_NoWeights ?c_NoWeights ?s_NotFlat_NoWeights ?a_NoText ?t_NoText ?c_NoText ?s_NotFlat_NoText ?a_Alike ?t_Alike ?c_Alike ?s_NotFlat_Alike ?a_Folded ?t_Folded ?c_Folded ?s_NotFlat_Folded ?s_NotFlat_V
  (case a1=>k_is);(case l1=>k_is);(case c1=>k_is);(case k1=>k_is)
  (case a2=>k_is);(case l2=>k_is);(case c2=>k_is);(case k2=>k_is)
  (case a3=>k_is);(case l3=>k_is);(case c3=>k_is);(case k3=>k_is)
  (case a4=>k_is);(case l4=>k_is);(case c4=>k_is);(case k4=>k_is)
  (case a5=>k_is);(case l5=>k_is);(case c5=>k_is);(case k5=>k_is)
  (case a6=>k_is);(case l6=>k_is);(case c6=>k_is);(case k6=>k_is)
  (case a7=>k_is);(case l7=>k_is);(case c7=>k_is);(case k7=>k_is)
  (case a8=>k_is);(case l8=>k_is);(case c8=>k_is);(case k8=>k_is)
  (case a9=>k_is);(case l9=>k_is);(case c9=>k_is);(case k9=>k_is)
  (case a10=>k_is);(case l10=>k_is);(case c10=>k_is);(case k10=>k_is)
  (case a11=>k_is);(case l11=>k_is);(case c11=>k_is);(case k11=>k_is)
  (case a12=>k_is);(case l12=>k_is);(case c12=>k_is);(case k12=>k_is)
  (case a13=>k_is);(case l13=>k_is);(case c13=>k_is);(case k13=>k_is)
  (case a14=>k_is);(case l14=>k_is);(case c14=>k_is);(case k14=>k_is)
  (case a15=>k_is);(case l15=>k_is);(case c15=>k_is);(case k15=>k_is)
  (case a16=>k_is);(case l16=>k_is);(case c16=>k_is);(case k16=>k_is)
  (case a17=>k_is);(case l17=>k_is);(case c17=>k_is);(case k17=>k_is)
  (case a18=>k_is);(case l18=>k_is);(case c18=>k_is);(case k18=>k_is)
  (case a19=>k_is);(case l19=>k_is);(case c19=>k_is);(case k19=>k_is)
  (case a20=>k_is);(case l20=>k_is);(case c20=>k_is);(case k20=>k_is)
  (case a21=>k_is);(case l21=>k_is);(case c21=>k_is);(case k21=>k_is)
  (case a22=>k_is);(case l22=>k_is);(case c22=>k_is);(case k22=>k_is)
  (case a23=>k_is);(case l23=>k_is);(case c23=>k_is);(case k23=>k_is)
  (case a24=>k_is);(case l24=>k_is);(case c24=>k_is);(case k24=>k_is)
  (case a25=>k_is);(case l25=>k_is);(case c25=>k_is);(case k25=>k_is)
  (case a26=>k_is);(case l26=>k_is);(case c26=>k_is);(case k26=>k_is)
  (case a27=>k_is);(case l27=>k_is);(case c27=>k_is);(case k27=>k_is)
  (case a28=>k_is);(case l28=>k_is);(case c28=>k_is);(case k28=>k_is)
  (case a29=>k_is);(case l29=>k_is);(case c29=>k_is);(case k29=>k_is)
  (case a30=>k_is);(case l30=>k_is);(case c30=>k_is);(case k30=>k_is)
  (case a31=>k_is);(case l31=>k_is);(case c31=>k_is);(case k31=>k_is)
  (case a32=>k_is);(case l32=>k_is);(case c32=>k_is);(case k32=>k_is)
  (case a33=>k_is);(case l33=>k_is);(case c33=>k_is);(case k33=>k_is)
  (case a34=>k_is);(case l34=>k_is);(case c34=>k_is);(case k34=>k_is)
  (case a35=>k_is);(case l35=>k_is);(case c35=>k_is);(case k35=>k_is)
  (case a36=>k_is);(case l36=>k_is);(case c36=>k_is);(case k36=>k_is)
  (case a37=>k_is);(case l37=>k_is);(case c37=>k_is);(case k37=>k_is)
  (case a38=>k_is);(case l38=>k_is);(case c38=>k_is);(case k38=>k_is)
  (case a39=>k_is);(case l39=>k_is);(case c39=>k_is);(case k39=>k_is)
  (case y1=>k_is);(case y2=>k_is);(case y3=>k_is);(case y4=>k_is)
  (case y5=>k_is);(case y6=>k_is);(case y7=>k_is);(case y8=>k_is)
  (case y9=>k_is);(case y10=>k_is);(case y11=>k_is);(case y12=>k_is)
  (case y13=>k_is);(case y14=>k_is);(case a_DrawError=>k_is);(case l_DrawError=>k_is)
  (case t_DrawError=>k_is);(case sa_DrawError=>k_is);(case ga_DrawError=>k_is);(case gh_DrawError=>k_is)
  (case cl_DrawError=>k_is);(case i_DrawError=>k_is);(case f_DrawError=>k_is);(case k_DrawError=>k_is)
  (case fl_DrawError=>k_is);(case fc_DrawError=>k_is);(case fk_DrawError=>k_is);(case a_NotFlat=>k_is)
  (case l_NotFlat=>k_is);(case t_NotFlat=>k_is);(case sa_NotFlat=>k_is);(case ga_NotFlat=>k_is)
  (case gh_NotFlat=>k_is);(case cl_NotFlat=>k_is);(case n_NotFlat=>k_is);(case i_NotFlat=>k_is)
  (case f_NotFlat=>k_is);(case k_NotFlat=>k_is);(case fl_NotFlat=>k_is);(case fc_NotFlat=>k_is)
  (case fk_NotFlat=>k_is);(case cg=>k_is);(case ctt=>k_is);(case dg=>k_is)
  (case dr=>k_is);(case df=>k_is);(case vf=>k_is);(case zv=>k_is)
  (case it=>k_is);(case a_NoFace=>k_is);(case t_NoFace=>k_is);(case c_NoFace=>k_is)
  (case s_NotFlat_NoFace=>k_is);(case a_Doubled=>k_is);(case t_Doubled=>k_is);(case c_Doubled=>k_is)
  (case s_NotFlat_Doubled=>k_is);(case a_NoTie=>k_is);(case t_NoTie=>k_is);(case c_NoTie=>k_is)
  (case s_NotFlat_NoTie=>k_is);(case a_Parted=>k_is);(case t_Parted=>k_is);(case c_Parted=>k_is)
  (case s_NotFlat_Parted=>k_is);(case s_NotFlat_NotFlat=>k_is);(case a_NotTied=>k_is);(case t_NotTied=>k_is)
  (case c_NotTied=>k_is);(case s_NotFlat_NotTied=>k_is);(case a_NotCornered=>k_is);(case t_NotCornered=>k_is)
  (case c_NotCornered=>k_is);(case s_NotFlat_NotCornered=>k_is);(case a_NoRim=>k_is);(case t_NoRim=>k_is)
  (case c_NoRim=>k_is);(case s_NotFlat_NoRim=>k_is);(case a_NoCorners=>k_is);(case t_NoCorners=>k_is)
  (case c_NoCorners=>k_is);(case s_NotFlat_NoCorners=>k_is);(case a_NoBase=>k_is);(case t_NoBase=>k_is)
  (case c_NoBase=>k_is);(case s_NotFlat_NoBase=>k_is);(case a_NoOrder=>k_is);(case t_NoOrder=>k_is)
  (case c_NoOrder=>k_is);(case s_NotFlat_NoOrder=>k_is);(case a_NoWoods=>k_is);(case t_NoWoods=>k_is)
  (case c_NoWoods=>k_is);(case s_NotFlat_NoWoods=>k_is);(case a_NoWeights=>k_is);(case t_NoWeights=>k_is)
  (case c_NoWeights=>k_is);(case s_NotFlat_NoWeights=>k_is);(case a_NoText=>k_is);(case t_NoText=>k_is)
  (case c_NoText=>k_is);(case s_NotFlat_NoText=>k_is);(case a_Alike=>k_is);(case t_Alike=>k_is)
  (case c_Alike=>k_is);(case s_NotFlat_Alike=>k_is);(case a_Folded=>k_is);(case t_Folded=>k_is)
  (case c_Folded=>k_is);(case s_NotFlat_Folded=>k_is);(case s_NotFlat_V=>k_is)
