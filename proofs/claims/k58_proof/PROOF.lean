import PyProof.Rows.All
import Wide.All
import OpenK.AllK
import Wide.FinOn
import Lean
import PyProof.EqAt
import PyProof.EqKinds
import PyProof.TupleCall
import PyProof.Rows.SortRunsK
import PyProof.Rows.Walk
import KE.KSortTup
import PyProof.ListRange
import PyProof.Rows.SetFrom
import PySem.Challenge.RW_restdraw_k58_whole_each_face_made_once
set_option Elab.async false
set_option linter.all false
set_option maxRecDepth 100000
local macro_rules | `(tactic| omega)=>`(tactic| lia)
noncomputable section
open List renaming getElem?_eq_getElem->aa,getD_eq_getElem?_getD->ai,length_map->ao,getElem?_eq_some_iff->aq,mem_append_left->az,getElem?_append_right->bb,nodup_append->be,getElem?_append_left->bg,getElem?_map->bh,mem_append_right->bu,mem_append->bz,length_append->cg,range->cu,append_assoc->cv,mem_singleton->cy,mem_cons_of_mem->dj,pairwise_append->dr,mem_cons->du,map_append->eI,length_take->eK,getLast?_eq_some_getLast->eN,mem_cons_self->eQ,dropLast_concat_getLast->eR,mem_iff_getElem->eU,size_toArray->eV,take_append_drop->eW,length_cons->eX,getLast?_append->eY,mem_of_getElem?->eg,getLast?_eq_getElem?->eh,nodup_cons->fc,replicate->fh,mem_filter->fj,map_cons->ft,length_range->fv,length->fz,idxOf_lt_length_of_mem->gh,length_singleton->gi,getElem_mem->gk,take_of_length_le->gn,mem_range->gw,cons_append->iC,getElem?_concat_length->iE,getLastD_eq_getLast?->iG,append_nil->iN,mem_map->iO,length_drop->iP,length_eq_zero_iff->iY,take_succ->ig,length_nil->ir,Nodup->iz,getElem?_set_ne->ja,range'->jb,pairwise_iff_getElem->jc,getElem?_set_self->je,perm_append_comm->jg,take_length->ji,drop_eq_nil_of_le->jl,nil_append->jr,getLast?_concat->jt,filter_append->jz,pairwise_map->ke,not_mem_nil->kh,pairwise_singleton->lh,drop_eq_getElem_cons->md,perm_ext_iff_of_nodup->mo,getElem?_zip_eq_some->mq,extract_eq_take_drop->mv,map_take->ni,length_filter_le->og,getElem?_take_of_lt->oh,filter_cons_of_pos->oz,filter_cons_of_neg->pd,filter_eq_nil_iff->qb,lookup_cons->qc,mem_reverse->qe,eq_nil_or_concat->qi,take_left'->qt,getElem?_eq_none->qv,mem_of_mem_take->rj,getElem_inj->sd,all_eq_true->sh,nodup_range->si,filter_cons->tz,map_drop->ua,foldl_cons->ue,drop_left'->uf,replicate_succ->uh,range'_succ->uj,concat_eq_append->uo,append_of_mem->ux,flatMap_singleton->va,find?_cons->vc,length_replicate->vg,flatten_cons->vk,filterMap_cons->vw,mem_of_mem_tail->wc,reverse_append->we,length_reverse->wg,cons_ne_nil->wm,drop_append->wo,flatMap_append->wx,length_zip->xr,filter_nil->xu,length_set->ya,pairwise_mergeSort->yc,getLast?_cons_cons->yd,reverse_cons->yh,getElem?_inj->yl,getElem_take->yn,take_zero->yo,pairwise_reverse->yq,nodup_nil->yt,range_succ->yv,mem_flatMap->yw,perm_middle->yy,any_eq_true->zc,any_cons->ze,take_append_of_le_length->zg,mem_of_getLast?->zi,mergeSort_perm->AD,map_congr_left->AE,filter_eq_self->AF,map_eq_nil_iff->AH,of_mem_zip->AW,filterMap_map->AY,nodup_iff_pairwise_ne->Ac,pairwise_cons->Ae,getElem_drop->Ap,ext_getElem?->Aq,reverse_perm->Ar,map_map->As,mem_range'_1->Au,sum_cons->Az,zipIdx_cons->BG,ext_getElem->BI,drop_drop->BJ,map_snd_zip->BK,pairwise_lt_range->BW,forIn_cons->Ba,pairwise_flatMap->Bh,getElem?_reverse->Bi,getElem?_toArray->Bj,tail_cons->Bo,reverse_reverse->Bp,range_eq_range'->Br,range'_append_1->Bs,getElem?_range'->Bt,map_nil->Bw,length_flatMap->By,getElem?_range->CA,length_pos_iff->CB,mem_filterMap->CI,length_range'->CO,zip_cons_cons->CQ,getElem_idxOf->CY,ne_nil_of_mem->CZ,getElem?_tail->Ca,mem_replicate->Cb,take_sublist->Ci,foldl_append->Ct,take_append->DK,getElem_zip->DQ,length_tail->DR,map_fst_zip->DT,flatMap_def->DU,zipIdx_nil->Df,sum_append->Dg,filter_map->Dh,foldl->Dy,forIn_nil->EC,drop_take->EG,take_take->EH,drop_zero->EI,all_cons->Ep,drop->FA,take->Fo
open PySem renaming wpAny_bind->ae,Value->ar,Addr->av,Shared->ay,wpAny_pure->bx,mainGlobals->cq,boot_len->di,wpAny->eD,FuncData->ed,Program->eo,Around->fb,Heap->gy,World->iD,Expr->iJ,mem_of_lookup->iQ,wpAny_newObj_type->iX,wpAny_holding->jw,wpAny_field->kg,NameKind->kl,wpAny_callSpecial?_slot->lu,wpAny_truthy_bool->me,Stmt->nj,wpAny_comprehension_free->om,wpAny_dictEntries->oy,Scope->qa,wpAny_call_entry->qh,wpAny_pyIter_tuple->qj,wpAny_seqItems->qq,wpAny_passesOwn->rg,wpAny_standAt->ub,Fin->ui,wpAny_setField_rec->uv,IsPair->vh,wpAny_rule->vy,wpAny_newFunctionEnv->wa,Model->wq,wpAny_loadPart'->xn,wpAny_mono->xy,wpAny_typeOf->yg,wpAny_forIn_list->yu,wpAny_updateSeq_pair->zf,wpAny_execs_nil->zj,wpAny_dictEpoch->AA,pushCells_keeps->AC,codeAny_mono->AI,Builtin->AK,sizeLine->AM,wpAny_Call_Name_kw->AV,call_meets->Aa,wpAny_assign_Name->Ai,wpAny_pyIter_list->Aj,sizeLine_eq->Ak,slot_list_getitem->Al,wpAny_getItem_list_slice->Aw,Comprehension->Ax,wpAny_onRaise->Ay,wpAny_attempt->BB,noFill_tuple_add->BE,IsZip->BF,IsPart->BN,PyData->BQ,codeAny_builtin->Bb,size_of_entries->Bc,wpAny_isTrue_Compare1->Bf,exec_Assign_Name_used->Bg,seq_tuple_add->CC,evalPart_none->CD,wpAny_newList->CF,tupleKind_room_in1->CM,BindsTo->Cg,concat_meets->Cj,wpAny_sequenceKey->Ck,seqIndex_neg->Cm,wpAny_pyIter_enum->Cq,atKey_none_of_get->Cw,wpAny_eqBool_int->DC,wpAny_execs_cons->DD,DictEntry->DH,wpAny_isInstance->DM,wpAny_pyIter_zip->DO,seqIndex_of->DW,wpAny_letGo->DY,wpAny_tests_nil->Dd,codeAny_of_tree->De,wpAny_specialOf->Di,Paired->Dl,wpAny_Name->Do,wpAny_bindName->Dp,typeIs_int->Dx,fitsIndex_both->Dz,call->EA,wpAny_setField->EB,wpAny_newTuple->ED,wpAny_runValue->EJ,isSubtype_type->EK,Within->FB,CmpOp->FR,Params->Fb,Draws->Fi,Code->Fn
open PySem.Heap renaming get?_push_of_some->au,lt_size->cm,get?_push_size->cn,size_push->iu,SameBut->jd,get?_update_self->qu,get?_update_ne->wy,get?_update_other->BP
open Option.some renaming inj->bj,injEq->Cp
open PyProof.Rows renaming Keyed->bp,wpS_bind->ck,pendingOf->cx,arrOf->cz,wpS_pure->df,SortSt->eF,boot_tuple->fu,callWith_type1->ie,slot_tuple_getitem->ik,wpS_forRange->ip,SortKind->ko,wpS_modify->lj,wpS_mono->sj,failedOf->sk,boot_sorted->ug,boot_isinstance->vd,wpS_get->xp,boot_min->yr,reverseSlice'_eq->yz,get?_update_seq->zt,assignInOrder_cons->AQ,AllBare->Ah,listUpdate_at->BC,subscriptTail_builtinR->BO,boot_list->BX,boot_max->Bk,boot_all->Bl,IntsAre->Bv,entry_tuple_getitem->Bx,args_tuple_getitem->CJ,firstMet_length_le->CW,assignInOrder_nil->Cd,listItems_at->Cv,callWith_builtin1->DF,seqEpoch_at->DZ,IsTup->Dm,boot_range->Dq,slicePart_none->Du,Subscript_->Dv,boot_divmod->Ex,args_cons->FG,boot_bool->FJ,args_nil->FL,boot_abs->FM,boot_int->FN,boot_set->FO,Call_->FT,wpS_lift->FX,lt_int->FZ
open Nat renaming le_refl->bq,lt_of_lt_of_le->cj,ne_of_lt->dc,lt_or_ge->fe,zero_le->gm,le_trans->iA,min_eq_left->iq,le_of_lt->jj,lt_irrefl->jv,lt_of_le_of_lt->qm,sub_self->uz,add_assoc->vf,lt_succ_of_lt->vp,le_of_succ_le->vq,ne_of_gt->wk,lt_trichotomy->yk,le_succ->zh,zero_add->BR,le_mul_of_pos_left->BU,strongRecOn->Bd,sub_add_cancel->CT,add_sub_cancel->CV,le_of_eq->Cn,add_zero->Cs,mul_mod_right->Cu,sub_zero->Cz,lt_succ_self->DP,not_lt_zero->Dj,add_comm->FE,lt_trans->FF,div_one->FY
open PySem.W renaming Frag->cf,nsIn->cw,keepIn->dg,codeIn->dh,fnOf->dn,mg_of->eA,mg_none_of->fk,kia_one->jx,methodObj->Ag,cellsFrom_some->BM,instObj->BY,OpenLaw->BZ,lookIn->Bn,kitx_list->Ce,kitx_dict->Cf,plainGet->DE,findIn->Dr,kitOne->Ds,WalkO->Er
open List.Nodup renaming length_le_of_subset->de
open Bool renaming false_ne_true->dq,false_eq_true->eC,and_eq_true->eZ,eq_iff_iff->gx,not_true->xf,or_eq_true->zr,false_and->Bm,not_eq_true'->Cr,not_false->EF
open Or renaming inl->dw,inr->DI
open PySem.F renaming plainAttrs_list->eE,slot_list_append->iH,type_list_append->iI,slot_list_index->jo,type_list_index->jq,slot_tuple_iterator_next->qp,called_set->vb,args_tuple_add_2->wz,slot_list_insert->xg,type_list_insert->xh,plainAttrs_tuple->xj,slot_tuple_index->xk,type_tuple_index->xm,entry_tuple_add->yb,slot_tuple_add->ye,args_tuple_iterator_next_1->zq,slot_zip_next->AB,entry_tuple_iterator_next->AJ,slot_dict_update->BD,args_zip_next_1->DA,entry_zip_next->DN,slot_int_rmul->Dc
open Option renaming map_eq_some_iff->eJ,map_some->ph,isSome_iff_exists->Av,isSome_some->CL,toList_some->Cc,isSome_map->Co,getD_none->DG,bind_some->DJ,none->FU,map->Fg
open Array renaming length_toList->fm,toList_append->fq,size_push->iK,size_extract->jf,getElem?_toList->kj,mem_toList_iff->se,toList_extract->so,toList_push->tu,size_append->vm,toList_reverse->wd,toList_setIfInBounds->Ad,getElem_mem->An,size_setIfInBounds->BA,toList_modify->Bz,size_reverse->CP,isEmpty_iff->Cy,toList->FC,getD->Ff
open PySem.PassesOwn renaming never->iM
open PySem.PyData renaming eqvAll->iR,eqv->iw,canLayAll0->jm,int->ju,canLay0->kq,depthAll->kr,depth->ou
open PySem.Builtin.SmallTypes renaming nextOf->iU,ownedTupleIsFree->km,ownedTupleHandOut->wu
open Classical renaming byContradiction->iV,choose_spec->nh,choose->uk
open ForInStep renaming yield->iW,done->wb
open PySem.NameKind renaming cell->iZ,free->xc
open PySem.Heap.SameBut renaming update->jh,refl->yj
open PySem.Value renaming ref->ki,int->qz,none->xw,type->xx,bool->AN,str->DB,isStrOf->Eb,isInt->FP,float->FQ
open Int renaming toNat_natCast->mh,fdiv_eq_ediv_of_nonneg->AR,fmod_eq_emod_of_nonneg->AU,emod_lt_of_pos->Af,emod_nonneg->Be,ediv_one->FD,zero_add->FH
open PySem.SeqAt renaming shaped->mj,EqAt->Dw
open Std.Legacy.Range renaming forIn_eq_forIn_range'->ow,size->yp
open Prod renaming ext->qk,fst->Ab,snd->BH
open PySem.Builtin.Slice renaming slicePlaces->qx,sliceAdjust->wt,sliceApplied->AX,slicePartIndex->Da,sliceFields->EY
open List.Perm renaming trans->rh,append_right->uy,append_left->vj,refl->ym
open PySem.Builtin.Tuple renaming tupleExact->uc,tupleItemsOf->AZ,tupleIsExact->EE,tupleHashOf->EZ
open PySem.Obj renaming mapSeq->ud,data_mapDictKeys->wj,isFreed_of_dict->AG,data_mapFields->CN,data_mapDict->DL
open Ne renaming symm->uq
open False renaming elim->ur
open True renaming intro->uu
open PySem.Paired renaming length->ve,snoc->FV
open PySem.Builtin.List renaming listTooLong->xb,listExtendWith->AL
open PySem.Str renaming ofString->yf
open Sum renaming inl->zd,inr->Bu
open PySem.Builtin.Dict renaming entriesForEmpty->zv,updateFrom->BL,mergeDict->BV,quietEq->Bq,readDirectly->Ea,selfAndRest->Eu,addKeywords->Ew,showsAll->FK,merge->Fh
open PySem.Calls renaming Name_function_global->AO
open List.Pairwise renaming nil->Am,imp_of_mem->Es,map->Fj
open Iff renaming rfl->Ao
open PyProof.Rows.SortSt renaming mk'->BS
open PySem.SeqAt.EqAt renaming int_str->CG,str_int->CH
open PySem.Heap.IsSliceOf renaming new->CK
open PySem.Code renaming quiet_builtin->CU
open Sum.inl renaming inj->DV
open PySem.Shared renaming heap->DX
open PySem.Builtin.Frozenset renaming updateFrom->Dk
open PySem.EqNone renaming eq_none_none->EL,eq_none_bool->EM,eq_bool_none->EN,ne_none_none->ES,ne_none_bool->ET,ne_bool_none->EU,eq_none_int->Ec,eq_none_str->Ed,eq_int_none->Ee,eq_str_none->Eg,ne_none_int->Ei,ne_none_str->Ej,ne_int_none->Ek,ne_str_none->Em
open PySem.EqMixed renaming eq_bool_str->EO,eq_str_bool->ER,ne_bool_str->EV,ne_str_bool->EW,eq_int_str->Ef,eq_str_int->Eh,ne_int_str->El,ne_str_int->Eo
open PySem.W.Looks renaming of_pure->Et
open PySem.Builtin.Range renaming rangeSize->Ey
open And renaming intro->Ez
open PySem.IsRange renaming new->FS
open PySem.MeetsSeq.EqGives renaming int->FW
open PySem.W.WShape renaming has->Fd
open PUnit renaming unit->Fe
open PySem.Flow renaming next->Fk
open PySem.W.WData renaming int->Fm
theorem yS0:0<=AM:=by decide
theorem yS1:1<=AM:=by decide
theorem yS2:2<=AM:=by decide
theorem yS3:3<=AM:=by decide
namespace L2
open PySem PySem.Spec PyProof.Rows
abbrev Key:=Sum Int Str
def mR:Key->ar->Bool
 | .inl k,v=>FP k v
 | .inr x,v=>Eb x v
def kPD (w:iD):Key->Int
 | .inl k=>hashInt k
 | .inr x=>hashStr w x
theorem jG:∀ {k:Key} {v:ar},mR k v=true->(∃ i t,k=zd i/\v=qz i t)\/(∃ x t,k=Bu x/\v=DB x t)
 | .inl i,v,h=>by
  obtain ⟨t,e⟩:=Value.isInt_shape (k:=i) (v:=v) h;exact .inl ⟨i,t,rfl,e⟩
 | .inr x,v,h=>by
  obtain ⟨t,e⟩:=Value.isStrOf_shape (x:=x) (v:=v) h;exact .inr ⟨x,t,rfl,e⟩
theorem kDU (i:Int) (t:Tok):mR (.inl i) (.int i t)=true:=by simp [mR,FP]
theorem kDT (x:Str) (t:Tok):mR (.inr x) (.str x t)=true:=by simp [mR,Eb]
theorem kMI (a b:Int):decide ((zd a:Key)=zd b)=(a == b):=by
 by_cases e:a=b
 ·subst e;simp
 ·have h:¬ (zd a:Key)=zd b:=λ q=>e (DV q)
  rw [decide_eq_false h];exact (beq_eq_false_iff_ne.mpr e).symm
theorem kMF (a b:Str):decide ((Bu a:Key)=Bu b)=decide (a=b):=by
 by_cases e:a=b
 ·subst e;simp
 ·have h:¬ (Bu a:Key)=Bu b:=λ q=>e (Sum.inr.inj q)
  rw [decide_eq_false h,decide_eq_false e]
theorem kMH (a:Int) (b:Str):decide ((zd a:Key)=Bu b)=false:=decide_eq_false (λ q=>nomatch q)
theorem kMG (a:Str) (b:Int):decide ((Bu a:Key)=zd b)=false:=decide_eq_false (λ q=>nomatch q)
def qX (prog:eo) (w:iD):PySem.KeyKind prog w Key where
 is:=mR
 hash:=kPD w
 inj:=λ v a b ha hb=>by
  rcases jG ha with ⟨i,t,rfl,rfl⟩ | ⟨x,t,rfl,rfl⟩
  ·rcases jG hb with ⟨j,u,rfl,e⟩ | ⟨y,u,rfl,e⟩
   ·injection e with e1 _;rw [e1]
   ·exact nomatch e
  ·rcases jG hb with ⟨j,u,rfl,e⟩ | ⟨y,u,rfl,e⟩
   ·exact nomatch e
   ·injection e with e1 _;rw [e1]
 byValue:=λ k v h=>by
  rcases jG h with ⟨i,t,rfl,rfl⟩ | ⟨x,t,rfl,rfl⟩<;>rfl
 pyHash:=λ hv h=>by
  rcases jG hv with ⟨i,t,rfl,rfl⟩ | ⟨x,t,rfl,rfl⟩
  ·exact wpAny_pyHash_int h
  ·exact wpAny_pyHash_str h
 eqBool:=λ hu hv h=>by
  rcases jG hu with ⟨i,t,rfl,rfl⟩ | ⟨x,t,rfl,rfl⟩
  ·rcases jG hv with ⟨j,u,rfl,rfl⟩ | ⟨y,u,rfl,rfl⟩
   ·rw [kMI] at h;exact DC h
   ·rw [kMH] at h;exact CG i t y u _ _ _ _ h
  ·rcases jG hv with ⟨j,u,rfl,rfl⟩ | ⟨y,u,rfl,rfl⟩
   ·rw [kMG] at h;exact CH x t j u _ _ _ _ h
   ·rw [kMF] at h;exact wpAny_eqBool_str h
 «strs»:=λ k x t v h=>by
  rcases jG h with ⟨i,u,rfl,e⟩ | ⟨y,u,rfl,e⟩
  ·exact nomatch e
  ·injection e with e1 _
   subst e1;cases v<;>rfl
theorem rY (prog:eo) (w:iD) (i:Int) (t:Tok):(qX prog w).is (.inl i) (.int i t)=true:=kDU i t
theorem rX (prog:eo) (w:iD) (x:Str) (t:Tok):(qX prog w).is (.inr x) (.str x t)=true:=kDT x t
inductive V where
 | non | bl (b:Bool) | int (i:Int) | str (x:Str) | byt (b:Array UInt8) | flt (b:UInt64) | ref (a:av) | ty (n:String)
 deriving DecidableEq
def RelV:V->ar->Prop
 | .non,u=>u=xw
 | .bl b,u=>u=AN b
 | .int i,u=>∃ t,u=qz i t
 | .str x,u=>∃ t,u=DB x t
 | .byt b,u=>∃ t,u=Value.bytes b t
 | .flt b,u=>∃ t,u=FQ b t
 | .ref a,u=>u=ki a
 | .ty n,u=>u=xx n
abbrev Vals:List V->List ar->Prop:=Dl RelV
theorem Vals.length {xs:List V} {us:List ar} (r:Vals xs us):xs.length=us.length:=ve r
theorem Vals.get:∀ {xs:List V} {us:List ar} {i:Nat} {x:V},Vals xs us->xs[i]?=some x->∃ u,us[i]?=some u/\RelV x u
 | _,_,_,_,.nil,e=>by simp at e
 | _,_,0,_,.cons r _,e=>by simp at e;subst e;exact ⟨_,rfl,r⟩
 | _,_,i+1,x,.cons _ t,e=>by
  obtain ⟨u,h1,h2⟩:=Vals.get (i:=i) (x:=x) t (by simpa using e);exact ⟨u,by simpa using h1,h2⟩
theorem Vals.set {x:V} {u:ar} (r:RelV x u):∀ {xs:List V} {us:List ar} (i:Nat),Vals xs us->Vals (xs.set i x) (us.set i u)
 | _,_,_,.nil=>.nil
 | _,_,0,.cons _ t=>.cons r t
 | _,_,i+1,.cons q t=>.cons q (Vals.set r i t)
theorem Vals.append:∀ {xs ys:List V} {us ws:List ar},Vals xs us->Vals ys ws->Vals (xs++ys) (us++ws)
 | _,_,_,_,.nil,s=>s
 | _,_,_,_,.cons r t,s=>.cons r (Vals.append t s)
theorem Vals.take:∀ {xs:List V} {us:List ar} (n:Nat),Vals xs us->Vals (xs.take n) (us.take n)
 | _,_,0,_=>.nil
 | _,_,_+1,.nil=>.nil
 | _,_,n+1,.cons r t=>.cons r (Vals.take n t)
theorem Vals.drop:∀ {xs:List V} {us:List ar} (n:Nat),Vals xs us->Vals (xs.drop n) (us.drop n)
 | _,_,0,r=>r
 | _,_,_+1,.nil=>.nil
 | _,_,n+1,.cons _ t=>Vals.drop n t
def RelO:Option V->Option ar->Prop
 | some v,some u=>RelV v u
 | none,none=>True
 | _,_=>False
def KV {κ:Type}:List (κ×V)->List (κ×ar)->Prop:=Dl λ (p:κ×V) (q:κ×ar)=>p.1=q.1/\RelV p.2 q.2
def kV:Key->V
 | .inl i=>.int i
 | .inr x=>.str x
inductive HO where
 | lst (xs:List V)
 | tup (xs:List V)
 | dK (kvs:List (Key×V)) | dT (kvs:List (List Key×V))
 | set (S:Int->Bool) (n:Nat)
 | ins (C dx:av) (fs:List (Str×V))
 | own (x:av)
 | xd (fs:List (Str×V))
 | met (f x:av)
 | rng (lo hi:Int)
 | frz (o:Obj) (u:HO)
 | tbl (ps:Array ar)
 | ext (φ:gy->Prop)
abbrev Hp:=av->Option HO
def upd (H:Hp) (a:av) (o:HO):Hp:=λ b=>if b=a then some o else H b
theorem kC {H:Hp} {a:av} {o:HO}:upd H a o a=some o:=by unfold upd;rw [if_pos rfl]
theorem kO {H:Hp} {a b:av} {o:HO} (h:b≠a):upd H a o b=H b:=by unfold upd;rw [if_neg h]
theorem vR {H:Hp} {a b:av} {o u:HO} (h:H a=some o) (h':H b=some u) (d:o≠u):a≠b:=by
 intro e;subst e;rw [h] at h';exact d (bj h')
theorem kH {H:Hp} {a b:av} {o:HO} (h:H a=some o) (h':H b=none):a≠b:=by
 intro e;subst e;rw [h] at h';cases h'
section
def IsTupN (h:gy) (a:av) (items:Array ar):Prop:=∃ o,h.get? a=some o/\o.cls=.type "tuple"/\∃ n,o.data=.seq items n/\o.dict=none
theorem IsTupN.isTup {h:gy} {a:av} {items:Array ar}:IsTupN h a items->Dm h a items:=λ ⟨o,e,c,n,d,_⟩=>⟨o,e,c,n,d⟩
theorem IsTupN.lt {h:gy} {a:av} {items:Array ar} (x:IsTupN h a items):a<h.objs.size:=x.isTup.lt
theorem IsTupN.new (h:gy) (items:Array ar):IsTupN (h.push { cls:=.type "tuple",data:=.seq items }) h.objs.size items:=⟨_,cn _ rfl,rfl,_,rfl,rfl⟩
variable (P:eo) (w:iD)
def ObjOk (H:Hp) (h:gy) (a:av):HO->Prop
 | .lst xs=>xs.length<=sizeLine/\∃ (its:List ar) (n:Nat),Vals xs its/\h.get? a=some { cls:=.type "list",data:=.seq its.toArray n }
 | .tup xs=>xs.length<=sizeLine/\∃ its:List ar,Vals xs its/\IsTupN h a its.toArray
 | .dK kvs=>kvs.length<=sizeLine/\(a == sysModules)=false/\∃ vs,KV kvs vs/\h.DictOf (qX P w) a vs
 | .dT kvs=>kvs.length<=sizeLine/\(a == sysModules)=false/\∃ xs:List (List Key×av×ar),
   Dl (λ (p:List Key×V) (q:List Key×av×ar)=>p.1=q.1/\H q.2.1=some (.tup (p.1.map kV))/\RelV p.2 q.2.2) kvs xs /\
   ∃ o es ep,h.get? a=some o/\o.ExactDict/\o.data=.dict es ep/\es.toList=xs.map (entryOfKey (tupleKind (qX P w)))/\(xs.map (·.1)).Nodup
 | .set S n=>h.SetOf (intKind P w) a S n
 | .ins C dx fs=>H dx=some (.own a)/\fs.length<=1000/\dx≠a/\h.get? a=some (BY C dx) /\
   ∃ mA,h.Ns1 dx mA/\(∀ f,RelO (fs.lookup f) (mA f))/\FB mA (fs.map (·.1))
 | .own _=>∃ o,h.get? a=some o
 | .xd fs=>∃ mA,h.Ns1 a mA/\∀ f,RelO (fs.lookup f) (mA f)
 | .rng lo hi=>∃ t u v,h.get? a=some { cls:=.type "range",data:=.fields #[.int lo t,.int hi u,.int 1 v] }
 | .frz o u=>h.get? a=some o/\ObjOk H h a u
 | .tbl ps=>h.get? a=some { cls:=.none,data:=.fields ps }
 | .met f x=>h.get? a=some (Ag (.ref f) (.ref x))
 | .ext φ=>φ h/\(∃ o,h.get? a=some o)/\∀ h1 h2:gy,φ h1->(∀ o,h1.get? a=some o->h2.get? a=some o)->φ h2
def HOk (H:Hp) (h:gy):Prop:=∀ a o,H a=some o->ObjOk P w H h a o
end
section
variable {P:eo} {w:iD} {H H':Hp} {h h':gy} {a:av} {o:HO}
theorem ObjOk.lt (x:ObjOk P w H h a o):a<h.objs.size:=by
 cases o with
 | lst xs=>obtain ⟨_,_,_,_,e⟩:=x;exact cm e
 | tup xs=>obtain ⟨_,_,_,p⟩:=x;exact p.lt
 | dK kvs=>obtain ⟨_,_,_,_,o,_,_,e,_⟩:=x;exact cm e
 | dT kvs=>obtain ⟨_,_,_,_,o,_,_,e,_⟩:=x;exact cm e
 | set S n=>obtain ⟨o,_,_,_,e,_⟩:=x;exact cm e
 | ins C dx fs=>obtain ⟨_,_,_,e,_⟩:=x;exact cm e
 | own y=>obtain ⟨_,e⟩:=x;exact cm e
 | xd fs=>obtain ⟨_,⟨_,_,_,e,_⟩,_⟩:=x;exact cm e
 | rng lo hi=>obtain ⟨_,_,_,e⟩:=x;exact cm e
 | frz ob u=>obtain ⟨e,_⟩:=x;exact cm e
 | tbl ps=>exact cm (show h.get? a=some _ from x)
 | met f y=>exact cm (show h.get? a=some _ from x)
 | ext φ=>obtain ⟨_,⟨_,e⟩,_⟩:=x;exact cm e
theorem Paired.mapP {α β:Type} {F G:α->β->Prop}:∀ {l₁:List α} {l₂:List β},Dl F l₁ l₂->(∀ a b,F a b->G a b)->Dl G l₁ l₂
 | _,_,.nil,_=>.nil
 | _,_,.cons r t,f=>.cons (f _ _ r) (Paired.mapP t f)
theorem ObjOk.stay (x:ObjOk P w H h a o) (k:∀ b u,(b=a\/H b=some (.own a))->h.get? b=some u->h'.get? b=some u)
  (ho:∀ b,H b=some (.own a)->H' b=some (.own a)) (ht:∀ b xs,H b=some (.tup xs)->H' b=some (.tup xs)):ObjOk P w H' h' a o:=by
 induction o with
 | lst xs=>obtain ⟨z,its,n,r,e⟩:=x;exact ⟨z,its,n,r,k _ _ (.inl rfl) e⟩
 | tup xs=>obtain ⟨z,its,r,ob,e,c⟩:=x;exact ⟨z,its,r,ob,k _ _ (.inl rfl) e,c⟩
 | dK kvs=>obtain ⟨z,y,vs,r,ob,es,ep,e,c⟩:=x;exact ⟨z,y,vs,r,ob,es,ep,k _ _ (.inl rfl) e,c⟩
 | dT kvs =>
  obtain ⟨z,y,xs,r,ob,es,ep,e,c⟩:=x;exact ⟨z,y,xs,Paired.mapP r λ p q z=>⟨z.1,ht _ _ z.2.1,z.2.2⟩,ob,es,ep,k _ _ (.inl rfl) e,c⟩
 | set S n=>obtain ⟨ob,es,ep,t,e,c⟩:=x;exact ⟨ob,es,ep,t,k _ _ (.inl rfl) e,c⟩
 | ins C dx fs =>
  obtain ⟨d,z,ne,e,mA,⟨od,es,ep,e2,c⟩,r⟩:=x;exact ⟨ho _ d,z,ne,k _ _ (.inl rfl) e,mA,⟨od,es,ep,k _ _ (.inr d) e2,c⟩,r⟩
 | own y=>obtain ⟨ob,e⟩:=x;exact ⟨ob,k _ _ (.inl rfl) e⟩
 | xd fs=>obtain ⟨mA,⟨od,es,ep,e,c⟩,r⟩:=x;exact ⟨mA,⟨od,es,ep,k _ _ (.inl rfl) e,c⟩,r⟩
 | rng lo hi=>obtain ⟨t,u,v,e⟩:=x;exact ⟨t,u,v,k _ _ (.inl rfl) e⟩
 | frz ob u ih=>obtain ⟨e,q⟩:=x;exact ⟨k _ _ (.inl rfl) e,ih q⟩
 | tbl ps =>
  have e:h.get? a=some { cls:=.none,data:=.fields ps }:=x;show h'.get? a=some { cls:=.none,data:=.fields ps };exact k a _ (.inl rfl) e
 | met f y =>
  have e:h.get? a=some (Ag (.ref f) (.ref y)):=x;show h'.get? a=some (Ag (.ref f) (.ref y));exact k a _ (.inl rfl) e
 | ext φ=>obtain ⟨p,⟨o,e⟩,st⟩:=x;exact ⟨st _ _ p λ o q=>k _ _ (.inl rfl) q,⟨o,k _ _ (.inl rfl) e⟩,st⟩
theorem HOk.lt (x:HOk P w H h) (e:H a=some o):a<h.objs.size:=(x a o e).lt
theorem HOk.fresh (x:HOk P w H h) (e:h.objs.size<=a):H a=none:=by
 cases q:H a with
 | none=>rfl
 | some u=>exact absurd (cj (x.lt q) e) (jv _)
theorem HOk.kept (x:HOk P w H h) (k:∀ b u,h.get? b=some u->h'.get? b=some u):HOk P w H h':=λ a o e =>
 (x a o e).stay (λ b u _ q=>k b u q) (λ _ q=>q) λ _ _ q=>q
theorem HOk.laid (x:HOk P w H h) (k:∀ b u,h.get? b=some u->h'.get? b=some u) (hp:h.objs.size<=a) (new:ObjOk P w (upd H a o) h' a o):HOk P w (upd H a o) h':=λ b u e=>by
 have hn:=x.fresh hp;by_cases hb:b=a
 ·subst hb;rw [kC] at e;cases e;exact new
 ·rw [kO hb] at e
  exact (x b u e).stay (λ c v _ q=>k c v q) (λ c q=>by rw [kO (kH q hn)];exact q) λ c xs q=>by rw [kO (kH q hn)];exact q
end
def Rd (H:Hp) (a:av) (u:HO):Prop:=H a=some u\/∃ o,H a=some (.frz o u)
theorem Rd.ok {P:eo} {w:iD} {H:Hp} {h:gy} {a:av} {u:HO} (r:Rd H a u) (x:HOk P w H h):ObjOk P w H h a u:=by
 rcases r with r | ⟨o,r⟩
 ·exact x a u r
 ·obtain ⟨_,q⟩:=x a _ r
  exact q
def Mut:Option HO->Prop
 | some (.lst _)=>True
 | some (.dK _)=>True
 | some (.dT _)=>True
 | some (.set _ _)=>True
 | some (.ins _ _ _)=>True
 | some (.ext _)=>True
 | _=>False
section
variable {P:eo} {w:iD} {H:Hp} {h h':gy} {x e:av} {o':HO}
theorem HOk.write (ok:HOk P w H h) (mu:Mut (H x)) (he:e=x\/H e=some (.own x)) (k:∀ b u,b≠e->h.get? b=some u->h'.get? b=some u) (heo:∃ u,h'.get? e=some u)
  (new:ObjOk P w (upd H x o') h' x o'):HOk P w (upd H x o') h':=λ b u q=>by
 have nown:∀ c y,H c=some (.own y)->c≠x:=λ c y r z=>by subst z;rw [r] at mu;exact mu
 have ntup:∀ c xs,H c=some (.tup xs)->c≠x:=λ c xs r z=>by subst z;rw [r] at mu;exact mu
 by_cases hb:b=x
 ·subst hb;rw [kC] at q;cases q;exact new
 ·rw [kO hb] at q
  by_cases hbe:b=e
  ·have q':H b=some (.own x):=by
    rcases he with z | z
    ·exact absurd (hbe.trans z) hb
    ·rw [hbe];exact z
   rw [q] at q';cases q';obtain ⟨v,hv⟩:=heo;exact ⟨v,by rw [hbe];exact hv⟩
  ·refine (ok b u q).stay (λ c v hc r=>k c v ?_ r) (λ c r=>by rw [kO (nown c b r)];exact r) λ c xs r=>by rw [kO (ntup c xs r)];exact r
   rcases hc with rfl | hc
   ·exact hbe
   ·rintro rfl
    rcases he with z | z
    ·exact nown c b hc z
    ·rw [hc] at z;cases z;exact hb rfl
end
structure Un (fs ex:List av) (H H':Hp) (h h':gy):Prop where
 keep:∀ b o,h.get? b=some o->H b=none->b∉fs->b∉ex->h'.get? b=some o
 slot:∀ b o,h.get? b=some o->H b=none->b∈fs->b∉ex->∃ sl,h'.get? b=some { o with slots:=sl }
 free:∀ b o,h.get? b=some o->H b=none->b∉ex->H' b=none
 there:∀ b o,h.get? b=some o->b∉ex->∃ o',h'.get? b=some o'
 tups:∀ b xs,H b=some (.tup xs)->H' b=some (.tup xs)
 frzs:∀ b o u,H b=some (.frz o u)->H' b=some (.frz o u)
 tbls:∀ b ps,H b=some (.tbl ps)->∃ more,H' b=some (.tbl (ps++more))
section
variable {fs fs' ex ex':List av} {H H1 H2:Hp} {h h1 h2 h':gy} {a x e:av} {o:HO}
theorem Un.any (u:Un fs ex H H1 h h1) {b:av} {ob:Obj} (q:h.get? b=some ob) (n:H b=none) (hx:b∉ex):∃ sl,h1.get? b=some { ob with slots:=sl }:=by
 by_cases hb:b∈fs
 ·exact u.slot b ob q n hb hx
 ·exact ⟨ob.slots,u.keep b ob q n hb hx⟩
theorem Un.kept (k:∀ b u,h.get? b=some u->h'.get? b=some u):Un fs ex H H h h' :=
 ⟨λ b ob q _ _ _=>k b ob q,λ b ob q _ _ _=>⟨ob.slots,k b ob q⟩,λ _ _ _ n _=>n,λ b ob q _=>⟨ob,k b ob q⟩,λ _ _ q=>q,λ _ _ _ q=>q,λ _ ps q=>⟨#[],by rw [q];simp⟩⟩
theorem Un.refl:Un fs ex H H h h:=Un.kept λ _ _ q=>q
theorem Un.laid (k:∀ b u,h.get? b=some u->h'.get? b=some u) (hp:h.objs.size<=a) (hn:H a=none):Un fs ex H (upd H a o) h h' where
 keep:=λ b u q _ _ _=>k b u q
 slot:=λ b u q _ _ _=>⟨u.slots,k b u q⟩
 free:=λ b u q n _=>by rw [kO (dc (cj (cm q) hp))];exact n
 there:=λ b u q _=>⟨u,k b u q⟩
 tups:=λ b xs q=>by rw [kO (kH q hn)];exact q
 frzs:=λ b u xs q=>by rw [kO (kH q hn)];exact q
 tbls:=λ b ps q=>⟨#[],by rw [kO (kH q hn),q];simp⟩
theorem Un.write (mu:Mut (H x)) (he:e=x\/H e=some (.own x)) (k:∀ b u,b≠e->h.get? b=some u->h'.get? b=some u) (heo:∃ u,h'.get? e=some u):Un fs ex H (upd H x o) h h':=by
 have hx:∀ b,H b=none->b≠x:=λ b n z=>by subst z;rw [n] at mu;exact mu
 have hb:∀ b,H b=none->b≠e:=λ b n z=>by
  subst z;rcases he with r | r
  ·exact hx b n r
  ·rw [n] at r;cases r
 have hm:∀ b u,H b=some u->¬ Mut (some u)->b≠x:=λ b u q nm z=>by subst z;rw [q] at mu;exact nm mu
 refine ⟨λ b u q n _ _=>k b u (hb b n) q,λ b u q n _ _=>⟨u.slots,k b u (hb b n) q⟩,λ b u q n _=>by rw [kO (hx b n)];exact n,λ b u q _=>?_,
  λ b xs q=>by rw [kO (hm b _ q λ z=>z)];exact q,λ b u xs q=>by rw [kO (hm b _ q λ z=>z)];exact q,λ b ps q=>⟨#[],by rw [kO (hm b _ q λ z=>z),q];simp⟩⟩
 by_cases hbe:b=e
 ·subst hbe;exact heo
 ·exact ⟨u,k b u hbe q⟩
end
def trk (h:gy) (H:Hp):List av:=(cu h.objs.size).filter λ a=>(H a).isSome
def pD (h:gy) (H:Hp):gy:=PySem.W.hideAll h (trk h H)
theorem kEA (h:gy) (H:Hp):(pD h H).objs.size=h.objs.size:=PySem.W.hideAll_size _ _
theorem kHC {h:gy} {H:Hp} {b:av} {o:Obj} (e:h.get? b=some o) (n:H b=none):(pD h H).get? b=some o :=
 PySem.W.hideAll_get _ e λ hm=>by
  have q:(H b).isSome=true:=(fj.mp hm).2;rw [n] at q;simp at q
theorem kJE {h:gy} {H:Hp} {b:av} {o:Obj} (e:(pD h H).get? b=some o):h.get? b=some o/\H b=none:=by
 have e':h.get? b=some o:=PySem.W.of_hideAll (trk h H) e;refine ⟨e',?_⟩
 cases q:H b with
 | none=>rfl
 | some x =>
  have hm:b∈trk h H:=fj.mpr ⟨gw.mpr (cm e'),by simp [q]⟩;have z:(pD h H).get? b=none:=PySem.W.hideAll_none (trk h H) hm;rw [z] at e;cases e
structure Mod (K:cf) (mg:Str->Option ar) (base:gy):Prop where
 kin:K.In base
 glob:base.Ns cq mg
 blt:∃ mb,base.Ns builtinsNs mb/\∀ x:Str,x≠"__name__"->mb x=bootBuiltins x
 nolimit:base.NoLimit
structure Cx where
 prog:eo
 w:iD
 K:cf
 mg:Str->Option ar
 base:gy
 A:fb
 N:List Str
 s₀:ay
 H₀:Hp
 env:Env
 outer:List Env
 stack:List Env
 ex:List av
 fn:Str->Bool
 calm:Bool
 pn:List (av×Obj)
 xe:ar->ay->Prop
def frs (l:List Env):List av:=l.filterMap (·.frame)
abbrev Cx.fs (X:Cx):List av:=frs X.outer
def Vis (sc:qa) (x:Str):Prop:=sc.names.lookup x=some .local\/sc.names.lookup x=some .cell\/sc.names.lookup x=some .free
def Loc (sc:qa) (x:Str):Prop:=sc.names.lookup x=some .local\/sc.names.lookup x=some .cell
def kPK (env:Env) (h:gy) (m:Str->Option ar) (x:Str) (u:ar):Prop :=
 (env.kindOf x=some .local/\m x=some u)\/((env.kindOf x=some .cell\/env.kindOf x=some .free)/\∃ c,env.cells.lookup x=some c/\h.IsCell c (some u))
structure Cx.Ok (X:Cx):Prop where
 mod:Mod X.K X.mg X.base
 kind:X.env.scope.kind=.function
 glob:X.env.globals=cq
 blt:X.env.builtins=builtinsNs
 above:X.s₀.heap.objs.size<=X.env.locals
 inj:∀ x y c,X.env.cells.lookup x=some c->X.env.cells.lookup y=some c->x=y
 has:∀ x,(X.env.kindOf x=some .cell\/X.env.kindOf x=some .free)->∃ c,X.env.cells.lookup x=some c
 cab:∀ x c,X.fn x=true->X.env.cells.lookup x=some c->X.s₀.heap.objs.size<=c
 hd:X.calm=true->X.A.handled=none
 frames:X.A.frames=some X.stack
 stk:X.stack=X.outer\/(X.stack=X.env::X.outer/\X.env.frame=some X.env.locals)
 exf:∀ b∈X.ex,b≠X.env.locals/\∀ x c,X.env.cells.lookup x=some c->c≠b
 bs:∀ b o,X.base.get? b=some o->X.s₀.heap.get? b=some o/\X.H₀ b=none
 bsz:X.base.objs.size<=X.s₀.heap.objs.size
 noex:∀ b o,X.base.get? b=some o->b∉X.ex
 exfs:∀ b∈X.ex,b∉X.fs
 funs:X.s₀.heap.FunFrames X.base X.outer
 frf:∀ b∈X.fs,X.H₀ b=none
structure Inv (X:Cx) (pins:List (av×Obj)) (σ:List (Option V)) (H:Hp) (s:ay):Prop where
 ok:X.Ok
 os:s.os=X.s₀.os
 bare:Ah s.gens
 base:Un X.fs X.ex X.H₀ H X.s₀.heap s.heap
 loc:∃ m,s.heap.Ns X.env.locals m/\∀ (i:Nat) (x:Str) (v:V),X.N[i]?=some x->σ[i]?=some (some v)->Vis X.env.scope x->∃ u,RelV v u/\kPK X.env s.heap m x u
 cell:∀ x c,X.env.cells.lookup x=some c->∃ v,s.heap.IsCell c v
 free:H X.env.locals=none
 freeC:∀ x c,X.env.cells.lookup x=some c->H c=none
 pin:∀ p∈X.pn++pins,s.heap.get? p.1=some p.2/\H p.1=none/\p.1≠X.env.locals/\p.1∉X.fs/\∀ v,p.2.data≠.cell v
 hok:HOk X.prog X.w H s.heap
 len:σ.length=X.N.length
section
variable {X:Cx} {pins:List (av×Obj)} {σ:List (Option V)} {H H':Hp} {s:ay} {h':gy}
theorem Cx.Ok.nofr (ok:X.Ok) {b:av} {o:Obj} (e:X.base.get? b=some o):b∉X.fs:=λ hb=>by
 have:=(ok.funs.mem hb).1;rw [e] at this;cases this
theorem Inv.bs (I:Inv X pins σ H s):∀ b o,X.base.get? b=some o->s.heap.get? b=some o/\H b=none:=λ b o e =>
 ⟨I.base.keep b o (I.ok.bs b o e).1 (I.ok.bs b o e).2 (I.ok.nofr e) (I.ok.noex b o e),I.base.free b o (I.ok.bs b o e).1 (I.ok.bs b o e).2 (I.ok.noex b o e)⟩
theorem Inv.bk (I:Inv X pins σ H s):∀ b o,X.base.get? b=some o->s.heap.get? b=some o:=λ b o e=>(I.bs b o e).1
theorem Inv.mod (I:Inv X pins σ H s):Mod X.K X.mg X.base:=I.ok.mod
theorem Inv.kIn (I:Inv X pins σ H s):X.K.In s.heap:=I.ok.mod.kin.keeps I.bk
theorem Inv.lt (I:Inv X pins σ H s):X.env.locals<s.heap.objs.size:=let ⟨_,hn,_⟩:=I.loc;hn.lt
theorem Inv.sz (I:Inv X pins σ H s):X.s₀.heap.objs.size<=s.heap.objs.size:=iA I.ok.above (jj I.lt)
theorem Inv.nofs (I:Inv X pins σ H s) {a:av} (h:s.heap.objs.size<=a):a∉X.fs:=λ hb=>by
 obtain ⟨_,o,ho,_⟩:=I.ok.funs.mem hb;exact absurd (cj (cm ho) (iA I.sz h)) (jv _)
theorem Inv.cne (I:Inv X pins σ H s):∀ x c,X.env.cells.lookup x=some c->c≠X.env.locals:=λ x c e z=>by
 obtain ⟨v,o,ho,hd⟩:=I.cell x c e;obtain ⟨m,⟨o',es,ep,ho',hd',_⟩,_⟩:=I.loc;rw [z,ho'] at ho;cases ho;rw [hd'] at hd;cases hd
theorem Inv.funs (I:Inv X pins σ H s):s.heap.FunFrames X.base X.outer:=by
 have all:∀ (l:List Env),(∀ b∈frs l,b∈X.fs)->X.s₀.heap.FunFrames X.base l->s.heap.FunFrames X.base l:=by
  intro l
  induction l with
  | nil=>intro _ _;trivial
  | cons env r ih =>
   intro hs hl;obtain ⟨hk,⟨L,o,hf,hn,ho,hd⟩,hr⟩:=hl;have hL:L∈X.fs:=hs L (by unfold frs;rw [vw,hf];exact eQ);obtain ⟨sl,e⟩:=I.base.slot L o ho (I.ok.frf L hL) hL λ z=>I.ok.exfs L z hL;exact ⟨hk,⟨L,_,hf,hn,e,hd⟩,ih (λ b hb=>hs b (by unfold frs;rw [vw,hf];exact dj _ hb)) hr⟩
 exact all X.outer (λ _ hb=>hb) I.ok.funs
theorem Inv.stack (I:Inv X pins σ H s):s.heap.FunFrames X.base X.stack:=by
 rcases I.ok.stk with e | ⟨e,hf⟩
 ·rw [e];exact I.funs
 ·rw [e]
  obtain ⟨m,hn,_⟩:=I.loc;refine .cons (by rw [I.ok.kind];decide) hf hn ?_ I.funs;exact Heap.get?_none_of_le (iA I.ok.bsz I.ok.above)
theorem Inv.stkSub (I:Inv X pins σ H s):∀ b∈frs X.stack,b∈X.env.locals::X.fs:=λ b hb=>by
 rcases I.ok.stk with e | ⟨e,hf⟩
 ·rw [e] at hb;exact dj _ hb
 ·rw [e] at hb
  unfold frs at hb;rw [vw,hf] at hb;exact hb
theorem Inv.stkFree (I:Inv X pins σ H s):∀ b∈frs X.stack,H b=none:=λ b hb=>by
 rcases du.mp (I.stkSub b hb) with e | hb
 ·rw [e];exact I.free
 ·obtain ⟨_,o,ho,_⟩:=I.ok.funs.mem hb
  exact I.base.free b o ho (I.ok.frf b hb) λ z=>I.ok.exfs b z hb
theorem Inv.step {g':Array GenState} {t':Nat} {d':Drawn} {ch:List av} (I:Inv X pins σ H s)
  (hch:∀ b∈ch,(b∈X.ex\/X.s₀.heap.objs.size<=b)/\b≠X.env.locals/\(∀ x c,X.env.cells.lookup x=some c->c≠b)/\∀ p∈X.pn++pins,p.1≠b)
  (keep:∀ b o,b≠X.env.locals->b∉X.fs->b∉ch->s.heap.get? b=some o->H b=none->h'.get? b=some o)
  (slot:∀ b o,b≠X.env.locals->b∈X.fs->b∉ch->s.heap.get? b=some o->H b=none->∃ sl,h'.get? b=some { o with slots:=sl }) (free:∀ b o,b∉ch->s.heap.get? b=some o->H b=none->H' b=none)
  (there:∀ b o,b∉ch->s.heap.get? b=some o->∃ o',h'.get? b=some o')
  (tups:∀ b xs,H b=some (.tup xs)->H' b=some (.tup xs)) (frzs:∀ b o u,H b=some (.frz o u)->H' b=some (.frz o u)) (tbls:∀ b ps,H b=some (.tbl ps)->∃ more,H' b=some (.tbl (ps++more)))
  (ns:∀ m,s.heap.Ns X.env.locals m->h'.Ns X.env.locals m) (hok:HOk X.prog X.w H' h') (hg:Ah g') :
  Inv X pins σ H' { s with heap:=h',gens:=g',drawn:=d',toks:=t' }:=by
 have neL:∀ b o,X.s₀.heap.get? b=some o->b≠X.env.locals:=λ b o e=>dc (cj (cm e) I.ok.above)
 have neC:∀ b o,X.s₀.heap.get? b=some o->b∉X.ex->b∉ch:=λ b o e hx hb=>by
  rcases (hch b hb).1 with z | z
  ·exact hx z
  ·exact absurd (cj (cm e) z) (jv _)
 have cellK:∀ x c,X.env.cells.lookup x=some c->∀ v,s.heap.IsCell c v->h'.IsCell c v:=λ x c e v ⟨o,ho,hd⟩=>by
  have nch:c∉ch:=λ z=>(hch c z).2.2.1 x c e rfl;by_cases hc:c∈X.fs
  ·obtain ⟨sl,q⟩:=slot c o (I.cne x c e) hc nch ho (I.freeC x c e)
   exact ⟨_,q,hd⟩
  ·exact ⟨o,keep c o (I.cne x c e) hc nch ho (I.freeC x c e),hd⟩
 refine ⟨I.ok,I.os,hg,⟨λ b o e n hb hx=>?_,λ b o e n hb hx=>?_,λ b o e n hx=>?_,λ b o e hx=>?_,λ b xs e=>tups b xs (I.base.tups b xs e),λ b o xs e=>frzs b o xs (I.base.frzs b o xs e),λ b ps e=>?_⟩,?_,λ x c e=>?_,?_,λ x c e=>?_,λ p hp=>?_,hok,I.len⟩
 ·exact keep b o (neL b o e) hb (neC b o e hx) (I.base.keep b o e n hb hx) (I.base.free b o e n hx)
 ·obtain ⟨sl,e1⟩:=I.base.slot b o e n hb hx
  obtain ⟨sl',e2⟩:=slot b _ (neL b o e) hb (neC b o e hx) e1 (I.base.free b o e n hx);exact ⟨sl',e2⟩
 ·obtain ⟨o',e1⟩:=I.base.there b o e hx
  exact free b o' (neC b o e hx) e1 (I.base.free b o e n hx)
 ·obtain ⟨o',e1⟩:=I.base.there b o e hx
  exact there b o' (neC b o e hx) e1
 ·obtain ⟨m1,e1⟩:=I.base.tbls b ps e
  obtain ⟨m2,e2⟩:=tbls b _ e1;exact ⟨m1++m2,by rw [e2,Array.append_assoc]⟩
 ·obtain ⟨m,hn,hl⟩:=I.loc
  refine ⟨m,ns m hn,λ i x v e1 e2 e3=>?_⟩;obtain ⟨u,r,l⟩:=hl i x v e1 e2 e3;refine ⟨u,r,?_⟩;rcases l with l | ⟨k,c,e,z⟩
  ·exact .inl l
  ·exact .inr ⟨k,c,e,cellK x c e _ z⟩
 ·obtain ⟨v,z⟩:=I.cell x c e
  exact ⟨v,cellK x c e v z⟩
 ·obtain ⟨m,⟨o,_,_,ho,_⟩,_⟩:=I.loc
  exact free _ o (λ z=>(hch _ z).2.1 rfl) ho I.free
 ·obtain ⟨v,o,ho,hd⟩:=I.cell x c e
  exact free c o (λ z=>(hch c z).2.2.1 x c e rfl) ho (I.freeC x c e)
 ·obtain ⟨e,n,ne,nf,d⟩:=I.pin p hp
  have nch:p.1∉ch:=λ z=>(hch p.1 z).2.2.2 p hp rfl;exact ⟨keep p.1 p.2 ne nf nch e n,free p.1 p.2 nch e n,ne,nf,d⟩
theorem Inv.un {t':Nat} (I:Inv X pins σ H s) (u:Un X.fs [] H H' s.heap h') (hok:HOk X.prog X.w H' h'):Inv X pins σ H' { s with heap:=h',toks:=t' }:=by
 obtain ⟨m,⟨o,es,ep,ho,r⟩,_⟩:=id I.loc;obtain ⟨sl,hL⟩:=u.any ho I.free (by simp)
 exact I.step (g':=s.gens) (d':=s.drawn) (ch:=[]) (λ _ z=>nomatch z) (λ b o _ hb _ e n=>u.keep b o e n hb (by simp)) (λ b o _ hb _ e n=>u.slot b o e n hb (by simp)) (λ b o _ e n=>u.free b o e n (by simp)) (λ b o _ e=>u.there b o e (by simp)) u.tups u.frzs u.tbls (λ m' hm=>by
  obtain ⟨o',es',ep',ho',r'⟩:=hm;rw [ho] at ho';cases ho';exact ⟨_,es',ep',hL,r'⟩) hok I.bare
theorem Inv.call {g':Array GenState} {t':Nat} {d':Drawn} {ch:List av} (I:Inv X pins σ H s) (u:Un (frs X.stack) ch H H' s.heap h') (hok:HOk X.prog X.w H' h') (hg:Ah g')
  (hch:∀ b∈ch,(b∈X.ex\/X.s₀.heap.objs.size<=b)/\b≠X.env.locals/\(∀ x c,X.env.cells.lookup x=some c->c≠b)/\∀ p∈X.pn++pins,p.1≠b) :
  Inv X pins σ H' { s with heap:=h',gens:=g',drawn:=d',toks:=t' }:=by
 obtain ⟨m,⟨o,es,ep,ho,r⟩,_⟩:=id I.loc;obtain ⟨sl,hL⟩:=u.any ho I.free λ z=>(hch _ z).2.1 rfl
 exact I.step (ch:=ch) hch (λ b o hL hb hc e n=>u.keep b o e n (λ z=>(du.mp (I.stkSub b z)).elim hL hb) hc) (λ b o _ _ hc e n=>u.any e n hc) (λ b o hc e n=>u.free b o e n hc) (λ b o hc e=>u.there b o e hc) u.tups u.frzs u.tbls (λ m' hm=>by
  obtain ⟨o',es',ep',ho',r'⟩:=hm;rw [ho] at ho';cases ho';exact ⟨_,es',ep',hL,r'⟩) hok hg
theorem Inv.turned {t':Nat} {it:av} (I:Inv X pins σ H s) (k:∀ b o,b≠it->s.heap.get? b=some o->h'.get? b=some o) (hn:H it=none) (hL:it≠X.env.locals)
  (h1:it∈X.ex\/X.s₀.heap.objs.size<=it) (h2:∀ x c,X.env.cells.lookup x=some c->c≠it) (h3:∀ p∈X.pn++pins,p.1≠it):Inv X pins σ H { s with heap:=h',toks:=t' }:=by
 have nit:∀ b u,H b=some u->b≠it:=λ b u e z=>by rw [z,hn] at e;cases e
 refine I.step (g':=s.gens) (d':=s.drawn) (ch:=[it]) (λ b hb=>?_) (λ b o _ _ hc e _=>k b o (λ z=>hc (by simp [z])) e) (λ b o _ _ hc e _=>⟨o.slots,k b o (λ z=>hc (by simp [z])) e⟩) (λ _ _ _ _ n=>n)
  (λ b o hc e=>⟨o,k b o (λ z=>hc (by simp [z])) e⟩) (λ _ _ e=>e) (λ _ _ _ e=>e) (λ b ps e=>⟨#[],by rw [e];simp⟩) (λ m hm=>?_) (λ b u e=>?_) I.bare
 ·have e:b=it:=by simpa using hb
  subst e;exact ⟨h1,hL,h2,h3⟩
 ·obtain ⟨o,es,ep,ho,r⟩:=hm
  exact ⟨o,es,ep,k _ o (uq hL) ho,r⟩
 ·refine (I.hok b u e).stay (λ c v hc q=>k c v ?_ q) (λ _ q=>q) λ _ _ q=>q
  rcases hc with z | z
  ·rw [z];exact nit b u e
  ·exact nit c _ z
theorem Inv.tok (I:Inv X pins σ H s) (t:Nat):Inv X pins σ H { s with toks:=t }:=I.un (h':=s.heap) (t':=t) Un.refl I.hok
theorem Inv.kept {t':Nat} (I:Inv X pins σ H s) (k:∀ b u,s.heap.get? b=some u->h'.get? b=some u):Inv X pins σ H { s with heap:=h',toks:=t' }:=I.un (Un.kept k) (I.hok.kept k)
theorem Inv.laid {a:av} {o:HO} {t':Nat} (I:Inv X pins σ H s) (k:∀ b u,s.heap.get? b=some u->h'.get? b=some u) (hp:s.heap.objs.size<=a) (new:ObjOk X.prog X.w (upd H a o) h' a o) :
  Inv X pins σ (upd H a o) { s with heap:=h',toks:=t' }:=I.un (Un.laid k hp (I.hok.fresh hp)) (I.hok.laid k hp new)
theorem Inv.write {x e:av} {o:HO} {t':Nat} (I:Inv X pins σ H s) (mu:Mut (H x)) (he:e=x\/H e=some (.own x)) (k:∀ b u,b≠e->s.heap.get? b=some u->h'.get? b=some u) (heo:∃ u,h'.get? e=some u)
  (new:ObjOk X.prog X.w (upd H x o) h' x o):Inv X pins σ (upd H x o) { s with heap:=h',toks:=t' }:=I.un (Un.write mu he k heo) (I.hok.write mu he k heo new)
theorem Inv.pins_of {pins':List (av×Obj)} (I:Inv X pins σ H s) (h:∀ p∈pins',s.heap.get? p.1=some p.2/\H p.1=none/\p.1≠X.env.locals/\p.1∉X.fs/\∀ v,p.2.data≠.cell v):Inv X pins' σ H s :=
 ⟨I.ok,I.os,I.bare,I.base,I.loc,I.cell,I.free,I.freeC,λ p hp=>(bz.mp hp).elim (λ z=>I.pin p (az _ z)) (h p),I.hok,I.len⟩
theorem rW {N:List Str} (hN:N.Nodup) {i j:Nat} {x:Str} (a:N[i]?=some x) (b:N[j]?=some x):i=j:=by
 obtain ⟨h1,e1⟩:=aq.mp a;obtain ⟨h2,e2⟩:=aq.mp b;exact (sd hN).mp (e1.trans e2.symm)
theorem cI {M:wq} {A:fb} {E:ar->ay->Prop} {i:Nat} {x:Str} {v:V} {u:ar} {Q:Unit->ay->Prop} (I:Inv X pins σ H s) (hN:X.N.Nodup) (hi:X.N[i]?=some x) (hx:Loc X.env.scope x) (r:RelV v u)
  (h:∀ s',Inv X pins (σ.set i (some v)) H s'->(∃ a,jd a s.heap s'.heap/\(a=X.env.locals\/X.env.cells.lookup x=some a))->Q () s') (hf:X.fn x=true\/X.env.scope.names.lookup x=some .local:=by first | exact .inl rfl | exact .inr rfl | assumption):eD M A (storeName X.env x u) Q E s:=by
 obtain ⟨m,hn,hl⟩:=id I.loc;have hcls:(X.env.scope.kind == .class || (X.env.scope.kind == .module && X.env.locals != X.env.globals))=false:=by rw [I.ok.kind];rfl
 have hiσ:i<σ.length:=by rw [I.len];exact (aq.mp hi).1
 have cne:=I.cne
 have tracked:∀ {a:av} {h':gy},(∃ o,s.heap.get? a=some o/\H a=none)->jd a s.heap h'->HOk X.prog X.w H h':=λ {a h'} ha hs b ob e=>by
  obtain ⟨_,_,hfree⟩:=ha;refine (I.hok b ob e).stay (λ c w' hc q=>(hs.2 c ?_).trans q) (λ _ q=>q) λ _ _ q=>q;rintro rfl;rcases hc with rfl | hc
  ·rw [hfree] at e;cases e
  ·rw [hfree] at hc;cases hc
 rcases hx with hk | hk
 ·refine wpAny_storeName_local hk hn (λ h' hn' hs=>?_) hcls
  obtain ⟨oL,_,_,hoL,_⟩:=id hn;refine h _ ⟨I.ok,I.os,I.bare,⟨λ b o e n hb hx=>?_,λ b o e n hb hx=>?_,I.base.free,λ b o e hx=>?_,I.base.tups,I.base.frzs,I.base.tbls⟩,⟨_,hn',λ j y v' e1 e2 e3=>?_⟩,λ y c e=>?_,I.free,I.freeC,λ p hp=>?_,tracked ⟨oL,hoL,I.free⟩ hs,by simpa using I.len⟩ ⟨_,hs,.inl rfl⟩
  ·exact (hs.2 b (dc (cj (cm e) I.ok.above))).trans (I.base.keep b o e n hb hx)
  ·obtain ⟨sl,e1⟩:=I.base.slot b o e n hb hx
   exact ⟨sl,(hs.2 b (dc (cj (cm e) I.ok.above))).trans e1⟩
  ·obtain ⟨o',e1⟩:=I.base.there b o e hx
   exact ⟨o',(hs.2 b (dc (cj (cm e) I.ok.above))).trans e1⟩
  ·by_cases hj:j=i
   ·subst hj
    rw [hi] at e1;cases e1;rw [je hiσ] at e2;cases e2
    exact ⟨u,r,.inl ⟨hk,by simp⟩⟩
   ·rw [ja (uq hj)] at e2
    obtain ⟨u',r',q⟩:=hl j y v' e1 e2 e3;refine ⟨u',r',?_⟩;rcases q with ⟨k,e⟩ | ⟨k,c,e,z⟩
    ·refine .inl ⟨k,?_⟩
     have:y≠x:=λ e=>hj (rW hN e1 (e ▸ hi));simp [this,e]
    ·exact .inr ⟨k,c,e,z.sameBut hs (cne y c e)⟩
  ·obtain ⟨w',z⟩:=I.cell y c e
   exact ⟨w',z.sameBut hs (cne y c e)⟩
  ·obtain ⟨e,n,ne,nf,d⟩:=I.pin p hp
   exact ⟨(hs.2 p.1 ne).trans e,n,ne,nf,d⟩
 ·have hfn:X.fn x=true:=by
   rcases hf with z | z
   ·exact z
   ·rw [z] at hk;cases hk
  obtain ⟨c,hc⟩:=I.ok.has x (.inl hk);obtain ⟨w',z⟩:=I.cell x c hc;refine wpAny_storeName_cell I.ok.kind hk hc z (λ h' hc' hs=>?_);obtain ⟨oc,hoc,hocd⟩:=id z;refine h { s with heap:=h' } ⟨I.ok,I.os,I.bare,⟨λ b o e n hb hx=>?_,λ b o e n hb hx=>?_,I.base.free,λ b o e hx=>?_,I.base.tups,I.base.frzs,I.base.tbls⟩,⟨m,hn.sameBut hs (uq (cne x c hc)),λ j y v' e1 e2 e3=>?_⟩,λ y c' e=>?_,I.free,I.freeC,λ p hp=>?_,tracked ⟨oc,hoc,I.freeC x c hc⟩ hs,by simpa using I.len⟩ ⟨c,hs,.inr hc⟩
  ·exact (hs.2 b (dc (cj (cm e) (I.ok.cab x c hfn hc)))).trans (I.base.keep b o e n hb hx)
  ·obtain ⟨sl,e1⟩:=I.base.slot b o e n hb hx
   exact ⟨sl,(hs.2 b (dc (cj (cm e) (I.ok.cab x c hfn hc)))).trans e1⟩
  ·obtain ⟨o',e1⟩:=I.base.there b o e hx
   exact ⟨o',(hs.2 b (dc (cj (cm e) (I.ok.cab x c hfn hc)))).trans e1⟩
  ·by_cases hj:j=i
   ·subst hj
    rw [hi] at e1;cases e1;rw [je hiσ] at e2;cases e2
    exact ⟨u,r,.inr ⟨.inl hk,c,hc,hc'⟩⟩
   ·rw [ja (uq hj)] at e2
    obtain ⟨u',r',q⟩:=hl j y v' e1 e2 e3;refine ⟨u',r',?_⟩;rcases q with q | ⟨k,c',e,z'⟩
    ·exact .inl q
    ·refine .inr ⟨k,c',e,z'.sameBut hs ?_⟩
     rintro rfl;exact hj (rW hN e1 (I.ok.inj _ _ _ e hc ▸ hi))
  ·by_cases hcc:c'=c
   ·subst hcc;exact ⟨_,hc'⟩
   ·obtain ⟨w2,z2⟩:=I.cell y c' e
    exact ⟨w2,z2.sameBut hs hcc⟩
  ·obtain ⟨e,n,ne,nf,d⟩:=I.pin p hp
   refine ⟨(hs.2 p.1 ?_).trans e,n,ne,nf,d⟩;intro q;rw [q,hoc] at e;have q':oc=p.2:=bj e;exact d w' (by rw [<-q'];exact hocd)
theorem bA {M:wq} {A:fb} {E:ar->ay->Prop} {i:Nat} {x:Str} {v:V} {u:ar} {Q:Unit->ay->Prop} (I:Inv X pins σ H s) (hN:X.N.Nodup) (hi:X.N[i]?=some x) (hx:Loc X.env.scope x) (r:RelV v u)
  (h:∀ s',Inv X pins (σ.set i (some v)) H s'->Q () s') (hf:X.fn x=true\/X.env.scope.names.lookup x=some .local:=by first | exact .inl rfl | exact .inr rfl | assumption):eD M A (storeName X.env x u) Q E s :=
 cI I hN hi hx r (λ s' I' _=>h s' I') hf
theorem Inv.call' {s':ay} {ch:List av} (I:Inv X pins σ H s) (ho:s'.os=s.os) (u:Un (frs X.stack) ch H H' s.heap s'.heap) (hok:HOk X.prog X.w H' s'.heap) (hg:Ah s'.gens)
  (hch:∀ b∈ch,(b∈X.ex\/X.s₀.heap.objs.size<=b)/\b≠X.env.locals/\(∀ x c,X.env.cells.lookup x=some c->c≠b)/\∀ p∈X.pn++pins,p.1≠b):Inv X pins σ H' s':=by
 obtain ⟨h',g',d',t',o'⟩:=s';have e:o'=s.os:=ho;subst e;exact I.call (g':=g') (t':=t') (d':=d') u hok hg hch
end
abbrev XK:=ar->Option av->Hp->Prop
abbrev St:=List (Option V)
abbrev VK:=V->Hp->Prop
abbrev TE:=St->Hp->VK->Prop
abbrev TT:=St->Hp->(Bool->Hp->Prop)->Prop
abbrev TA:=St->Hp->(List V->Hp->Prop)->Prop
structure Ends where
 nx:St->Hp->Prop
 rt:VK
 bk:St->Hp->Prop:=λ _ _=>False
 ct:St->Hp->Prop:=λ _ _=>False
abbrev TS:=Ends->St->Hp->Prop
def EP (X:Cx) (pins:List (av×Obj)) (σ:St) (Q:VK) (u:ar) (s':ay):Prop:=∃ v H',Inv X pins σ H' s'/\RelV v u/\Q v H'
def TP (X:Cx) (pins:List (av×Obj)) (σ:St) (Q:Bool->Hp->Prop) (b:Bool) (s':ay):Prop:=∃ H',Inv X pins σ H' s'/\Q b H'
def AP (X:Cx) (pins:List (av×Obj)) (σ:St) (Q:List V->Hp->Prop) (us:List ar) (s':ay):Prop:=∃ vs H',Inv X pins σ H' s'/\Vals vs us/\Q vs H'
def SP (X:Cx) (pins:List (av×Obj)) (D:Ends) (f:Flow) (s':ay):Prop :=
 match f with
 | .next=>∃ σ' H',Inv X pins σ' H' s'/\D.nx σ' H'
 | .brk=>∃ σ' H',Inv X pins σ' H' s'/\D.bk σ' H'
 | .cont=>∃ σ' H',Inv X pins σ' H' s'/\D.ct σ' H'
 | .ret u=>∃ v σ' H',Inv X pins σ' H' s'/\RelV v u/\D.rt v H'
def PE (X:Cx) (e:iJ) (t:TE):Prop :=
 ∀ (pins:List (av×Obj)) (s:ay) (σ:St) (H:Hp) (Q:VK),Inv X pins σ H s->t σ H Q->eD (model X.prog X.w) X.A (eval e X.env) (EP X pins σ Q) X.xe s
def PT (X:Cx) (e:iJ) (t:TT):Prop :=
 ∀ (pins:List (av×Obj)) (s:ay) (σ:St) (H:Hp) (Q:Bool->Hp->Prop),Inv X pins σ H s->t σ H Q->eD (model X.prog X.w) X.A (isTrue e X.env (eval e X.env)) (TP X pins σ Q) X.xe s
def PW (X:Cx) (e:iJ) (t:TT):Prop :=
 ∀ (vO:Sem ar) (pins:List (av×Obj)) (s:ay) (σ:St) (H:Hp) (Q:Bool->Hp->Prop),Inv X pins σ H s->t σ H Q->eD (model X.prog X.w) X.A (isTrue e X.env vO) (TP X pins σ Q) X.xe s
theorem PW.pt {X:Cx} {e:iJ} {t:TT} (h:PW X e t):PT X e t:=h _
def PA (X:Cx) (es:List iJ) (t:TA):Prop :=
 ∀ (pos:Pos) (pins:List (av×Obj)) (s:ay) (σ:St) (H:Hp) (Q:List V->Hp->Prop),Inv X pins σ H s->t σ H Q->eD (model X.prog X.w) X.A (spliced (backTo pos (starEach es X.env))) (AP X pins σ Q) X.xe s
def PS (X:Cx) (st:nj) (t:TS):Prop :=
 ∀ (pins:List (av×Obj)) (s:ay) (σ:St) (H:Hp) (D:Ends),Inv X pins σ H s->t D σ H->eD (model X.prog X.w) X.A (exec st X.env) (SP X pins D) X.xe s
def PSs (X:Cx) (st:List nj) (t:TS):Prop :=
 ∀ (pins:List (av×Obj)) (s:ay) (σ:St) (H:Hp) (D:Ends),Inv X pins σ H s->t D σ H->eD (model X.prog X.w) X.A (execs st X.env) (SP X pins D) X.xe s
theorem thn {α:Type} {t:Sem α} {Q Q':α->ay->Prop} {M:wq} {A:fb} {E:ar->ay->Prop} {s:ay} (h:eD M A t Q E s) (hQ:∀ a s,Q a s->Q' a s):eD M A t Q' E s:=xy h hQ λ _ _ x=>x
section
variable {X:Cx}
def kLA (i:Nat):TE:=λ σ H Q=>∃ v,σ[i]?=some (some v)/\Q v H
def tC (v:V):TE:=λ _ H Q=>Q v H
theorem kLP {i:Nat} {x:Str} {pos:Pos} (hN:X.N[i]?=some x) (hv:Vis X.env.scope x) (hd:(x == ("__debug__" : Str))=false:=by decide) (hcd:(x == ("__classdict__" : Str))=false:=by decide):PE X (.Name x pos) (kLA i):=by
 intro pins s σ H Q I h;obtain ⟨v,e,h⟩:=h;obtain ⟨m,hn,hl⟩:=I.loc;obtain ⟨u,r,l⟩:=hl i x v hN e hv;have fin:EP X pins σ Q u s:=⟨v,H,I,r,h⟩;rcases l with ⟨hk,hm⟩ | ⟨hk,c,hc,hcell⟩
 ·exact Do (wpAny_loadName_local I.ok.kind hk hn hm fin) hd
 ·rcases hk with hk | hk
  ·exact Do (wpAny_loadName_cell I.ok.kind hk hc hcell fin) hd
  ·exact Do (wpAny_loadName_free I.ok.kind hk hc hcell fin hcd) hd
theorem kK {i j pos}:PE X (.Constant (.int i) j pos) (tC (.int i)):=λ _ _ _ H _ I h=>wpAny_Constant_int ⟨.int i,H,I.tok _,⟨_,rfl⟩,h⟩
theorem zV {b j pos}:PE X (.Constant (.bool b) j pos) (tC (.bl b)):=λ _ _ _ H _ I h=>Constant_bool ⟨.bl b,H,I,rfl,h⟩
theorem vC {j pos}:PE X (.Constant .none j pos) (tC .non):=λ _ _ _ H _ I h=>Constant_none ⟨.non,H,I,rfl,h⟩
def Gl (X:Cx) (x:Str):Prop:=X.env.kindOf x=some .globalImplicit
theorem kJL {E:ar->ay->Prop} {pins:List (av×Obj)} {s:ay} {σ:St} {H:Hp} {x:Str} {u:ar} {pos:Pos} {Q:ar->ay->Prop} (I:Inv X pins σ H s) (hg:Gl X x) (hm:X.mg x=some u) (h:Q u s)
  (hd:(x == ("__debug__" : Str))=false:=by decide):eD (model X.prog X.w) X.A (eval (.Name x pos) X.env) Q E s :=
 AO I.ok.kind hg (Calls.loadGlobal_global (by rw [I.ok.glob];exact I.mod.glob.keeps I.bk) hm h) hd
theorem vH {E:ar->ay->Prop} {pins:List (av×Obj)} {s:ay} {σ:St} {H:Hp} {x:Str} {u:ar} {pos:Pos} {Q:ar->ay->Prop} (I:Inv X pins σ H s) (hg:Gl X x) (hm:X.mg x=none) (hv:bootBuiltins x=some u) (h:Q u s)
  (hn:x≠"__name__":=by decide) (hd:(x == ("__debug__" : Str))=false:=by decide):eD (model X.prog X.w) X.A (eval (.Name x pos) X.env) Q E s:=by
 obtain ⟨mb,h1,h2⟩:=I.mod.blt;exact AO I.ok.kind hg (Calls.loadGlobal_builtin (by rw [I.ok.glob];exact I.mod.glob.keeps I.bk) hm (by rw [I.ok.blt];exact h1.keeps I.bk) ((h2 x hn).trans hv) h) hd
theorem oM {x:Str} {v:V} {u:ar} {pos:Pos} (hg:Gl X x) (hm:X.mg x=none) (hv:bootBuiltins x=some u) (r:RelV v u) (hn:x≠"__name__":=by decide) (hd:(x == ("__debug__" : Str))=false:=by decide):PE X (.Name x pos) (tC v) :=
 λ _ _ _ H _ I h=>vH I hg hm hv ⟨v,H,I,r,h⟩ hn hd
variable {a b:iJ} {ta tb:TE} {pos:Pos}
def PC (X:Cx) (op:FR) (a b:iJ) (t:TE):Prop :=
 ∀ (pins:List (av×Obj)) (s:ay) (σ:St) (H:Hp) (Q:VK),Inv X pins σ H s->t σ H Q ->
  eD (model X.prog X.w) X.A (eval a X.env) (λ v s₁=>eD (model X.prog X.w) X.A (eval b X.env) (λ u s₂=>eD (model X.prog X.w) X.A (compareOp op v u) (EP X pins σ Q) X.xe s₂) X.xe s₁) X.xe s
def tB (t:TE):TT:=λ σ H Q=>t σ H λ x H1=>∃ c,x=.bl c/\Q c H1
theorem kLM {op:FR} {t:TE} (h:PC X op a b t) (h1:behindInMarks op b=false:=by first | exact nobehind _ (by decide) (by decide) | rfl):PT X (.Compare a [op] [b] pos) (tB t):=by
 intro pins s σ H Q I hw;refine Bf (thn (h pins s σ H _ I hw) λ v s1 h1=>thn h1 λ u s2 h2=>thn h2 λ c s3 ⟨x,H1,I1,r1,q1⟩=>?_) h1;obtain ⟨d,rfl,q⟩:=q1;cases r1
 exact me ⟨H1,I1,q⟩
theorem zQ {e:iJ} {t:TE} (h:PE X e t) (he:∀ vO,isTrue e X.env vO=(do let v <-vO;standAt e.pos;holding [v] (truthy v)):=by intro _;rfl):PT X e (tB t):=by
 intro pins s σ H Q I hw;refine isTrue_plain (thn (h pins s σ H _ I hw) λ v s1 ⟨x,H1,I1,r1,q1⟩=>?_) (he _);obtain ⟨d,rfl,q⟩:=q1;cases r1
 exact me ⟨H1,I1,q⟩
variable {tA tB':TT} {rest:List iJ}
def tOr (t u:TT):TT:=λ σ H Q=>t σ H λ c H1=>if c=true then Q true H1 else u σ H1 Q
def kOS (t:TT):TT:=λ σ H Q=>t σ H λ c H1=>Q (!c) H1
theorem vZ (ha:PT X a tA):PW X (.BoolOp .Or [a] pos) tA:=by
 intro wh pins s σ H Q I h;refine isTrue_or (thn (ha pins s σ H Q I h) λ c s1 e=>?_)
 cases c with
 | false=>exact isTrue_or_nil e
 | true=>exact e
theorem vQ (ha:PT X a tA) (hb:PW X (.BoolOp .Or (b::rest) pos) tB'):PW X (.BoolOp .Or (a::b::rest) pos) (tOr tA tB'):=by
 intro wh pins s σ H Q I h;refine isTrue_or (thn (ha pins s σ H _ I h) λ c s1 ⟨H1,I1,q1⟩=>?_)
 cases c with
 | true=>exact ⟨H1,I1,q1⟩
 | false=>exact hb wh pins s1 σ H1 Q I1 q1
theorem zU (ha:PT X a tA):PT X (.UnaryOp .Not a pos) (kOS tA):=by
 intro pins s σ H Q I h;exact isTrue_not (ha pins s σ H (λ c H1=>Q (!c) H1) I h)
def kNE (ta tb:TE):TE:=λ σ H Q=>ta σ H λ x H1=>∃ c,x=.bl c/\if c=true then tb σ H1 Q else Q (.bl false) H1
def kNA (ta:TE):TE:=λ σ H Q=>ta σ H λ x H1=>∃ c,x=.bl c/\Q (.bl (!c)) H1
theorem tY {op} {t:TE} (h:PE X a t):PE X (.BoolOp op [a] pos) t:=λ pins s σ H Q I hw=>BoolOp_one (h pins s σ H Q I hw)
theorem gL (ha:PE X a ta) (hb:PE X (.BoolOp .And (b::rest) pos) tb):PE X (.BoolOp .And (a::b::rest) pos) (kNE ta tb):=by
 intro pins s σ H Q I h;refine BoolOp_and (thn (ha pins s σ H _ I h) λ v s1 ⟨x,H1,I1,r1,q1⟩=>?_);obtain ⟨c,rfl,q1⟩:=q1;cases r1
 refine me ?_
 cases c with
 | true=>exact hb pins s1 σ H1 Q I1 q1
 | false=>exact ⟨.bl false,H1,I1,rfl,q1⟩
theorem kLQ (ha:PE X a ta):PE X (.UnaryOp .Not a pos) (kNA ta):=by
 intro pins s σ H Q I h;refine UnaryOp_ (thn (ha pins s σ H _ I h) λ v s1 ⟨x,H1,I1,r1,q1⟩=>?_);obtain ⟨c,rfl,q1⟩:=q1;cases r1
 exact not_of (me ⟨.bl (!c),H1,I1,rfl,q1⟩)
def tIf (t:TT) (ta tb:TE):TE:=λ σ H Q=>t σ H λ c H1=>if c=true then ta σ H1 Q else tb σ H1 Q
theorem kGB {c:iJ} (hc:PT X c tA) (ha:PE X a ta) (hb:PE X b tb):PE X (.IfExp c a b pos) (tIf tA ta tb):=by
 intro pins s σ H Q I h;refine wpAny_IfExp (thn (hc pins s σ H _ I h) λ d s1 ⟨H1,I1,q1⟩=>?_)
 cases d with
 | true=>exact ha pins s1 σ H1 Q I1 q1
 | false=>exact hb pins s1 σ H1 Q I1 q1
end
def SqL (K:cf) (H:Hp) (a:av) (xs:List V):Prop :=
 Rd H a (.lst xs) \/
  ∃ (o:Obj) (its:Array ar) (n:Nat),K.lookup a=some o/\o.cls=.type "list"/\o.dict=none/\o.data=.seq its n/\its.size<=sizeLine/\Vals xs its.toList
def SqT (K:cf) (H:Hp) (a:av) (xs:List V):Prop :=
 Rd H a (.tup xs) \/
  ∃ (o:Obj) (its:Array ar) (n:Nat),K.lookup a=some o/\o.cls=.type "tuple"/\o.data=.seq its n/\its.size<=sizeLine/\Vals xs its.toList
def kPI:ar->Option V
 | .none=>some .non
 | .bool b=>some (.bl b)
 | .int i _=>some (.int i)
 | .str x _=>some (.str x)
 | .bytes b _=>some (.byt b)
 | .float b _=>some (.flt b)
 | .ref a=>some (.ref a)
 | .type n=>some (.ty n)
 | _=>none
theorem RelV.abs {x:V} {u:ar} (r:RelV x u):kPI u=some x:=by
 cases x with
 | non=>cases r;rfl
 | bl _=>cases r;rfl
 | int _=>obtain ⟨t,rfl⟩:=r;rfl
 | str _=>obtain ⟨t,rfl⟩:=r;rfl
 | byt _=>obtain ⟨t,rfl⟩:=r;rfl
 | flt _=>obtain ⟨t,rfl⟩:=r;rfl
 | ref _=>cases r;rfl
 | ty _=>cases r;rfl
theorem RelV.inj {x y:V} {u:ar} (r:RelV x u) (q:RelV y u):x=y:=bj (r.abs.symm.trans q.abs)
theorem Vals.inj:∀ {xs ys:List V} {us:List ar},Vals xs us->Vals ys us->xs=ys
 | _,_,_,.nil,.nil=>rfl
 | _,_,_,.cons r t,.cons r' t'=>by rw [r.inj r',Vals.inj t t']
section
variable {X:Cx} {pins:List (av×Obj)} {σ:St} {H:Hp} {s:ay} {a:av} {xs ys:List V}
theorem SqL.of {K:cf} (h:H a=some (.lst xs)):SqL K H a xs:=.inl (.inl h)
theorem SqT.of {K:cf} (h:H a=some (.tup xs)):SqT K H a xs:=.inl (.inl h)
theorem Inv.list (I:Inv X pins σ H s) (h:SqL X.K H a xs):∃ its:List ar,Vals xs its/\PlainL s.heap a its.toArray/\xs.length<=sizeLine:=by
 rcases h with h | ⟨o,its,n,hk,hc,hd,hs,hz,r⟩
 ·obtain ⟨z,its,n,r,e⟩:=h.ok I.hok
  exact ⟨its,r,⟨_,n,e,rfl,rfl,rfl⟩,z⟩
 ·refine ⟨its.toList,r,⟨o,n,I.kIn a o hk,hc,hd,by simpa using hs⟩,?_⟩
  have e:=r.length;simp only [fm] at e;omega
theorem Inv.tuple (I:Inv X pins σ H s) (h:SqT X.K H a xs):∃ its:List ar,Vals xs its/\Dm s.heap a its.toArray/\xs.length<=sizeLine:=by
 rcases h with h | ⟨o,its,n,hk,hc,hs,hz,r⟩
 ·obtain ⟨z,its,r,p⟩:=h.ok I.hok
  exact ⟨its,r,p.isTup,z⟩
 ·refine ⟨its.toList,r,⟨o,I.kIn a o hk,hc,n,by simpa using hs⟩,?_⟩
  have e:=r.length;simp only [fm] at e;omega
theorem Inv.list_inj (I:Inv X pins σ H s) (h:SqL X.K H a xs) (h':SqL X.K H a ys):xs=ys:=by
 obtain ⟨its,r,⟨o,n,e,_,_,d⟩,_⟩:=I.list h;obtain ⟨its',r',⟨o',n',e',_,_,d'⟩,_⟩:=I.list h';rw [e] at e';cases e';rw [d] at d';injection d' with d1 _
 have:its=its':=by simpa using congrArg FC d1
 subst this;exact r.inj r'
theorem Inv.tuple_inj (I:Inv X pins σ H s) (h:SqT X.K H a xs) (h':SqT X.K H a ys):xs=ys:=by
 obtain ⟨its,r,⟨o,e,_,n,d⟩,_⟩:=I.tuple h;obtain ⟨its',r',⟨o',e',_,n',d'⟩,_⟩:=I.tuple h';rw [e] at e';cases e';rw [d] at d';injection d' with d1 _
 have:its=its':=by simpa using congrArg FC d1
 subst this;exact r.inj r'
end
abbrev Cx.wish (X:Cx) (E:ar->ay->Prop):Cx:={ X with xe:=E }
abbrev Cx.nox (X:Cx):Cx:=X.wish λ _ _=>False
theorem Cx.Ok.wish {X:Cx} (ok:X.Ok) (E:ar->ay->Prop):(X.wish E).Ok :=
 ⟨ok.mod,ok.kind,ok.glob,ok.blt,ok.above,ok.inj,ok.has,ok.cab,ok.hd,ok.frames,ok.stk,ok.exf,ok.bs,ok.bsz,ok.noex,ok.exfs,ok.funs,ok.frf⟩
theorem Cx.Ok.unwish {X:Cx} {E:ar->ay->Prop} (ok:(X.wish E).Ok):X.Ok :=
 ⟨ok.mod,ok.kind,ok.glob,ok.blt,ok.above,ok.inj,ok.has,ok.cab,ok.hd,ok.frames,ok.stk,ok.exf,ok.bs,ok.bsz,ok.noex,ok.exfs,ok.funs,ok.frf⟩
section
variable {X:Cx} {pins:List (av×Obj)} {σ:St} {H:Hp} {s:ay} {E:ar->ay->Prop}
theorem Inv.wish (I:Inv X pins σ H s) (E:ar->ay->Prop):Inv (X.wish E) pins σ H s:=⟨I.ok.wish E,I.os,I.bare,I.base,I.loc,I.cell,I.free,I.freeC,I.pin,I.hok,I.len⟩
theorem Inv.unwish (I:Inv (X.wish E) pins σ H s):Inv X pins σ H s:=⟨I.ok.unwish,I.os,I.bare,I.base,I.loc,I.cell,I.free,I.freeC,I.pin,I.hok,I.len⟩
theorem SP.unwish {D:Ends} {f:Flow} {s':ay} (h:SP (X.wish E) pins D f s'):SP X pins D f s':=by
 cases f with
 | next=>obtain ⟨σ',H',I,q⟩:=h;exact ⟨σ',H',I.unwish,q⟩
 | brk=>obtain ⟨σ',H',I,q⟩:=h;exact ⟨σ',H',I.unwish,q⟩
 | cont=>obtain ⟨σ',H',I,q⟩:=h;exact ⟨σ',H',I.unwish,q⟩
 | ret u=>obtain ⟨v,σ',H',I,r,q⟩:=h;exact ⟨v,σ',H',I.unwish,r,q⟩
theorem PSs.nox {st:List nj} {t:TS} (h:PSs X.nox st t):PSs X st t:=λ pins s σ H D I hw =>
 xy (h pins s σ H D (I.wish _) hw) (λ _ _ q=>q.unwish) λ _ _ z=>ur z
end
section
variable {X:Cx} {st:nj} {rest:List nj} {t u:TS} {e:iJ} {te:TE} {pos:Pos}
def kNC:TS:=λ D σ H=>D.nx σ H
def kOO (t u:TS):TS:=λ D σ H=>t { D with nx:=u D } σ H
theorem qN:PSs X [] kNC:=λ _ _ σ H _ I h=>zj ⟨σ,H,I,h⟩
theorem kF (h1:PS X st t) (h2:PSs X rest u):PSs X (st::rest) (kOO t u):=by
 intro pins s σ H D I h;refine DD (thn (h1 pins s σ H { D with nx:=u D } I h) λ f s1 q=>?_)
 cases f with
 | next =>
  obtain ⟨σ',H',I',q⟩:=q;exact h2 pins s1 σ' H' D I' q
 | ret v=>exact q
 | brk=>exact q
 | cont=>exact q
theorem kL (h1:PS X st t):PSs X [st] t:=by
 intro pins s σ H D I h;refine DD (thn (h1 pins s σ H D I h) λ f s1 q=>?_)
 cases f with
 | next=>exact zj q
 | ret v=>exact q
 | brk=>exact q
 | cont=>exact q
theorem Inv.quiet {pins:List (av×Obj)} {σ:St} {H:Hp} {s:ay} (I:Inv X pins σ H s):interactive X.env=false:=by simp [interactive,I.ok.kind]
def kND (te:TE):TS:=λ D σ H=>te σ H λ _ H1=>D.nx σ H1
theorem jJ (he:PE X e te) (hs:swapsWith e none pos.line X.env=pure false:=by rfl):PS X (.Expr e pos) (kND te):=by
 intro pins s σ H D I h;exact wpAny_Expr_any (thn (he pins s σ H _ I h) λ v s1 ⟨x,H1,I1,r1,q1⟩=>⟨σ,H1,I1,q1⟩) I.quiet hs
def kOQ (te:TE):TS:=λ D σ H=>te σ H D.rt
theorem kS (he:PE X e te):PS X (.Return (some e) pos) (kOQ te):=by
 intro pins s σ H D I h;exact wpAny_Return_some (thn (he pins s σ H _ I h) λ v s1 ⟨x,H1,I1,r1,q1⟩=>⟨x,σ,H1,I1,r1,q1⟩)
def kOU (c:TT) (t u:TS):TS:=λ D σ H=>c σ H λ b H1=>if b=true then t D σ H1 else u D σ H1
theorem xA {c:iJ} {a b:List nj} {tc:TT} (hc:PT X c tc) (ha:PSs X a t) (hb:PSs X b u):PS X (.If c a b pos) (kOU tc t u):=by
 intro pins s σ H D I h;refine wpAny_If (thn (hc pins s σ H _ I h) λ d s1 ⟨H1,I1,q1⟩=>?_)
 cases d with
 | true=>exact ha pins s1 σ H1 D I1 q1
 | false=>exact hb pins s1 σ H1 D I1 q1
end
abbrev TG:=V->St->Hp->(St->Hp->Prop)->Prop
abbrev TGs:=List V->St->Hp->(St->Hp->Prop)->Prop
def PG (X:Cx) (target:iJ) (t:TG):Prop :=
 ∀ (pins:List (av×Obj)) (s:ay) (σ:St) (H:Hp) (v:V) (u:ar) (Q:St->Hp->Prop),Inv X pins σ H s->RelV v u->t v σ H Q ->
  eD (model X.prog X.w) X.A (assign target X.env u) (λ _ s'=>∃ σ' H',Inv X pins σ' H' s'/\Q σ' H') X.xe s
def PGs (X:Cx) (ts:List iJ) (t:TGs):Prop :=
 ∀ (pins:List (av×Obj)) (s:ay) (σ:St) (H:Hp) (vs:List V) (us:List ar) (Q:St->Hp->Prop),Inv X pins σ H s->Vals vs us->t vs σ H Q ->
  eD (model X.prog X.w) X.A (assignInOrder ((assignEach ts X.env).map (·.2)) us) (λ _ s'=>∃ σ' H',Inv X pins σ' H' s'/\Q σ' H') X.xe s
abbrev kMT:=V->V->V->Hp->(Hp->Prop)->Prop
def kOM (X:Cx) (t:kMT):Prop :=
 ∀ (pins:List (av×Obj)) (s:ay) (σ:St) (H:Hp) (o i v:V) (ov iv u:ar) (Q:Hp->Prop),Inv X pins σ H s->RelV o ov->RelV i iv->RelV v u->t o i v H Q ->
  eD (model X.prog X.w) X.A (setItem ov iv u) (λ _ s'=>∃ H',Inv X pins σ H' s'/\Q H') X.xe s
section
variable {X:Cx} {pos:Pos}
def sJ (i:Nat):TG:=λ v σ H Q=>Q (σ.set i (some v)) H
theorem kQ {i:Nat} {x:Str} (hN:X.N.Nodup) (hi:X.N[i]?=some x) (hx:Loc X.env.scope x) (hf:X.fn x=true\/X.env.scope.names.lookup x=some .local:=by first | exact .inl rfl | exact .inr rfl | assumption):PG X (.Name x pos) (sJ i):=by
 intro pins s σ H v u Q I r h;exact Ai (bA I hN hi hx r (λ s' I'=>⟨_,H,I',h⟩) hf)
def kPF:TGs:=λ vs σ H Q=>vs=[]/\Q σ H
def kNY (t:TG) (u:TGs):TGs:=λ vs σ H Q=>∃ v r,vs=v::r/\t v σ H λ σ' H'=>u r σ' H' Q
theorem jR:PGs X [] kPF:=by
 intro pins s σ H vs us Q I r h;obtain ⟨e,h⟩:=h;subst e;cases r
 exact Cd ⟨σ,H,I,h⟩
theorem kY {e:iJ} {es:List iJ} {t:TG} {u:TGs} (h1:PG X e t) (h2:PGs X es u)
  (hs:(assignEach (e::es) X.env).map (·.2)=assign e X.env::(assignEach es X.env).map (·.2):=by rfl):PGs X (e::es) (kNY t u):=by
 intro pins s σ H vs us Q I r h;obtain ⟨v,vr,e1,h⟩:=h;subst e1
 cases r with
 | cons r rr =>
  rw [hs];refine AQ (thn (h1 pins s σ H _ _ _ I r h) λ _ s1 ⟨σ1,H1,I1,q1⟩=>?_);exact h2 pins s1 σ1 H1 _ _ Q I1 rr q1
def kHH (K:cf) (n:Nat) (t:TGs):TG:=λ v σ H Q=>∃ a xs,v=.ref a/\SqT K H a xs/\xs.length=n/\t xs σ H Q
theorem xI {es:List iJ} {k:Nat} {t:TGs} {n:Nat} (hc:X.calm=true) (h:PGs X es t)
  (hn:(assignEach es X.env).length=n:=by rfl) (hst:(assignEach es X.env).findIdx? (·.1)=none:=by rfl):PG X (.Tuple es k pos) (kHH X.K n t):=by
 intro pins s σ H v u Q I r hw;obtain ⟨a,xs,e1,hq,hl,hw⟩:=hw;subst e1;cases r
 obtain ⟨its,rv,ht,hz⟩:=I.tuple hq;refine assign_Tuple_tuple (I.ok.hd hc) ht (by simp [hn,<-hl,rv.length]) hst λ h' hx=>?_;have I1:Inv X pins σ H { s with heap:=h' }:=I.kept (t':=s.toks) λ b o e=>hx b o (dc (cm e)) e
 exact h pins _ σ H xs _ Q I1 (by simpa using rv) hw
def kPE (to ti:TE) (t:kMT):TG:=λ v σ H Q=>to σ H λ o H1=>ti σ H1 λ i H2=>t o i v H2 λ H3=>Q σ H3
theorem tW {o i:iJ} {to ti:TE} {t:kMT} (ho:PE X o to) (hi:PE X i ti) (hs:kOM X t)
  (ha:∀ v,assign (.Subscript o i pos) X.env v=(do
   let ov <-holding [v] (eval o X.env)
   let iv <-holding [v,ov] (eval i X.env)
   standAt pos
   holding [v,ov,iv] (setItem ov iv v)
   release [v,ov,iv] []):=by intro _;rfl):PG X (.Subscript o i pos) (kPE to ti t):=by
 intro pins s σ H v u Q I r h;rw [ha];refine ae (jw (thn (ho pins s σ H _ I h) λ ov s1 ⟨x,H1,I1,r1,q1⟩=>?_));refine ae (jw (thn (hi pins s1 σ H1 _ I1 q1) λ iv s2 ⟨y,H2,I2,r2,q2⟩=>?_));refine ae (ub (ae (jw (thn (hs pins s2 σ H2 x y v ov iv u _ I2 r1 r2 r q2) λ _ s3 ⟨H3,I3,q3⟩=>?_))));exact wpAny_release ⟨σ,H3,I3,q3⟩
def kIG (te:TE) (g:TG):TS:=λ D σ H=>te σ H λ x H1=>g x σ H1 D.nx
theorem vB {tg e:iJ} {te:TE} {g:TG} (he:PE X e te) (hg:PG X tg g) (hs:swapsWithSole [tg] e pos.line X.env=pure false:=by rfl) (hw:swappedStores [tg] e X.env=pure none:=by rfl)
  (h1:(assignEach [tg] X.env).map (·.2)=[assign tg X.env]:=by rfl):PS X (.Assign [tg] e pos) (kIG te g):=by
 intro pins s σ H D I h;refine wpAny_Assign_stores (thn (he pins s σ H _ I h) λ v s1 ⟨x,H1,I1,r1,q1⟩=>?_) hs hw;rw [h1];exact thn (hg pins s1 σ H1 x v _ I1 r1 q1) λ _ s2 q=>q
theorem qB {i:Nat} {x:Str} {e:iJ} {te:TE} {pos':Pos} (hN:X.N.Nodup) (hi:X.N[i]?=some x) (hx:Loc X.env.scope x) (he:PE X e te) (hs:swapsWith e (some (.Name x pos')) pos.line X.env=pure false:=by rfl) (hf:X.fn x=true\/X.env.scope.names.lookup x=some .local:=by first | exact .inl rfl | exact .inr rfl | assumption) :
  PS X (.Assign [.Name x pos'] e pos) (kIG te (sJ i)):=by
 intro pins s σ H D I h;refine wpAny_Assign_Name (thn (he pins s σ H _ I h) λ v s1 ⟨y,H1,I1,r1,q1⟩=>?_) hs;exact bA I1 hN hi hx r1 (λ s2 I2=>⟨_,H1,I2,q1⟩) hf
def kOR (i j:Nat) (ta:TA):TS:=λ D σ H=>ta σ H λ vs H1=>∃ v w,vs=[v,w]/\D.nx ((σ.set i (some v)).set j (some w)) H1
theorem kLN {i j:Nat} {x y:Str} {a b:iJ} {ta:TA} {px py pt:Pos} {kt k2 pt2} (hc:X.calm=true) (hN:X.N.Nodup) (hi:X.N[i]?=some x) (hj:X.N[j]?=some y) (hij:i≠j)
  (hx:X.env.scope.names.lookup x=some .local) (hy:X.env.scope.names.lookup y=some .local) (ha:PA X [a,b] ta)
  (hw:swappedStores [.Tuple [.Name x px,.Name y py] kt pt] (.Tuple [a,b] k2 pt2) X.env=pure (some [x,y]))
  (hs:swapsWithSole [.Tuple [.Name x px,.Name y py] kt pt] (.Tuple [a,b] k2 pt2) pos.line X.env=pure false:=by rfl) :
  PS X (.Assign [.Tuple [.Name x px,.Name y py] kt pt] (.Tuple [a,b] k2 pt2) pos) (kOR i j ta):=by
 intro pins s σ H D I h;rw [exec_Assign_arm];refine ae (ub ?_);rw [hs];refine ae (bx ?_);rw [if_neg (by decide)];refine ae (Tuple_ (thn (ha _ pins s σ H _ I h) λ us s1 ⟨vs,H1,I1,r1,q1⟩=>?_));obtain ⟨v,w,e1,q1⟩:=q1;subst e1
 obtain ⟨u1,u2,rfl,rv,rw'⟩ : ∃ u1 u2,us=[u1,u2]/\RelV v u1/\RelV w u2:=by
  cases r1 with
  | cons p q =>
   cases q with
   | cons p' q' =>
    cases q'
    exact ⟨_,_,rfl,p,p'⟩
 refine iX ?_ yS2;have I2:Inv X pins σ H1 { s1 with heap:=s1.heap.push { cls:=.type "tuple",data:=.seq [u1,u2].toArray } }:=I1.kept (t':=s1.toks) λ b o e=>au _ e
 rw [hw];refine ae (bx ?_);show eD (model X.prog X.w) X.A (do rule "assign.swapped-stores";let items <-unpackItems (.ref s1.heap.objs.size) 2 none;assignInOrder [λ v=>bindName X.env y v,λ v=>bindName X.env x v] items.reverse;pure Fk) _ _ _;refine ae (vy (ae (unpackItems_tuple (items:=#[u1,u2]) (I.ok.hd hc) (IsTup.new s1.heap _) λ h' hx'=>?_)));have I3:=I2.kept (h':=h') (t':=s1.toks) λ b o e=>hx' b o (dc (cm e)) e;show eD _ _ (assignInOrder [λ v=>bindName X.env y v,λ v=>bindName X.env x v] [u2,u1] >>= λ _=>pure Fk) _ _ _;refine ae (AQ (Dp (bA I3 hN hj (.inl hy) rw' (λ s2 I4=>?_) (.inr hy))));refine AQ (Dp (bA I4 hN hi (.inl hx) rv (λ s3 I5=>Cd (bx ?_)) (.inr hx)));rw [List.set_comm _ _ (uq hij)] at I5;exact ⟨_,H1,I5,q1⟩
def kFD (c:TT) (tb:TS):TS:=λ D σ H=>∃ W:Nat->St->Hp->Prop,(∃ m,W m σ H)/\∀ m σ H,W m σ H ->
 c σ H λ b H1=>if b=true then ∃ N:St->Hp->Prop,(∀ σ' H',N σ' H'->∃ m',m'<m/\W m' σ' H')/\tb { D with nx:=N,ct:=N,bk:=D.nx } σ H1 else D.nx σ H1
theorem rM {c:iJ} {body:List nj} {tc:TT} {tb:TS} (hp:PassesOwn (model X.prog X.w) X.A X.env X.xe) (hc:PT X c tc) (hb:PSs X body tb):PS X (.While c body [] pos) (kFD tc tb):=by
 intro pins s σ H D I h;obtain ⟨W,⟨m0,w0⟩,turn⟩:=h;refine wpAny_While (codeAny_whileLoop (λ n s'=>∃ σ' H',Inv X pins σ' H' s'/\W n σ' H') ?_ m0 ⟨σ,H,I,w0⟩);rintro n s1 ⟨σ1,H1,I1,w1⟩;refine rg hp (thn (hc pins s1 σ1 H1 _ I1 (turn n σ1 H1 w1)) λ b s2 ⟨H2,I2,q2⟩=>?_)
 cases b with
 | true =>
  obtain ⟨N,hN,q2⟩:=q2;rw [if_pos rfl];refine rg hp (thn (hb pins s2 σ1 H2 _ I2 q2) λ f s3 q3=>?_)
  cases f with
  | next =>
   obtain ⟨σ3,H3,I3,n3⟩:=q3;obtain ⟨m',hm,w3⟩:=hN σ3 H3 n3;exact ⟨m',hm,σ3,H3,I3,w3⟩
  | cont =>
   obtain ⟨σ3,H3,I3,n3⟩:=q3;obtain ⟨m',hm,w3⟩:=hN σ3 H3 n3;exact ⟨m',hm,σ3,H3,I3,w3⟩
  | brk=>exact q3
  | ret v=>exact q3
 | false =>
  rw [if_neg dq];exact zj ⟨σ1,H2,I2,q2⟩
end
structure It where
 go:Nat->Hp->Prop
 yld:Nat->Hp->V->Hp->Prop
 stop:Nat->Hp->Prop
def zD (X:Cx) (pins:List (av×Obj)) (H:Hp) (b:av):Prop :=
 H b=none/\b≠X.env.locals/\b∉X.fs/\(b∈X.ex\/X.s₀.heap.objs.size<=b)/\(∀ x c,X.env.cells.lookup x=some c->c≠b)/\∀ p∈X.pn++pins,p.1≠b
theorem Inv.fpOk {X:Cx} {pins:List (av×Obj)} {σ:St} {H H':Hp} {s:ay} {b:av} (I:Inv X pins σ H s) (hb:s.heap.objs.size<=b) (hn:H' b=none):zD X pins H' b:=by
 refine ⟨hn,wk (cj I.lt hb),I.nofs hb,.inr (iA I.sz hb),λ x c e z=>?_,λ p hp z=>?_⟩
 ·obtain ⟨v,q⟩:=I.cell x c e
  exact absurd (cj q.lt (by rw [z];exact hb)) (jv _)
 ·exact absurd (cj (cm (I.pin p hp).1) (by rw [z];exact hb)) (jv _)
structure Turn (P:eo) (w:iD) (K:cf) (tg:iJ) (J:It) (fp:List av) (it:av) (tn:Nat->gy->Prop):Prop where
 mem:it∈fp
 obj:∀ i h,tn i h->∀ b∈fp,∃ o,h.get? b=some o/\∀ v,o.data≠.cell v
 keep:∀ i h h',tn i h->(∀ b∈fp,∀ o,h.get? b=some o->h'.get? b=some o)->tn i h'
 item:∀ (X:Cx),X.prog=P->X.w=w->X.K=K->X.calm=true->∀ (i:Nat) (pins:List (av×Obj)) (s:ay) (σ:St) (H:Hp) (E:ar->ay->Prop),Inv X pins σ H s->(∀ b∈fp,zD X pins H b)->tn i s.heap->J.go i H ->
  eD (model P w) X.A (pyNext (.ref it)) (λ r s1=>∃ u,r=some u /\
   eD (model P w) X.A (letOwnedTupleGo tg (.ref it) u) (λ _ s2=>∃ x H',Inv X pins σ H' s2/\RelV x u/\J.yld i H x H'/\tn (i+1) s2.heap/\∀ b∈fp,H' b=none) E s1) E s
 done:∀ (X:Cx),X.prog=P->X.w=w->X.K=K->X.calm=true->∀ (i:Nat) (pins:List (av×Obj)) (s:ay) (σ:St) (H:Hp) (E:ar->ay->Prop),Inv X pins σ H s->(∀ b∈fp,zD X pins H b)->tn i s.heap->J.stop i H ->
  eD (model P w) X.A (pyNext (.ref it)) (λ r s1=>r=none/\Inv X pins σ H s1) E s
 self:∀ (A:fb) (i:Nat) (s:ay) (Q:ar->ay->Prop) (E:ar->ay->Prop),tn i s.heap->Q (.ref it) s->eD (model P w) A (pyIter (.ref it)) Q E s
abbrev TI:=St->Hp->(It->Hp->Prop)->Prop
def PIE (X:Cx) (pins:List (av×Obj)) (σ:St) (tg:iJ) (R:It->Hp->Prop) (itv:ar) (s2:ay):Prop :=
 ∃ (it:av) (fp:List av) (tn:Nat->gy->Prop) (J:It) (H':Hp),itv=.ref it/\Inv X pins σ H' s2/\Turn X.prog X.w X.K tg J fp it tn/\tn 0 s2.heap/\(∀ b∈fp,zD X pins H' b)/\R J H'
def PI (X:Cx) (tg iter:iJ) (wi:TI):Prop :=
 ∀ (pins:List (av×Obj)) (s:ay) (σ:St) (H:Hp) (R:It->Hp->Prop),Inv X pins σ H s->wi σ H R ->
  eD (model X.prog X.w) X.A (eval iter X.env) (λ v s1=>eD (model X.prog X.w) X.A (pyIter v) (PIE X pins σ tg R) X.xe s1) X.xe s
theorem kHE {M : wq} {A : fb} {E : ar -> ay -> Prop} {s : ay} {tg : iJ} {it : av} {u : ar} {o : Obj} {n : String} {vs : Array ar} {Q : Unit -> ay -> Prop} (ho : s.heap.get? it = some o) (hc : o.cls = .type n) (hd : o.data = .fields vs)
    (hn : ["enumerate", "zip", "dict_itemiterator", "dict_reverseitemiterator", "odict_iterator", "itertools.zip_longest", "itertools.pairwise"].contains n = false) (hQ : Q () s) : eD M A (letOwnedTupleGo tg (.ref it) u) Q E s := by
  unfold letOwnedTupleGo
  cases tg <;> first
    | exact bx hQ
    | (cases u <;> first
        | exact bx hQ
        | (refine ae (wpAny_load ho ?_)
           rw [hc, hd];show eD M A (if (["enumerate", "zip", "dict_itemiterator", "dict_reverseitemiterator", "odict_iterator", "itertools.zip_longest", "itertools.pairwise"].contains n && vs[0]? == some (rawInt _)) = true then _ else _) Q E s;rw [if_neg (by intro h; rw [hn, Bm] at h; cases h)];exact bx hQ))
def Itl (K:cf) (a:av):It :=
 ⟨λ i H=>∃ xs x,SqL K H a xs/\xs[i]?=some x,λ i H x H'=>H'=H/\∀ xs,SqL K H a xs->xs[i]?=some x,λ i H=>∃ xs,SqL K H a xs/\xs.length<=i⟩
def Itt (K:cf) (a:av):It :=
 ⟨λ i H=>∃ xs x,SqT K H a xs/\xs[i]?=some x,λ i H x H'=>H'=H/\∀ xs,SqT K H a xs->xs[i]?=some x,λ i H=>∃ xs,SqT K H a xs/\xs.length<=i⟩
def Itr (lo:Int) (n:Nat):It:=⟨λ i _=>i<n,λ i H x H'=>H'=H/\x=.int (lo+i),λ i _=>n<=i⟩
theorem kCP {P:eo} {w:iD} {K:cf} {tg:iJ} (a it:av):Turn P w K tg (Itl K a) [it] it (λ i h=>h.IsListIter it a i) where
 mem:=by simp
 obj:=λ i h st b hb=>by
  have e:b=it:=by simpa using hb
  subst e;obtain ⟨o,e,c,d⟩:=st;exact ⟨o,e,λ v z=>by rw [d] at z;cases z⟩
 keep:=λ i h h' st k=>st.at λ o e=>k it (by simp) o e
 item:=by
  intro X hP hw hK hc i pins s σ H E I hf st hg;subst hP hw hK;obtain ⟨xs,x,hq,hx⟩:=hg;obtain ⟨its,rv,p,hz⟩:=I.list hq;obtain ⟨u,hu,ru⟩:=rv.get hx;obtain ⟨f0,f1,f2,f3,f4,f5⟩:=hf it (by simp);refine wpAny_pyNext_list_item st p.isList (x:=u) (by simpa using hu) λ h' st' sb=>?_;have I1:Inv X pins σ H { s with heap:=h' }:=I.turned (t':=s.toks) (λ b o hb e=>(sb.2 b hb).trans e) f0 f1 f3 f4 f5
  obtain ⟨o,e,c,d⟩:=id st';exact ⟨u,rfl,kHE (s:={ s with heap:=h' }) e c d (by decide) ⟨x,H,I1,ru,⟨rfl,λ ys hy=>by rw [I.list_inj hy hq];exact hx⟩,st',λ b hb=>(hf b hb).1⟩⟩
 done:=by
  intro X hP hw hK hc i pins s σ H E I hf st hg;subst hP hw hK;obtain ⟨xs,hq,hx⟩:=hg;obtain ⟨its,rv,p,hz⟩:=I.list hq;obtain ⟨f0,f1,f2,f3,f4,f5⟩:=hf it (by simp);have hl:=rv.length;exact wpAny_pyNext_list_end (I.ok.hd hc) st p.isList (by simp;omega) λ h' eb=>⟨rfl,I.turned (t':=s.toks) (λ b o hb e=>eb b o hb e) f0 f1 f3 f4 f5⟩
 self:=λ _ _ _ _ _ st h=>wpAny_pyIter_listiter st h
theorem tD {P:eo} {w:iD} {K:cf} {tg:iJ} (a it:av):Turn P w K tg (Itt K a) [it] it (λ i h=>h.IsTupleIter it a i) where
 mem:=by simp
 obj:=λ i h st b hb=>by
  have e:b=it:=by simpa using hb
  subst e;obtain ⟨o,e,c,d⟩:=st;exact ⟨o,e,λ v z=>by rw [d] at z;cases z⟩
 keep:=λ i h h' st k=>st.at λ o e=>k it (by simp) o e
 item:=by
  intro X hP hw hK hc i pins s σ H E I hf st hg;subst hP hw hK;obtain ⟨xs,x,hq,hx⟩:=hg;obtain ⟨its,rv,p,hz⟩:=I.tuple hq;obtain ⟨u,hu,ru⟩:=rv.get hx;obtain ⟨f0,f1,f2,f3,f4,f5⟩:=hf it (by simp);refine wpAny_pyNext_tuple_item st (show s.heap.IsTuple a its.toArray from p) (x:=u) (by simpa using hu) λ h' st' sb=>?_;have I1:Inv X pins σ H { s with heap:=h' }:=I.turned (t':=s.toks) (λ b o hb e=>(sb.2 b hb).trans e) f0 f1 f3 f4 f5
  obtain ⟨o,e,c,d⟩:=id st';exact ⟨u,rfl,kHE (s:={ s with heap:=h' }) e c d (by decide) ⟨x,H,I1,ru,⟨rfl,λ ys hy=>by rw [I.tuple_inj hy hq];exact hx⟩,st',λ b hb=>(hf b hb).1⟩⟩
 done:=by
  intro X hP hw hK hc i pins s σ H E I hf st hg;subst hP hw hK;obtain ⟨xs,hq,hx⟩:=hg;obtain ⟨its,rv,p,hz⟩:=I.tuple hq;obtain ⟨f0,f1,f2,f3,f4,f5⟩:=hf it (by simp);have hl:=rv.length;exact wpAny_pyNext_tuple_end (I.ok.hd hc) st (show s.heap.IsTuple a its.toArray from p) (by simp;omega) λ h' eb=>⟨rfl,I.turned (t':=s.toks) (λ b o hb e=>eb b o hb e) f0 f1 f3 f4 f5⟩
 self:=λ _ _ _ _ _ st h=>wpAny_pyIter_tupleiter st h
theorem tE {P:eo} {w:iD} {K:cf} {tg:iJ} (it:av) (lo:Int) (n:Nat):Turn P w K tg (Itr lo n) [it] it (λ i h=>IsRangeIter h it (lo+(i:Nat)*1) ((n:Int)-(i:Nat)) 1) where
 mem:=by simp
 obj:=λ i h st b hb=>by
  have e:b=it:=by simpa using hb
  subst e
  exact ⟨_,st,λ v z=>by
   have z':Data.fields _=Data.cell v:=z
   cases z'⟩
 keep:=λ i h h' st k=>k it (by simp) _ st
 item:=by
  intro X hP hw hK hc i pins s σ H E I hf st hg;subst hP hw hK;obtain ⟨f0,f1,f2,f3,f4,f5⟩:=hf it (by simp);have W:=Walks.range (prog:=X.prog) (w:=X.w) (I.ok.hd hc) it lo 1 n;refine W.item i s _ _ hg st λ v h' tk hv st' kk=>?_;obtain ⟨t,rfl⟩:=hv;have I1:Inv X pins σ H { s with heap:=h',toks:=tk }:=I.turned (λ b o hb e=>kk b o (by simpa using hb) e) f0 f1 f3 f4 f5
  refine ⟨_,rfl,kHE (s:={ s with heap:=h',toks:=tk }) (n:="range_iterator") st' rfl rfl (by decide) ⟨.int (lo+i),H,I1,⟨t,?_⟩,⟨rfl,rfl⟩,st',λ b hb=>(hf b hb).1⟩⟩
  rw [Int.mul_one]
 done:=by
  intro X hP hw hK hc i pins s σ H E I hf st hg;subst hP hw hK;obtain ⟨f0,f1,f2,f3,f4,f5⟩:=hf it (by simp);exact wpAny_pyNext_range_end (I.ok.hd hc) st (by have:n<=i:=hg;omega) λ h' eb=>⟨rfl,I.turned (t':=s.toks) (λ b o hb e=>eb b o hb e) f0 f1 f3 f4 f5⟩
 self:=λ _ _ _ _ _ st h=>wpAny_pyIter_rangeiter st h
section
variable {X:Cx} {tg:iJ}
def kKN (K:cf) (tl:TE):TI:=λ σ H R=>tl σ H λ x H1=>∃ a,x=.ref a/\(∃ xs,SqL K H1 a xs)/\R (Itl K a) H1
def kNU (K:cf) (tl:TE):TI:=λ σ H R=>tl σ H λ x H1=>∃ a,x=.ref a/\(∃ xs,SqT K H1 a xs)/\R (Itt K a) H1
theorem yX {l:iJ} {tl:TE} (hl:PE X l tl):PI X tg l (kKN X.K tl):=by
 intro pins s σ H R I h;refine thn (hl pins s σ H _ I h) λ v s1 ⟨x,H1,I1,r1,q1⟩=>?_;obtain ⟨a,e,⟨xs,hq⟩,q⟩:=q1;subst e;cases r1
 obtain ⟨its,rv,p,hz⟩:=I1.list hq;refine Aj p.isList ?_;refine ⟨s1.heap.objs.size,[s1.heap.objs.size],_,_,H1,rfl,I1.kept (t':=s1.toks) λ b o e=>au _ e,kCP a _,⟨_,cn _ rfl,rfl,rfl⟩,λ b hb=>?_,q⟩;have e:b=s1.heap.objs.size:=by simpa using hb
 subst e;exact I1.fpOk (bq _) (I1.hok.fresh (bq _))
theorem tV {l:iJ} {tl:TE} (hl:PE X l tl):PI X tg l (kNU X.K tl):=by
 intro pins s σ H R I h;refine thn (hl pins s σ H _ I h) λ v s1 ⟨x,H1,I1,r1,q1⟩=>?_;obtain ⟨a,e,⟨xs,hq⟩,q⟩:=q1;subst e;cases r1
 obtain ⟨its,rv,p,hz⟩:=I1.tuple hq;refine qj (show s1.heap.IsTuple a its.toArray from p) ?_;refine ⟨s1.heap.objs.size,[s1.heap.objs.size],_,_,H1,rfl,I1.kept (t':=s1.toks) λ b o e=>au _ e,tD a _,⟨_,cn _ rfl,rfl,rfl⟩,λ b hb=>?_,q⟩;have e:b=s1.heap.objs.size:=by simpa using hb
 subst e;exact I1.fpOk (bq _) (I1.hok.fresh (bq _))
theorem rK {pins:List (av×Obj)} {σ:St} {H:Hp} {s:ay} {R:It->Hp->Prop} {E:ar->ay->Prop} {lo hi:Int} {t u v:Tok} {tk:Nat} (I:Inv X pins σ H s) (h1 : -(2 ^ 62)<=lo) (h2:lo<2 ^ 62) (h3 : -(2 ^ 62)<=hi) (h4:hi<2 ^ 62)
  (q:R (Itr lo (hi-lo).toNat) H):eD (model X.prog X.w) X.A (pyIter (.ref s.heap.objs.size)) (PIE X pins σ tg R) E { s with heap:=s.heap.push { cls:=.type "range",data:=.fields #[.int lo t,.int hi u,.int 1 v] },toks:=tk }:=by
 refine wpAny_pyIter_range (FS ..) (small_one h1 h2 h3 h4) ?_;have I1:Inv X pins σ H { s with heap:=s.heap.push { cls:=.type "range",data:=.fields #[.int lo t,.int hi u,.int 1 v] },toks:=tk }:=I.kept λ b o e=>au _ e
 refine ⟨(s.heap.push { cls:=.type "range",data:=.fields #[.int lo t,.int hi u,.int 1 v] }).objs.size,[(s.heap.push { cls:=.type "range",data:=.fields #[.int lo t,.int hi u,.int 1 v] }).objs.size],_,_,H,rfl,
  I1.kept (t':=tk) λ b o e=>au _ e,tE _ lo (hi-lo).toNat,?_,λ b hb=>?_,q⟩
 ·have e1:lo+((0:Nat):Int)*1=lo:=by simp
  have e2:(((hi-lo).toNat:Nat):Int)-((0:Nat):Int)=Ey lo hi 1:=by rw [rangeSize_one];split<;>omega
  show IsRangeIter _ _ (lo+((0:Nat):Int)*1) ((((hi-lo).toNat:Nat):Int)-((0:Nat):Int)) 1;rw [e1,e2];exact cn _ rfl
 ·have e:b=(s.heap.push { cls:=.type "range",data:=.fields #[.int lo t,.int hi u,.int 1 v] }).objs.size:=by simpa using hb
  subst e;exact I1.fpOk (bq _) (I1.hok.fresh (bq _))
def kNW (ta:TA):TI:=λ σ H R=>ta σ H λ vs H1=>∃ j:Int,vs=[.int j]/\-(2 ^ 62)<=j/\j<2 ^ 62/\R (Itr 0 j.toNat) H1
def kNV (ta:TA):TI:=λ σ H R=>ta σ H λ vs H1=>∃ i j:Int,vs=[.int i,.int j]/\(-(2 ^ 62)<=i/\i<2 ^ 62/\-(2 ^ 62)<=j/\j<2 ^ 62)/\R (Itr i (j-i).toNat) H1
theorem yS {a:iJ} {ta:TA} {p pos:Pos} (hg:Gl X "range") (hm:X.mg "range" = none) (ha:PA X [a] ta) (hs:starEach [a] X.env=[(false,eval a X.env)]:=by rfl):PI X tg (.Call (.Name "range" p) [a] [] pos) (kNW ta):=by
 intro pins s σ H R I h;refine FT (vH I hg hm Dq (ie (thn (ha pos pins s σ H _ I h) λ us s1 ⟨vs,H1,I1,r1,q1⟩=>?_) hs rfl));obtain ⟨j,e,q1,q2,q⟩:=q1;subst e
 cases r1 with
 | cons r rr =>
  cases rr
  obtain ⟨t,rfl⟩:=r;exact call_range_1 (rK I1 (by omega) (by omega) q1 q2 (by simpa using q))
theorem cW {a b:iJ} {ta:TA} {p pos:Pos} (hg:Gl X "range") (hm:X.mg "range" = none) (ha:PA X [a,b] ta) (hs:starEach [a,b] X.env=[(false,eval a X.env),(false,eval b X.env)]:=by rfl) (hs2:starEach [b] X.env=[(false,eval b X.env)]:=by rfl) :
  PI X tg (.Call (.Name "range" p) [a,b] [] pos) (kNV ta):=by
 intro pins s σ H R I h;refine FT (vH I hg hm Dq (ie (thn (ha pos pins s σ H _ I h) λ us s1 ⟨vs,H1,I1,r1,q1⟩=>?_) (by rw [hs,hs2]) (by rw [hs2];rfl)));obtain ⟨i,j,e,⟨q1,q2,q3,q4⟩,q⟩:=q1;subst e
 cases r1 with
 | cons r rr =>
  cases rr with
  | cons r' rr =>
   cases rr
   obtain ⟨t,rfl⟩:=r;obtain ⟨t',rfl⟩:=r';exact call_range_2 (rK I1 q1 q2 q3 q4 q)
def kOV (wi:TI) (g:TG) (tb:TS):TS:=λ D σ H=>wi σ H λ J H1=>∃ W:Nat->Nat->St->Hp->Prop,(∃ m,W 0 m σ H1)/\∀ i m σ H,W i m σ H ->
 (J.stop i H/\D.nx σ H)\/(J.go i H/\∃ N:St->Hp->Prop,(∀ σ' H',N σ' H'->∃ m',m'<m/\W (i+1) m' σ' H')/\∀ x H',J.yld i H x H'->g x σ H' λ σ2 H2=>tb { D with nx:=N,ct:=N,bk:=D.nx } σ2 H2)
def oK (fp:List av) (h:gy):List (av×Obj):=fp.filterMap λ b=>(h.get? b).map λ o=>(b,o)
theorem vG {fp:List av} {h:gy} {b:av} {o:Obj} (hb:b∈fp) (e:h.get? b=some o):(b,o)∈oK fp h:=CI.mpr ⟨b,hb,by rw [e];rfl⟩
theorem kDI {fp:List av} {h:gy} {p:av×Obj} (hp:p∈oK fp h):p.1∈fp/\h.get? p.1=some p.2:=by
 obtain ⟨b,hb,e⟩:=CI.mp hp
 cases q:h.get? b with
 | none=>rw [q] at e;cases e
 | some o =>
  rw [q] at e;have e':(b,o)=p:=bj e;subst e';exact ⟨hb,q⟩
theorem Inv.pinned {pins:List (av×Obj)} {σ:St} {H:Hp} {s:ay} {fp:List av} (I:Inv X pins σ H s) (hf:∀ b∈fp,zD X pins H b) (ho:∀ b∈fp,∃ o,s.heap.get? b=some o/\∀ v,o.data≠.cell v):Inv X (pins++oK fp s.heap) σ H s :=
 I.pins_of λ p hp=>(bz.mp hp).elim (λ z=>I.pin p (bu _ z)) λ z=>by
  obtain ⟨hb,e⟩:=kDI z;obtain ⟨f0,f1,f2,_⟩:=hf p.1 hb;obtain ⟨o,e',d⟩:=ho p.1 hb;rw [e] at e';cases e';exact ⟨e,f0,f1,f2,d⟩
theorem Inv.unpinned {pins pl:List (av×Obj)} {σ:St} {H:Hp} {s:ay} (I:Inv X (pins++pl) σ H s):Inv X pins σ H s:=I.pins_of λ p hp=>I.pin p (bu _ (az _ hp))
theorem yR {iter:iJ} {body:List nj} {wi:TI} {g:TG} {tb:TS} {pos:Pos} (hp:PassesOwn (model X.prog X.w) X.A X.env X.xe) (hc:X.calm=true) (hi:PI X tg iter wi) (hg:PG X tg g) (hb:PSs X body tb)
  (hs:∀ x,foldedSetIterable iter X.env x=pure x:=by intro _;rfl):PS X (.For tg iter body [] pos) (kOV wi g tb):=by
 intro pins s σ H D I h;refine wpAny_For (thn (hi pins s σ H _ I h) λ v s1 h1=>thn h1 λ itv s2 h2=>?_) hs;obtain ⟨it,fp,tn,J,H2,e,I2,T,st2,f2,W,⟨m0,w0⟩,turn⟩:=h2
 subst e
 have stat:∀ {H':Hp},(∀ b∈fp,H' b=none)->∀ b∈fp,zD X pins H' b:=λ hn b hb=>⟨hn b hb,(f2 b hb).2⟩;refine codeAny_forLoop_any (λ n s'=>∃ i σ' H',Inv X pins σ' H' s'/\tn i s'.heap/\(∀ b∈fp,H' b=none)/\W i n σ' H') ?_ m0 ⟨0,σ,H2,I2,st2,λ b hb=>(f2 b hb).1,w0⟩;rintro n s3 ⟨i,σ3,H3,I3,st3,fr3,w3⟩;rcases turn i n σ3 H3 w3 with ⟨stop,qn⟩ | ⟨go,N,hN,step⟩
 ·refine rg hp (thn (T.done X rfl rfl rfl hc i pins s3 σ3 H3 X.xe I3 (stat fr3) st3 stop) λ r s4 ⟨hr,I4⟩=>?_)
  subst hr;exact zj ⟨σ3,H3,I4,qn⟩
 ·refine rg hp (thn (T.item X rfl rfl rfl hc i pins s3 σ3 H3 X.xe I3 (stat fr3) st3 go) λ r s4 ⟨u,hr,h4⟩=>?_)
  subst hr;refine rg hp (thn h4 λ _ s5 ⟨x,H5,I5,r5,y5,st5,fr5⟩=>?_);have I5':=I5.pinned (stat fr5) (T.obj _ _ st5);refine rg hp (thn (hg _ s5 σ3 H5 x u _ I5' r5 (step x H5 y5)) λ _ s6 ⟨σ6,H6,I6,q6⟩=>?_);refine rg hp (thn (hb _ s6 σ6 H6 _ I6 q6) λ f s7 q7=>?_)
  have again:∀ {σ7:St} {H7:Hp},Inv X (pins++oK fp s5.heap) σ7 H7 s7->N σ7 H7->∃ m,m<n/\∃ i σ' H',Inv X pins σ' H' s7/\tn i s7.heap/\(∀ b∈fp,H' b=none)/\W i m σ' H':=λ {σ7 H7} I7 n7=>by
   obtain ⟨m',hm,w7⟩:=hN σ7 H7 n7;refine ⟨m',hm,i+1,σ7,H7,I7.unpinned,T.keep _ _ _ st5 λ b hb o e=>(I7.pin (b,o) (bu _ (bu _ (vG hb e)))).1,λ b hb=>?_,w7⟩;obtain ⟨o,e,d⟩:=T.obj _ _ st5 b hb;exact (I7.pin (b,o) (bu _ (bu _ (vG hb e)))).2.1
  cases f with
  | next=>obtain ⟨σ7,H7,I7,n7⟩:=q7;exact again I7 n7
  | cont=>obtain ⟨σ7,H7,I7,n7⟩:=q7;exact again I7 n7
  | brk=>obtain ⟨σ7,H7,I7,q7⟩:=q7;exact ⟨σ7,H7,I7.unpinned,q7⟩
  | ret v=>obtain ⟨x7,σ7,H7,I7,r7,q7⟩:=q7;exact ⟨x7,σ7,H7,I7.unpinned,r7,q7⟩
end
theorem kHI {K:cf} {a:av} {xs:List V} {g:TG} {tb:TS} {D:Ends} {σ:St} {H:Hp} (Pv:Nat->St->Hp->Prop) (h0:Pv 0 σ H) (hl:∀ i σ H,i<=xs.length->Pv i σ H->SqL K H a xs)
  (hs:∀ i x σ H,xs[i]?=some x->Pv i σ H->g x σ H λ σ2 H2=>tb { D with nx:=Pv (i+1),ct:=Pv (i+1),bk:=D.nx } σ2 H2) (hd:∀ σ H,Pv xs.length σ H->D.nx σ H) :
  ∃ W:Nat->Nat->St->Hp->Prop,(∃ m,W 0 m σ H)/\∀ i m σ H,W i m σ H ->
   ((Itl K a).stop i H/\D.nx σ H)\/((Itl K a).go i H/\∃ N:St->Hp->Prop,(∀ σ' H',N σ' H'->∃ m',m'<m/\W (i+1) m' σ' H')/\∀ x H',(Itl K a).yld i H x H'->g x σ H' λ σ2 H2=>tb { D with nx:=N,ct:=N,bk:=D.nx } σ2 H2):=by
 refine ⟨λ i m σ H=>m=xs.length-i/\i<=xs.length/\Pv i σ H,⟨xs.length,by simp,gm _,h0⟩,?_⟩;rintro i m σ H ⟨rfl,hi,p⟩;have q:=hl i σ H hi p;by_cases hlt:i<xs.length
 ·refine .inr ⟨⟨xs,xs[i],q,by simp [hlt]⟩,Pv (i+1),λ σ' H' p'=>⟨xs.length-(i+1),by omega,rfl,hlt,p'⟩,λ x H' y=>?_⟩
  obtain ⟨e,y⟩:=y;subst e;exact hs i x σ _ (y xs q) p
 ·have e:i=xs.length:=by omega
  subst e;exact .inl ⟨⟨xs,q,bq _⟩,hd σ H p⟩
theorem xZ {lo:Int} {n:Nat} {g:TG} {tb:TS} {D:Ends} {σ:St} {H:Hp} (Pv:Nat->St->Hp->Prop) (h0:Pv 0 σ H)
  (hs:∀ i σ H,i<n->Pv i σ H->g (.int (lo+i)) σ H λ σ2 H2=>tb { D with nx:=Pv (i+1),ct:=Pv (i+1),bk:=D.nx } σ2 H2) (hd:∀ σ H,Pv n σ H->D.nx σ H) :
  ∃ W:Nat->Nat->St->Hp->Prop,(∃ m,W 0 m σ H)/\∀ i m σ H,W i m σ H ->
   ((Itr lo n).stop i H/\D.nx σ H)\/((Itr lo n).go i H/\∃ N:St->Hp->Prop,(∀ σ' H',N σ' H'->∃ m',m'<m/\W (i+1) m' σ' H')/\∀ x H',(Itr lo n).yld i H x H'->g x σ H' λ σ2 H2=>tb { D with nx:=N,ct:=N,bk:=D.nx } σ2 H2):=by
 refine ⟨λ i m σ H=>m=n-i/\i<=n/\Pv i σ H,⟨n,by simp,gm _,h0⟩,?_⟩;rintro i m σ H ⟨rfl,hi,p⟩;by_cases hlt:i<n
 ·refine .inr ⟨hlt,Pv (i+1),λ σ' H' p'=>⟨n-(i+1),by omega,rfl,hlt,p'⟩,λ x H' y=>?_⟩
  obtain ⟨e,y⟩:=y;subst e y;exact hs i σ _ hlt p
 ·have e:i=n:=by omega
  subst e;exact .inl ⟨bq _,hd σ H p⟩
theorem pY {c:TT} {tb:TS} {D:Ends} {σ:St} {H:Hp} (Pv:St->Hp->Prop) (μ:St->Hp->Nat) (h0:Pv σ H)
  (hs:∀ σ H,Pv σ H->c σ H λ b H1=>if b=true then tb { D with nx:=λ σ' H'=>Pv σ' H'/\μ σ' H'<μ σ H,ct:=λ σ' H'=>Pv σ' H'/\μ σ' H'<μ σ H,bk:=D.nx } σ H1 else D.nx σ H1)
  (mono:∀ σ H Q Q',(∀ b H1,Q b H1->Q' b H1)->c σ H Q->c σ H Q'):kFD c tb D σ H:=by
 refine ⟨λ m σ H=>m=μ σ H/\Pv σ H,⟨_,rfl,h0⟩,?_⟩;rintro m σ H ⟨rfl,p⟩;refine mono σ H _ _ (λ b H1 q=>?_) (hs σ H p)
 cases b with
 | true=>exact ⟨_,λ σ' H' ⟨p',l⟩=>⟨_,l,rfl,p'⟩,q⟩
 | false=>exact q
abbrev R2:=V->V->Hp->VK->Prop
def OpR (X:Cx) (f:ar->ar->Sem ar) (r:R2):Prop :=
 ∀ (pins:List (av×Obj)) (s:ay) (σ:St) (H:Hp) (x y:V) (v u:ar) (Q:VK),Inv X pins σ H s->RelV x v->RelV y u->r x y H Q ->
  eD (model X.prog X.w) X.A (f v u) (EP X pins σ Q) X.xe s
def UnR (X:Cx) (f:ar->Sem ar) (r:V->Hp->VK->Prop):Prop :=
 ∀ (pins:List (av×Obj)) (s:ay) (σ:St) (H:Hp) (x:V) (v:ar) (Q:VK),Inv X pins σ H s->RelV x v->r x H Q ->
  eD (model X.prog X.w) X.A (f v) (EP X pins σ Q) X.xe s
def xH (X:Cx) (f:ar) (r:List V->Hp->VK->Prop):Prop :=
 ∀ (pins:List (av×Obj)) (s:ay) (σ:St) (H:Hp) (xs:List V) (us:List ar) (Q:VK),Inv X pins σ H s->Vals xs us->r xs H Q ->
  eD (model X.prog X.w) X.A (call f us) (EP X pins σ Q) X.xe s
def kPJ (X:Cx) (r:V->Hp->(Bool->Hp->Prop)->Prop):Prop :=
 ∀ (pins:List (av×Obj)) (s:ay) (σ:St) (H:Hp) (x:V) (v:ar) (Q:Bool->Hp->Prop),Inv X pins σ H s->RelV x v->r x H Q ->
  eD (model X.prog X.w) X.A (truthy v) (TP X pins σ Q) X.xe s
def tOp (r:R2) (ta tb:TE):TE:=λ σ H Q=>ta σ H λ x H1=>tb σ H1 λ y H2=>r x y H2 Q
def tUn (r:V->Hp->VK->Prop) (ta:TE):TE:=λ σ H Q=>ta σ H λ x H1=>r x H1 Q
def rI (C:Int->Int->Prop) (g:Int->Int->V):R2:=λ x y H Q=>∃ i j,x=.int i/\y=.int j/\C i j/\Q (g i j) H
def rI0 (g:Int->Int->V):R2:=λ x y H Q=>∃ i j,x=.int i/\y=.int j/\Q (g i j) H
def rU (g:Int->V):V->Hp->VK->Prop:=λ x H Q=>∃ i,x=.int i/\Q (g i) H
section
variable {X:Cx} {a b c:iJ} {ta tb tc:TE} {pos:Pos}
theorem kMQ (ha:PE X a ta) (hb:PE X b tb) {pins:List (av×Obj)} {s:ay} {σ:St} {H:Hp} {R:V->V->Hp->Prop} (I:Inv X pins σ H s)
  (h:ta σ H λ x H1=>tb σ H1 λ y H2=>R x y H2) {Q:ar->ay->Prop} {f:ar->ar->Sem ar}
  (hf:∀ v u s2 x y H2,Inv X pins σ H2 s2->RelV x v->RelV y u->R x y H2->eD (model X.prog X.w) X.A (f v u) Q X.xe s2) :
  eD (model X.prog X.w) X.A (eval a X.env) (λ v s₁=>eD (model X.prog X.w) X.A (eval b X.env) (λ u s₂=>eD (model X.prog X.w) X.A (f v u) Q X.xe s₂) X.xe s₁) X.xe s:=by
 refine thn (ha pins s σ H _ I h) λ v s1 ⟨x,H1,I1,r1,q1⟩=>?_;refine thn (hb pins s1 σ H1 _ I1 q1) λ u s2 ⟨y,H2,I2,r2,q2⟩=>?_;exact hf v u s2 x y H2 I2 r1 r2 q2
theorem kX {op:Operator} {r:R2} (ho:OpR X (binaryOp op) r) (ha:PE X a ta) (hb:PE X b tb):PE X (.BinOp a op b pos) (tOp r ta tb):=by
 intro pins s σ H Q I h;exact wpAny_BinOp (kMQ ha hb I h λ v u s2 x y H2 I2 rx ry q=>ho pins s2 σ H2 x y v u Q I2 rx ry q)
theorem wD {op:UnaryOp} {r:V->Hp->VK->Prop} (ho:UnR X (unaryOp op) r) (ha:PE X a ta):PE X (.UnaryOp op a pos) (tUn r ta):=by
 intro pins s σ H Q I h;exact UnaryOp_ (thn (ha pins s σ H _ I h) λ v s1 ⟨x,H1,I1,r1,q1⟩=>ho pins s1 σ H1 x v Q I1 r1 q1)
theorem opI {f:ar->ar->Sem ar} {C:Int->Int->Prop} {g:Int->Int->Int}
  (rule:∀ (i j:Int) (t u:Tok) (s:ay) (Q:ar->ay->Prop) (E:ar->ay->Prop),C i j->Q (.int (g i j) s.toks) { s with toks:=s.toks+1 }->eD (model X.prog X.w) X.A (f (.int i t) (.int j u)) Q E s) :
  OpR X f (rI C λ i j=>.int (g i j)):=by
 intro pins s σ H x y v u Q I rx ry h;obtain ⟨i,j,rfl,rfl,hc,q⟩:=h;obtain ⟨t,rfl⟩:=rx;obtain ⟨t',rfl⟩:=ry;exact rule i j t t' s _ _ hc ⟨.int (g i j),H,I.tok _,⟨_,rfl⟩,q⟩
theorem kNR {f:ar->ar->Sem ar} {g:Int->Int->Int}
  (rule:∀ (i j:Int) (t u:Tok) (s:ay) (Q:ar->ay->Prop) (E:ar->ay->Prop),Q (.int (g i j) s.toks) { s with toks:=s.toks+1 }->eD (model X.prog X.w) X.A (f (.int i t) (.int j u)) Q E s) :
  OpR X f (rI0 λ i j=>.int (g i j)):=by
 intro pins s σ H x y v u Q I rx ry h;obtain ⟨i,j,rfl,rfl,q⟩:=h;obtain ⟨t,rfl⟩:=rx;obtain ⟨t',rfl⟩:=ry;exact rule i j t t' s _ _ ⟨.int (g i j),H,I.tok _,⟨_,rfl⟩,q⟩
theorem kLU {f:ar->ar->Sem ar} {g:Int->Int->Bool}
  (rule:∀ (i j:Int) (t u:Tok) (s:ay) (Q:ar->ay->Prop) (E:ar->ay->Prop),Q (.bool (g i j)) s->eD (model X.prog X.w) X.A (f (.int i t) (.int j u)) Q E s) :
  OpR X f (rI0 λ i j=>.bl (g i j)):=by
 intro pins s σ H x y v u Q I rx ry h;obtain ⟨i,j,rfl,rfl,q⟩:=h;obtain ⟨t,rfl⟩:=rx;obtain ⟨t',rfl⟩:=ry;exact rule i j t t' s _ _ ⟨.bl (g i j),H,I,rfl,q⟩
def kPM (i j:Int):Prop:=0<j/\j<1073741824
def kPL (i j:Int):Prop:=0<=j/\j<=1000000/\i.natAbs<2 ^ 64
def CMul (i j:Int):Prop:=(-(2 ^ 64)<i/\i<2 ^ 64)\/(-(2 ^ 64)<j/\j<2 ^ 64)
theorem CMul.ok {i j:Int} (h:CMul i j):IntMulOk i j:=by
 rcases h with ⟨h1,h2⟩ | ⟨h1,h2⟩
 ·exact .of_left (intBits_le_64 h1 h2)
 ·exact .of_right (intBits_le_64 h1 h2)
theorem qO:OpR X (binaryOp .Add) (rI0 λ i j=>.int (i+j)):=kNR λ _ _ _ _ _ _ _ q=>add_int q
theorem jI:OpR X (binaryOp .Sub) (rI0 λ i j=>.int (i-j)):=kNR λ _ _ _ _ _ _ _ q=>sub_int q
theorem kAA:OpR X (binaryOp .Mult) (rI CMul λ i j=>.int (i*j)):=opI λ _ _ _ _ _ _ _ hc q=>mul_int q hc.ok
theorem kIZ:OpR X (binaryOp .FloorDiv) (rI kPM λ i j=>.int (i / j)):=opI λ i j _ _ _ _ _ hc q=>by
 have h1:(0:Int)<j:=hc.1;have h2:j<1073741824:=hc.2;exact floordiv_int (by omega) (by rw [AR i (by omega)];exact q) (.inl (PyProof.noPylong_small (by omega)))
theorem oP:OpR X (binaryOp .Mod) (rI (λ _ j=>0<j) λ i j=>.int (i % j)):=opI λ i j _ _ _ _ _ hc q=>by
 have h1:(0:Int)<j:=hc;exact mod_int' (by omega) (by rw [AU i (by omega)];exact q)
theorem kLT:OpR X (binaryOp .Pow) (rI kPL λ i j=>.int (i ^ j.toNat)):=opI λ _ _ _ _ _ _ _ hc q=>pow_int_small hc.1 hc.2.1 hc.2.2 q
theorem unI {f:ar->Sem ar} {g:Int->Int}
  (rule:∀ (i:Int) (t:Tok) (s:ay) (Q:ar->ay->Prop) (E:ar->ay->Prop),Q (.int (g i) s.toks) { s with toks:=s.toks+1 }->eD (model X.prog X.w) X.A (f (.int i t)) Q E s) :
  UnR X f (rU λ i=>.int (g i)):=by
 intro pins s σ H x v Q I rx h;obtain ⟨i,rfl,q⟩:=h;obtain ⟨t,rfl⟩:=rx;exact rule i t s _ _ ⟨.int (g i),H,I.tok _,⟨_,rfl⟩,q⟩
theorem yC:UnR X (unaryOp .USub) (rU λ i=>.int (-i)):=unI λ _ _ _ _ _ q=>neg_int q
end
def kNF:V->V->Bool
 | .non,.non=>true | .non,.int _=>true | .int _,.non=>true | .non,.bl _=>true | .bl _,.non=>true | .non,.str _=>true | .str _,.non=>true
 | .int _,.int _=>true | .bl _,.bl _=>true | .str _,.str _=>true | .byt _,.byt _=>true
 | .int _,.str _=>true | .str _,.int _=>true | .bl _,.str _=>true | .str _,.bl _=>true
 | _,_=>false
def rEq:R2:=λ x y H Q=>kNF x y=true/\Q (.bl (decide (x=y))) H
def rNe:R2:=λ x y H Q=>kNF x y=true/\Q (.bl (!decide (x=y))) H
theorem kBY {i j:Int}:decide (V.int i=V.int j)=(i == j):=by
 rw [gx];simp
theorem kHQ {i j:Bool}:decide (V.bl i=V.bl j)=(i == j):=by
 rw [gx];simp
theorem kBX {i j:Str}:decide (V.str i=V.str j)=(i == j):=by
 rw [gx];simp
theorem kBZ {i j:Array UInt8}:decide (V.byt i=V.byt j)=(i.toList == j.toList):=by
 rw [gx];cases i
 cases j
 simp
section
variable {X:Cx} {a b c:iJ} {ta tb tc:TE} {pos:Pos}
theorem qL {pins:List (av×Obj)} {σ:St} {H:Hp} {s:ay} {Q:VK} {k k':Bool} (I:Inv X pins σ H s) (q:Q (.bl k) H) (e:k=k'):EP X pins σ Q (.bool k') s:=by
 subst e;exact ⟨.bl k,H,I,rfl,q⟩
theorem gN:OpR X (compareOp .Eq) rEq:=by
 intro pins s σ H x y v u Q I rx ry h;obtain ⟨hs,q⟩:=h
 cases x with
 | non =>
  cases rx
  cases y with
  | non=>cases ry;exact EL (qL I q (by simp))
  | bl j=>cases ry;exact EM (qL I q (by simp))
  | int j=>obtain ⟨t',rfl⟩:=ry;exact Ec (qL I q (by simp))
  | str j=>obtain ⟨t',rfl⟩:=ry;exact Ed (qL I q (by simp))
  | _=>exact absurd (show false=true from hs) dq
 | bl i =>
  cases rx
  cases y with
  | non=>cases ry;exact EN (qL I q (by simp))
  | bl j=>cases ry;exact eq_bool (qL I q kHQ)
  | str j=>obtain ⟨t',rfl⟩:=ry;exact EO (qL I q (by simp))
  | _=>exact absurd (show false=true from hs) dq
 | int i =>
  obtain ⟨t,rfl⟩:=rx
  cases y with
  | non=>cases ry;exact Ee (qL I q (by simp))
  | int j=>obtain ⟨t',rfl⟩:=ry;exact eq_int (qL I q kBY)
  | str j=>obtain ⟨t',rfl⟩:=ry;exact Ef (qL I q (by simp))
  | _=>exact absurd (show false=true from hs) dq
 | str i =>
  obtain ⟨t,rfl⟩:=rx
  cases y with
  | non=>cases ry;exact Eg (qL I q (by simp))
  | bl j=>cases ry;exact ER (qL I q (by simp))
  | int j=>obtain ⟨t',rfl⟩:=ry;exact Eh (qL I q (by simp))
  | str j=>obtain ⟨t',rfl⟩:=ry;exact eq_str (qL I q kBX)
  | _=>exact absurd (show false=true from hs) dq
 | byt i =>
  obtain ⟨t,rfl⟩:=rx
  cases y with
  | byt j=>obtain ⟨t',rfl⟩:=ry;exact PySem.W.eq_bytes (qL I q kBZ)
  | _=>exact absurd (show false=true from hs) dq
 | _=>cases y<;>exact absurd (show false=true from hs) dq
theorem uX:OpR X (compareOp .NotEq) rNe:=by
 intro pins s σ H x y v u Q I rx ry h;obtain ⟨hs,q⟩:=h
 cases x with
 | non =>
  cases rx
  cases y with
  | non=>cases ry;exact ES (qL I q (by simp))
  | bl j=>cases ry;exact ET (qL I q (by simp))
  | int j=>obtain ⟨t',rfl⟩:=ry;exact Ei (qL I q (by simp))
  | str j=>obtain ⟨t',rfl⟩:=ry;exact Ej (qL I q (by simp))
  | _=>exact absurd (show false=true from hs) dq
 | bl i =>
  cases rx
  cases y with
  | non=>cases ry;exact EU (qL I q (by simp))
  | bl j=>cases ry;exact ne_bool (qL I q (congrArg not kHQ))
  | str j=>obtain ⟨t',rfl⟩:=ry;exact EV (qL I q (by simp))
  | _=>exact absurd (show false=true from hs) dq
 | int i =>
  obtain ⟨t,rfl⟩:=rx
  cases y with
  | non=>cases ry;exact Ek (qL I q (by simp))
  | int j=>obtain ⟨t',rfl⟩:=ry;exact ne_int (qL I q (congrArg not kBY))
  | str j=>obtain ⟨t',rfl⟩:=ry;exact El (qL I q (by simp))
  | _=>exact absurd (show false=true from hs) dq
 | str i =>
  obtain ⟨t,rfl⟩:=rx
  cases y with
  | non=>cases ry;exact Em (qL I q (by simp))
  | bl j=>cases ry;exact EW (qL I q (by simp))
  | int j=>obtain ⟨t',rfl⟩:=ry;exact Eo (qL I q (by simp))
  | str j=>obtain ⟨t',rfl⟩:=ry;exact ne_str (qL I q (congrArg not kBX))
  | _=>exact absurd (show false=true from hs) dq
 | byt i =>
  obtain ⟨t,rfl⟩:=rx
  cases y with
  | byt j=>obtain ⟨t',rfl⟩:=ry;exact PySem.W.ne_bytes (qL I q (congrArg not kBZ))
  | _=>exact absurd (show false=true from hs) dq
 | _=>cases y<;>exact absurd (show false=true from hs) dq
theorem kGF:OpR X (compareOp .Lt) (rI0 λ i j=>.bl (decide (i<j))):=kLU λ _ _ _ _ _ _ _ q=>lt_int q
theorem kNQ:OpR X (compareOp .LtE) (rI0 λ i j=>.bl (decide (i<=j))):=kLU λ _ _ _ _ _ _ _ q=>le_int q
theorem kKM:OpR X (compareOp .Gt) (rI0 λ i j=>.bl (decide (j<i))):=kLU λ _ _ _ _ _ _ _ q=>gt_int q
theorem kGG:OpR X (compareOp .Is) (λ x y H Q=>y=.non/\Q (.bl (decide (x=.non))) H):=by
 intro pins s σ H x y v u Q I rx ry h;obtain ⟨rfl,q⟩:=h;cases ry
 refine is_none_gen (qL I q ?_)
 cases x<;>first
  | (cases rx;rfl)
  | (obtain ⟨t,rfl⟩:=rx;rfl)
theorem kIY:OpR X (compareOp .IsNot) (λ x y H Q=>y=.non/\Q (.bl (!decide (x=.non))) H):=by
 intro pins s σ H x y v u Q I rx ry h;obtain ⟨rfl,q⟩:=h;cases ry
 refine isnot_none_gen (qL I q ?_)
 cases x<;>first
  | (cases rx;rfl)
  | (obtain ⟨t,rfl⟩:=rx;rfl)
theorem qK (b:iJ) {op:FR} (h:op≠.In:=by decide) (h2:op≠.NotIn:=by decide):behindInMarks op b=false:=by
 have e1:(op == CmpOp.In)=false:=by cases op<;>first | rfl | exact absurd rfl h
 have e2:(op == CmpOp.NotIn)=false:=by cases op<;>first | rfl | exact absurd rfl h2
 cases b<;>simp [behindInMarks,e1,e2]
theorem uM {op:FR} {r:R2} (ho:OpR X (compareOp op) r) (ha:PE X a ta) (hb:PE X b tb) (hm:behindInMarks op b=false):PE X (.Compare a [op] [b] pos) (tOp r ta tb):=by
 intro pins s σ H Q I h;exact wpAny_Compare1 (kMQ ha hb I h λ v u s2 x y H2 I2 rx ry q=>ho pins s2 σ H2 x y v u Q I2 rx ry q) hm
def kMX (t:TE):TT:=λ σ H Q=>t σ H λ x H'=>∃ k,x=.bl k/\Q k H'
theorem qD {op:FR} {r:R2} (ho:OpR X (compareOp op) r) (ha:PE X a ta) (hb:PE X b tb) (hm:behindInMarks op b=false):PT X (.Compare a [op] [b] pos) (kMX (tOp r ta tb)):=by
 intro pins s σ H Q I h
 refine Bf (thn (ha pins s σ H _ I h) λ v s1 ⟨x,H1,I1,r1,q1⟩=>thn (hb pins s1 σ H1 _ I1 q1) λ u s2 ⟨y,H2,I2,r2,q2⟩ =>
  thn (ho pins s2 σ H2 x y v u _ I2 r1 r2 q2) λ c s3 ⟨z,H3,I3,r3,k,e,q3⟩=>?_) hm
 subst e;cases r3
 exact me ⟨H3,I3,q3⟩
def kLC (r r':R2) (ta tb tc:TE):TE:=λ σ H Q=>ta σ H λ x H1=>tb σ H1 λ y H2=>r x y H2 λ z H3=>∃ k,z=.bl k /\
 (if k=true then tc σ H3 λ w' H4=>r' y w' H4 Q else Q (.bl false) H3)
theorem kGD {op op':FR} {r r':R2} (ho:OpR X (compareOp op) r) (ho':OpR X (compareOp op') r') (ha:PE X a ta) (hb:PE X b tb) (hc:PE X c tc)
  (hm:lastMarks [op,op'] [b,c]=false:=by with_unfolding_all rfl):PE X (.Compare a [op,op'] [b,c] pos) (kLC r r' ta tb tc):=by
 intro pins s σ H Q I h
 refine Compare_chain (thn (ha pins s σ H _ I h) λ v s1 ⟨x,H1,I1,r1,q1⟩=>chain_link (thn (hb pins s1 σ H1 _ I1 q1) λ u s2 ⟨y,H2,I2,r2,q2⟩ =>
  thn (ho pins s2 σ H2 x y v u _ I2 r1 r2 q2) λ d s3 ⟨z,H3,I3,r3,k,e,q3⟩=>?_)) hm
 subst e;cases r3
 refine me ?_
 cases k with
 | false=>exact ite_ff ⟨.bl false,H3,I3,rfl,q3⟩
 | true=>exact ite_tt (chain_last (thn (hc pins s3 σ H3 _ I3 q3) λ w' s4 ⟨z',H4,I4,r4,q4⟩=>ho' pins s4 σ H4 y z' u w' Q I4 r2 r4 q4))
def kOL (K:cf) (x:V) (H:Hp) (k:Bool):Prop :=
 match x with
 | .non=>k=false
 | .bl b=>k=b
 | .int i=>k=(i != 0)
 | .str y=>y.length<=sizeLine/\k=((y.length:Int) != 0)
 | .byt y=>y.size<=sizeLine/\k=((y.size:Int) != 0)
 | .ref p=>(∃ xs,SqL K H p xs/\k = !xs.isEmpty)\/(∃ xs,SqT K H p xs/\k = !xs.isEmpty)\/∃ kvs,H p=some (.dK kvs)/\k = !kvs.isEmpty
 | _=>False
theorem kAO {κ:Type} {kvs:List (κ×V)} {vs:List (κ×ar)} (r:KV kvs vs):(!vs.isEmpty) = !kvs.isEmpty:=by
 cases r<;>rfl
theorem hX {xs:List V} {its:List ar} (r:Vals xs its):(!its.toArray.isEmpty) = !xs.isEmpty:=by
 cases r<;>simp
theorem dC:(sizeLine:Nat)<2 ^ 63:=by rw [Ak];decide
theorem kKZ:kPJ X (λ x H Q=>∃ k,kOL X.K x H k/\Q k H):=by
 intro pins s σ H x v Q I rx h;obtain ⟨k,e,q⟩:=h;have hl:=dC;have hs:sizeLine=16777216:=Ak
 cases x with
 | non =>
  cases rx
  have e':k=false:=e;subst e';exact truthy_none ⟨H,I,q⟩
 | bl b =>
  cases rx
  have e':k=b:=e;subst e';exact me ⟨H,I,q⟩
 | int i =>
  obtain ⟨t,rfl⟩:=rx;have e':k=(i != 0):=e;subst e';exact PySem.P.truthy_int ⟨H,I,q⟩
 | str y =>
  obtain ⟨t,rfl⟩:=rx;obtain ⟨hy,e'⟩ : y.length<=sizeLine/\k=((y.length:Int) != 0):=e;subst e';exact PySem.P.truthy_str (by omega) ⟨H,I.tok _,q⟩
 | byt y =>
  obtain ⟨t,rfl⟩:=rx;obtain ⟨hy,e'⟩ : y.size<=sizeLine/\k=((y.size:Int) != 0):=e;subst e';exact PySem.W.truthy_bytes (by omega) ⟨H,I.tok _,q⟩
 | ref p =>
  cases rx
  have e':(∃ xs,SqL X.K H p xs/\k = !xs.isEmpty)\/(∃ xs,SqT X.K H p xs/\k = !xs.isEmpty)\/∃ kvs,H p=some (.dK kvs)/\k = !kvs.isEmpty:=e;rcases e' with ⟨xs,hx,e'⟩ | ⟨xs,hx,e'⟩ | ⟨kvs,hx,e'⟩
  ·subst e'
   obtain ⟨its,r,pl,hz⟩:=I.list hx;have hlen:=r.length;exact wpAny_truthy_list pl.isList (by simp only [eV];omega) ⟨H,I.tok _,by rw [hX r];exact q⟩
  ·subst e'
   obtain ⟨its,r,pl,hz⟩:=I.tuple hx;have hlen:=r.length;exact truthy_tuple pl (by simp only [eV];omega) ⟨H,I.tok _,by rw [hX r];exact q⟩
  ·subst e'
   obtain ⟨hz,hS,vs,r,m⟩ : kvs.length<=sizeLine/\(p == sysModules)=false/\∃ vs,KV kvs vs/\s.heap.DictOf (qX X.prog X.w) p vs:=I.hok p _ hx;have hlen:kvs.length=vs.length:=ve r;exact wpAny_truthy_dict hS m (by omega) ⟨H,I.tok _,by rw [kAO r];exact q⟩
 | _=>exact (show False from e).elim
theorem kFW (ha:PE X a ta) (he:∀ vO,isTrue a X.env vO=(do let v <-vO;standAt a.pos;holding [v] (truthy v))) :
  PT X a (λ σ H Q=>ta σ H λ x H'=>∃ k,kOL X.K x H' k/\Q k H'):=by
 intro pins s σ H Q I h;exact isTrue_plain (thn (ha pins s σ H _ I h) λ v s1 ⟨x,H1,I1,r1,q1⟩=>kKZ pins s1 σ H1 x v Q I1 r1 q1) (he _)
theorem vP {x:V} {us:List ar} (r:Vals [x] us):∃ u,us=[u]/\RelV x u:=by
 cases r with
 | cons r1 r2=>cases r2;exact ⟨_,rfl,r1⟩
theorem mD {x y:V} {us:List ar} (r:Vals [x,y] us):∃ u w',us=[u,w']/\RelV x u/\RelV y w':=by
 cases r with
 | cons r1 r2 =>
  cases r2 with
  | cons r3 r4=>cases r4;exact ⟨_,_,rfl,r1,r3⟩
theorem kHV:xH X (.builtin "abs") (λ xs H Q=>∃ i,xs=[.int i]/\Q (.int (if i<0 then -i else i)) H):=by
 intro pins s σ H xs us Q I r h;obtain ⟨i,rfl,q⟩:=h;obtain ⟨u,rfl,t,rfl⟩:=vP r;exact call_abs_int λ u tk=>⟨.int (if i<0 then -i else i),H,I.tok _,⟨_,rfl⟩,q⟩
theorem nF (hc:X.calm=true):xH X (.builtin "max") (λ xs H Q=>∃ i j,xs=[.int i,.int j]/\Q (.int (if j>i then j else i)) H):=by
 intro pins s σ H xs us Q I r h;obtain ⟨i,j,rfl,q⟩:=h;obtain ⟨u,w',rfl,⟨t,rfl⟩,⟨t',rfl⟩⟩:=mD r;refine max_two_ints (I.ok.hd hc) λ h' tk k=>⟨_,H,I.kept k,?_,q⟩;by_cases hj:j>i
 ·rw [if_pos hj,if_pos hj];exact ⟨_,rfl⟩
 ·rw [if_neg hj,if_neg hj];exact ⟨_,rfl⟩
theorem kEN (hc:X.calm=true):xH X (.builtin "min") (λ xs H Q=>∃ i j,xs=[.int i,.int j]/\Q (.int (if j<i then j else i)) H):=by
 intro pins s σ H xs us Q I r h;obtain ⟨i,j,rfl,q⟩:=h;obtain ⟨u,w',rfl,⟨t,rfl⟩,⟨t',rfl⟩⟩:=mD r;refine min_two_ints (I.ok.hd hc) λ h' tk k=>⟨_,H,I.kept k,?_,q⟩;by_cases hj:j<i
 ·rw [if_pos hj,if_pos hj];exact ⟨_,rfl⟩
 ·rw [if_neg hj,if_neg hj];exact ⟨_,rfl⟩
end
structure ObjM (h:gy) (x dx C:av) (mA:Str->Option ar):Prop where
 obj:h.get? x=some (BY C dx)
 ns:h.Ns1 dx mA
 ne:dx≠x
theorem kDO {h:gy} {dx:av} {mA:Str->Option ar} (n:h.Ns1 dx mA):∃ od,h.get? dx=some od/\∀ name,Bn name od=some (mA name):=by
 obtain ⟨o,es,ep,ho,hd,hk,_,hm⟩:=n;refine ⟨o,ho,λ name=>?_⟩;have e:=hm name;unfold nsFind findBy at e;rw [<-Array.find?_toList] at e;unfold Bn;rw [hd];dsimp only
 split
 ·rename_i y q
  rw [q] at e;exact congrArg some e
 ·rename_i q
  rw [q] at e
  have a:es.toList.any (·.refKey)=false:=by
   rw [List.any_eq_false];intro y hy;obtain ⟨z,t,hkey⟩:=hk y (se.mp hy);simp [DictEntry.refKey,hkey]
  have a':¬ es.toList.any (·.refKey)=true:=by rw [a];exact dq
  rw [if_neg a'];exact congrArg some e
theorem ObjM.look {h:gy} {x dx C:av} {mA:Str->Option ar} (I:ObjM h x dx C mA):∃ od,PySem.W.InstAt h x (BY C dx) C (some od)/\∀ name,Bn name od=some (mA name) :=
 let ⟨od,ho,hl⟩:=kDO I.ns
 ⟨od,⟨I.obj,rfl,rfl,ho⟩,hl⟩
section
variable {prog:eo} {w:iD} {A:fb} {E:ar->ay->Prop} {s:ay} {K:cf} {x dx C f:av} {mA:Str->Option ar} {name:Str} {v:ar}
end
section
variable {P:eo} {w:iD} {H H':Hp} {h h':gy} {a C dx:av} {fs fs':List (Str×V)}
theorem kJT (hok:HOk P w H h) (e:H a=some (.ins C dx fs)):∃ mA,ObjM h a dx C mA/\(∀ f,RelO (fs.lookup f) (mA f))/\FB mA (fs.map (·.1))/\fs.length<=1000/\H dx=some (.own a):=by
 obtain ⟨d,z,ne,ob,mA,n,r,q⟩:=(show ObjOk P w H h a (.ins C dx fs) from hok a _ e);exact ⟨mA,⟨ob,n,ne⟩,r,q,z,d⟩
end
structure Cls (K:cf) (C:av):Prop where
 pg:DE K C Str.empty=true
 hd:PySem.W.hasDictIn K C=true
 po:PySem.W.plainOver K C=true
 sa:Dr K (.ref C) "__setattr__" = some (some (.builtin "object.__setattr__"))
theorem Cls.get {K:cf} {C:av} (c:Cls K C) (f:Str):DE K C f=true:=c.pg
section
variable {X:Cx} {pins:List (av×Obj)} {σ:St} {H:Hp} {s:ay} {a C dx:av} {fs:List (Str×V)} {f:Str} {v:V} {A:fb} {E:ar->ay->Prop}
end
section
variable {X:Cx} {o e value:iJ} {f:Str} {pos pos' tpos:Pos} {ta tv:TE}
end
section
variable {X:Cx} {pins:List (av×Obj)} {σ:St} {H:Hp} {s:ay} {A:fb} {E:ar->ay->Prop} {Q:ar->ay->Prop} {c:ar} {b:Bool}
inductive TyOf (K:cf) (H:Hp):V->ar->Prop where
 | non:TyOf K H .non (.type "NoneType")
 | bl (x:Bool):TyOf K H (.bl x) (.type "bool")
 | int (i:Int):TyOf K H (.int i) (.type "int")
 | str (x:Str):TyOf K H (.str x) (.type "str")
 | flt (x:UInt64):TyOf K H (.flt x) (.type "float")
 | lst {a:av} {xs:List V} (e:H a=some (.lst xs)):TyOf K H (.ref a) (.type "list")
 | frz {a:av} {o:Obj} {xs:List V} (e:H a=some (.frz o (.lst xs))):TyOf K H (.ref a) (.type "list")
 | tup {a:av} {xs:List V} (e:H a=some (.tup xs)):TyOf K H (.ref a) (.type "tuple")
 | dK {a:av} {kvs:List (Key×V)} (e:H a=some (.dK kvs)):TyOf K H (.ref a) (.type "dict")
 | dT {a:av} {kvs:List (List Key×V)} (e:H a=some (.dT kvs)):TyOf K H (.ref a) (.type "dict")
 | ins {a C dx:av} {fs:List (Str×V)} (e:H a=some (.ins C dx fs)) (cl:Cls K C) (ha:Dr K (.ref C) "__class__" = some (some (.builtin "object.__class__")))
   (hn:PySem.W.specialIn K (.builtin "object.__class__") "__get__" = some (some (.builtin "getset_descriptor.__get__"))) (htk:PySem.W.takesIn K (.builtin "object.__class__")=some true)
   (hm:PySem.W.mroIn K C (.type "object")=some true):TyOf K H (.ref a) (.ref C)
theorem kDW {x:V} {u t:ar} (I:Inv X pins σ H s) (rx:RelV x u) (ty:TyOf X.K H x t) (e:Ds X.K t c=some b) (h:∀ tk,Q (.bool b) { s with toks:=tk }) :
  eD (model X.prog X.w) A (call (.builtin "isinstance") [u,c]) Q E s:=by
 cases ty with
 | non=>cases (show u=xw from rx);exact jx PySem.W.kitx_none I.kIn uu e (λ z=>nomatch z) h
 | bl y=>cases (show u=AN y from rx);exact jx PySem.W.kitx_bool I.kIn uu e (λ z=>nomatch z) h
 | int i=>obtain ⟨t,q⟩:=(show ∃ t,u=qz i t from rx);cases q;exact jx PySem.W.kitx_int I.kIn uu e (λ z=>nomatch z) h
 | str y=>obtain ⟨t,q⟩:=(show ∃ t,u=DB y t from rx);cases q;exact jx PySem.W.kitx_str I.kIn uu e (λ z=>nomatch z) h
 | flt y=>obtain ⟨t,q⟩:=(show ∃ t,u=FQ y t from rx);cases q;exact jx PySem.W.kitx_float I.kIn uu e (λ z=>nomatch z) h
 | @lst a xs ea =>
  cases (show u=ki a from rx)
  obtain ⟨_,_,n,_,h1⟩:=(show ObjOk X.prog X.w H s.heap a (.lst xs) from I.hok a _ ea);exact jx Ce I.kIn ⟨_,h1,rfl⟩ e (λ z=>nomatch z) h
 | @frz a ob xs ea =>
  cases (show u=ki a from rx)
  obtain ⟨_,_,_,n,_,h1⟩:=(show ObjOk X.prog X.w H s.heap a (.frz ob (.lst xs)) from I.hok a _ ea);exact jx Ce I.kIn ⟨_,h1,rfl⟩ e (λ z=>nomatch z) h
 | @tup a xs ea =>
  cases (show u=ki a from rx)
  obtain ⟨_,_,_,p⟩:=(show ObjOk X.prog X.w H s.heap a (.tup xs) from I.hok a _ ea);obtain ⟨o,h1,h2,_⟩:=p;exact jx PySem.W.kitx_tuple I.kIn ⟨o,h1,h2⟩ e (λ z=>nomatch z) h
 | @dK a kvs ea =>
  cases (show u=ki a from rx)
  obtain ⟨_,_,vs,_,p⟩:=(show ObjOk X.prog X.w H s.heap a (.dK kvs) from I.hok a _ ea);obtain ⟨o,es,ep,h1,h2,_⟩:=p;exact jx Cf I.kIn ⟨o,h1,h2.1⟩ e (λ z=>nomatch z) h
 | @dT a kvs ea =>
  cases (show u=ki a from rx)
  obtain ⟨_,_,xs,_,o,es,ep,h1,h2,_⟩:=(show ObjOk X.prog X.w H s.heap a (.dT kvs) from I.hok a _ ea);exact jx Cf I.kIn ⟨o,h1,h2.1⟩ e (λ z=>nomatch z) h
 | @ins a C dx fs ea cl ha hn htk hm =>
  cases (show u=ki a from rx)
  obtain ⟨mA,O,_⟩:=kJT I.hok ea;obtain ⟨od,J,_⟩:=O.look;exact jx (PySem.W.kitx_own (cl.get _) cl.hd ha hn htk hm) I.kIn J e (λ z=>nomatch z) h
end
structure Room (k:Nat) (A:fb):Prop where
 hd:A.handled=none
 dp:A.depth+3*k+5<recursionLimit
 un:A.units+16*k+200<cLine
 gd:A.guards=some []
theorem Room.mono {j k:Nat} {A:fb} (r:Room k A) (h:j<=k):Room j A:=⟨r.hd,by have:=r.dp;omega,by have:=r.un;omega,r.gd⟩
theorem Room.deeper {k:Nat} {A:fb} (r:Room (k+1) A) (env:Env):Room k (A.deeper env) :=
 ⟨r.hd,by have:=r.dp;show A.depth+1+3*k+5<_;omega,by have:=r.un;show A.units+3+16*k+200<_;omega,r.gd⟩
theorem Room.depth {k:Nat} {A:fb} (r:Room k A):A.depth<recursionLimit:=by have:=r.dp;omega
theorem Room.units {k:Nat} {A:fb} (r:Room k A):A.units+64<cLine:=by have:=r.un;omega
def kNB:TA:=λ _ H Q=>Q [] H
def kKI (ta:TE) (tr:TA):TA:=λ σ H Q=>ta σ H λ x H1=>tr σ H1 λ xs H2=>Q (x::xs) H2
section
variable {X:Cx} {e:iJ} {es:List iJ} {te:TE} {t:TA} {pos:Pos}
theorem kD:PA X [] kNB:=λ _ _ _ _ H Q I h=>Calls.spliced_nil ⟨[],H,I,.nil,h⟩
theorem kB (ha:PE X e te) (hr:PA X es t) (hs:starEach (e::es) X.env=(false,eval e X.env)::starEach es X.env:=by rfl):PA X (e::es) (kKI te t):=by
 intro pos pins s σ H Q I h;rw [hs];show eD _ _ (spliced ((false,eval e X.env)::backTo pos (starEach es X.env))) _ _ s;refine Calls.spliced_cons (thn (ha pins s σ H _ I h) λ u s1 ⟨x,H1,I1,r1,q1⟩=>?_);exact thn (hr pos pins s1 σ H1 _ I1 q1) λ us s2 ⟨xs,H2,I2,r2,q2⟩=>⟨x::xs,H2,I2,.cons r1 r2,q2⟩
def kON (t:TA):TE:=λ σ H Q=>t σ H λ xs H1=>xs.length<=sizeLine/\∀ p,H1 p=none->Q (.ref p) (upd H1 p (.tup xs))
def kOT (t:TA):TE:=λ σ H Q=>t σ H λ xs H1=>xs.length<=sizeLine/\∀ p,H1 p=none->Q (.ref p) (upd H1 p (.lst xs))
theorem jZ {x1} (h:PA X es t):PE X (.Tuple es x1 pos) (kON t):=by
 intro pins s σ H Q I hq;refine wpAny_Tuple_spliced (thn (h pos pins s σ H _ I hq) λ us s1 ⟨xs,H1,I1,r,z,q⟩=>⟨by rw [<-r.length];exact z,?_⟩);have hf:H1 s1.heap.objs.size=none:=I1.hok.fresh (bq _);refine ⟨.ref s1.heap.objs.size,upd H1 s1.heap.objs.size (.tup xs),I1.laid (t':=s1.toks) (λ b u e=>au _ e) (bq _) ?_,rfl,q _ hf⟩;exact ⟨z,us,r,⟨_,cn _ rfl,rfl,_,rfl,rfl⟩⟩
theorem jH (h:PA X es t):PE X (.List es pos) (kOT t):=by
 intro pins s σ H Q I hq;refine wpAny_List_spliced (thn (h pos pins s σ H _ I hq) λ us s1 ⟨xs,H1,I1,r,z,q⟩=>⟨by rw [<-r.length];exact z,?_⟩);have hf:H1 s1.heap.objs.size=none:=I1.hok.fresh (bq _);refine ⟨.ref s1.heap.objs.size,upd H1 s1.heap.objs.size (.lst xs),I1.laid (t':=s1.toks) (λ b u e=>au _ e) (bq _) ?_,rfl,q _ hf⟩;exact ⟨z,us,0,r,cn _ rfl⟩
end
abbrev Sp:=List V->Hp->VK->XK->Prop
abbrev CXT:=List Env->Hp->ay->XK->ar->ay->Prop
structure Env0 (P:eo) (w:iD) (K:cf) (mg:Str->Option ar) (base:gy) (A:fb) (outer:List Env) (s:ay) (H:Hp):Prop where
 frames:A.frames=some outer
 mod:Mod K mg base
 bs:∀ b o,base.get? b=some o->s.heap.get? b=some o/\H b=none
 bsz:base.objs.size<=s.heap.objs.size
 funs:s.heap.FunFrames base outer
 frf:∀ b∈frs outer,H b=none
 hok:HOk P w H s.heap
 bare:Ah s.gens
def CE (outer:List Env) (P:eo) (w:iD) (H:Hp) (s:ay) (Q:VK) (u:ar) (s':ay):Prop :=
 ∃ v H',s'.os=s.os/\Ah s'.gens/\Un (frs outer) [] H H' s.heap s'.heap/\HOk P w H' s'.heap/\RelV v u/\Q v H'
def CR (CX:CXT) (outer:List Env) (P:eo) (w:iD) (H:Hp) (s:ay) (Q:VK) (E:XK) (r:Result) (s':ay):Prop :=
 match r with
 | .ok (.ret u)=>CE outer P w H s Q u s'
 | .ok _=>False
 | .error e=>CX outer H s E e s'
structure FnOk (P:eo) (w:iD) (K:cf) (mg:Str->Option ar) (base:gy) (CX:CXT) (k:Nat) (f:av) (fd:ed) (ps:List Str) (sp:Sp):Prop where
 len:∀ vs H Q E,sp vs H Q E->vs.length=ps.length
 run:∀ (A:fb) (outer:List Env) (s:ay) (H:Hp) (args:Args) (us:List ar) (vs:List V) (Q:VK) (E:XK),Room k A->Env0 P w K mg base A outer s H->Cg s fd args (ps.zip us)->Vals vs us->sp vs H Q E ->
  codeAny (model P w) A (.call (.ref f) args) (CR CX outer P w H s Q E) s
section
variable {X:Cx} {pins:List (av×Obj)} {σ:St} {H:Hp} {s s':ay}
theorem Inv.env0 (I:Inv X pins σ H s):Env0 X.prog X.w X.K X.mg X.base X.A X.stack s H :=
 ⟨I.ok.frames,I.ok.mod,I.bs,iA I.ok.bsz I.sz,I.stack,I.stkFree,I.hok,I.bare⟩
theorem Inv.after {Q:VK} {u:ar} (I:Inv X pins σ H s) (h:CE X.stack X.prog X.w H s Q u s'):EP X pins σ Q u s':=by
 obtain ⟨v,H',os,bare,un,hok,r,q⟩:=h;obtain ⟨hh,g,d,t,os'⟩:=s';obtain rfl:os'=s.os:=os;exact ⟨v,H',I.call (h':=hh) (g':=g) (d':=d) (t':=t) (ch:=[]) un hok bare (λ b z=>absurd z (by simp)),r,q⟩
end
def kKJ (sp:Sp) (dvs:List V) (E:XK) (t:TA):TE:=λ σ H Q=>t σ H λ vs H1=>sp (vs++dvs) H1 Q E
def Binds (K:cf) (fd:ed) (ps:List Str) (ds:List ar):Prop :=
 ∀ (s:ay) (us:List ar),K.In s.heap->(us++ds).length=ps.length->Cg s fd ⟨us,[]⟩ (ps.zip (us++ds))
theorem Binds.all {K:cf} {fd:ed} {ps:List Str} (h:∀ us:List ar,us.length=ps.length->bindArgs fd ⟨us,[]⟩=pure (ps.zip us)):Binds K fd ps []:=λ s us _ hl=>by
 rw [iN] at hl ⊢;exact .of_eq (h us hl)
def kAY (CX:CXT) (X:Cx) (E:XK):Prop:=∀ (pins:List (av×Obj)) (σ:St) (H:Hp) (s:ay) (e:ar) (s':ay),Inv X pins σ H s->CX X.stack H s E e s'->X.xe e s'
section
variable {X:Cx} {CX:CXT} {k:Nat} {f C:av} {fd:ed} {ps:List Str} {sp:Sp} {dvs:List V} {ds:List ar} {E:XK} {x m:Str} {p pos apos:Pos} {e o:iJ} {es:List iJ} {ta:TE} {t:TA}
theorem kLF {pins:List (av×Obj)} {σ:St} {H:Hp} {s:ay} {Q:VK} {us:List ar} {vs:List V} (F:FnOk X.prog X.w X.K X.mg X.base CX k f fd ps sp) (hr:Room k X.A) (hb:Binds X.K fd ps ds) (hd:Vals dvs ds) (hx:kAY CX X E)
  (I:Inv X pins σ H s) (r:Vals vs us) (h:sp (vs++dvs) H Q E):eD (model X.prog X.w) X.A (call (.ref f) us) (EP X pins σ Q) X.xe s:=by
 have r2:Vals (vs++dvs) (us++ds):=r.append hd;have hl:(us++ds).length=ps.length:=by rw [<-r2.length];exact F.len _ _ _ _ h
 refine wpAny_call (AI (F.run X.A X.stack s H ⟨us,[]⟩ (us++ds) (vs++dvs) Q E hr I.env0 (hb s us I.kIn hl) r2 h) λ r s' hq=>?_)
 cases r with
 | error e=>exact hx pins σ H s e s' I hq
 | ok fl =>
  cases fl with
  | ret u=>exact I.after hq
  | next=>exact ur hq
  | brk=>exact ur hq
  | cont=>exact ur hq
theorem kIW (F:FnOk X.prog X.w X.K X.mg X.base CX k f fd ps sp) (hr:Room k X.A) (hg:Gl X x) (hm:X.mg x=some (.ref f)) (hk:dg X.K (.ref f)=true) (hb:Binds X.K fd ps ds) (hd:Vals dvs ds) (hx:kAY CX X E)
  (ha:PA X (e::es) t) (hdb:(x == ("__debug__" : Str))=false:=by decide) (he:starEach (e::es) X.env=(false,eval e X.env)::starEach es X.env:=by rfl) (hpl:(backTo pos (starEach es X.env)).any (·.1)=false:=by rfl) :
  PE X (.Call (.Name x p) (e::es) [] pos) (kKJ sp dvs E t):=by
 intro pins s σ H Q I h;refine AV (kJL I hg hm ?_ hdb);refine PySem.W.callWith_K (h₀:=X.base) I.ok.mod.kin hk (thn (ha pos pins s σ H _ I h) λ us s1 ⟨vs,H1,I1,r,q⟩=>⟨I1.kIn,?_⟩) he hpl;exact kLF F hr hb hd hx I1 r q
end
section
variable {X:Cx} {CX:CXT} {k:Nat} {f C:av} {fd:ed} {ps ks:List Str} {sp:Sp} {E:XK} {x m:Str} {p pos apos kpos:Pos} {e o:iJ} {es:List iJ} {kws:List Keyword} {te ta:TE} {t tk:TA} {nm:Option Str}
variable {g:List ar->List ar->List ar} {gV:List V->List V->List V}
end
structure FnScope (N P:List Str) (sc:qa):Prop where
 kind:sc.kind=.function
 co:sc.isCoroutine=false
 gen:sc.isGenerator=false
 nd:N.Nodup
 pre:N.take P.length=P
 par:∀ x∈P,sc.names.lookup x=some .local\/sc.names.lookup x=some .cell
 nofree:∀ y∈sc.names,y.2≠.free
theorem nI {kindOf:Str->Option kl} {x:Str}:∀ {binds:List (Str×ar)} {m:Str->Option ar},(∀ v,(x,v)∉binds)->bindL kindOf binds m x=m x
 | [],_,_=>rfl
 | (n,v)::r,m,h=>by
  unfold bindL;rw [nI λ w hw=>h w (dj _ hw)]
  split
  ·have:x≠n:=by rintro rfl;exact h v eQ
   simp [this]
  ·rfl
theorem nK {kindOf:Str->Option kl} {x:Str}:∀ {binds:List (Str×ar)} {m:Str->Option ar},(∀ v,(x,v)∉binds)->bindC kindOf binds m x=m x
 | [],_,_=>rfl
 | (n,v)::r,m,h=>by
  unfold bindC;rw [nK λ w hw=>h w (dj _ hw)]
  split
  ·rfl
  ·have:x≠n:=by rintro rfl;exact h v eQ
   simp [this]
theorem nJ {kindOf:Str->Option kl} {x:Str} {v:ar}:∀ {P:List Str} {vs:List ar} {i:Nat} {m:Str->Option ar},P.Nodup->P[i]?=some x->vs[i]?=some v->kindOf x=some .local ->
  bindL kindOf (P.zip vs) m x=some v
 | [],_,_,_,_,h,_,_=>by simp at h
 | _::_,[],_,_,_,_,h,_=>by simp at h
 | p::P,w::vs,0,m,nd,h1,h2,hk=>by
  simp at h1 h2;subst h1;subst h2;show bindL kindOf ((p,w)::P.zip vs) m p=_;unfold bindL;rw [nI λ v hv=>(fc.mp nd).1 (AW hv).1,if_pos hk];simp
 | p::P,w::vs,i+1,m,nd,h1,h2,hk=>by
  show bindL kindOf ((p,w)::P.zip vs) m x=_;unfold bindL;exact nJ (i:=i) (fc.mp nd).2 (by simpa using h1) (by simpa using h2) hk
theorem nL {kindOf:Str->Option kl} {x:Str} {v:ar}:∀ {P:List Str} {vs:List ar} {i:Nat} {m:Str->Option ar},P.Nodup->P[i]?=some x->vs[i]?=some v->kindOf x≠some .local ->
  bindC kindOf (P.zip vs) m x=some v
 | [],_,_,_,_,h,_,_=>by simp at h
 | _::_,[],_,_,_,_,h,_=>by simp at h
 | p::P,w::vs,0,m,nd,h1,h2,hk=>by
  simp at h1 h2;subst h1;subst h2;show bindC kindOf ((p,w)::P.zip vs) m p=_;unfold bindC;rw [nK λ v hv=>(fc.mp nd).1 (AW hv).1,if_neg hk];simp
 | p::P,w::vs,i+1,m,nd,h1,h2,hk=>by
  show bindC kindOf ((p,w)::P.zip vs) m x=_;unfold bindC;exact nL (i:=i) (fc.mp nd).2 (by simpa using h1) (by simpa using h2) hk
def start (N:List Str) (vs:List V):St:=vs.map some++fh (N.length-vs.length) none
def kEI (CX:CXT) (P:eo) (w:iD) (K:cf) (mg:Str->Option ar) (base:gy) (N:List Str) (qual:Str) (scope:qa) (f:av) (cd:ar) (A:fb) (outer:List Env) (s:ay) (H:Hp) (E:XK):Cx where
 prog:=P
 w:=w
 K:=K
 mg:=mg
 base:=base
 A:=A.deeper (envOfC qual scope s.heap.objs.size f cd)
 N:=N
 s₀:=s
 H₀:=H
 env:=envOfC qual scope s.heap.objs.size f cd
 outer:=outer
 stack:=envOfC qual scope s.heap.objs.size f cd::outer
 ex:=[]
 calm:=true
 fn:=λ _=>true
 pn:=[]
 xe:=λ e s'=>eD (model P w) (A.deeper (envOfC qual scope s.heap.objs.size f cd)) (leaving (envOfC qual scope s.heap.objs.size f cd) e) (λ _ s''=>CX outer H s E e s'') (λ e' s''=>CX outer H s E e' s'') s'
theorem sR {sc:qa} {n:Nat} {x:Str} (h:sc.names.lookup x=some .cell):∃ c,(cellsFrom n sc.names []).lookup x=some c:=by
 have q:=BM sc.names n [] (.inl h);exact Av.mp q
theorem kDX {CX:CXT} {P:eo} {w:iD} {K:cf} {mg:Str->Option ar} {base:gy} {N ps:List Str} {qual:Str} {scope:qa} {f:av} {cd:ar} {A:fb} {outer:List Env} {s s1:ay} {H:Hp} {E:XK} {us:List ar} {vs:List V}
  (S:FnScope N ps scope) (hd:A.handled=none) (e0:Env0 P w K mg base A outer s H) (hl:vs.length=ps.length) (r:Vals vs us)
  (x:InCallC s s.heap.objs.size (bindL (envOfC qual scope s.heap.objs.size f cd).kindOf (ps.zip us) λ _=>none) (cellsFrom (s.heap.objs.size+1) scope.names []) (bindC (envOfC qual scope s.heap.objs.size f cd).kindOf (ps.zip us) λ _=>none) s1) :
  Inv (kEI CX P w K mg base N qual scope f cd A outer s H E) [] (start N vs) H s1:=by
 have hpl:ps.length<=N.length:=by have:=congrArg fz S.pre;rw [eK] at this;omega
 obtain ⟨h1,tk,rfl,hk⟩:=x.done;have noA:∀ b:av,b∉(kEI CX P w K mg base N qual scope f cd A outer s H E).ex:=λ b z=>absurd (show b∈([]:List av) from z) (by simp)
 refine ⟨⟨e0.mod,S.kind,rfl,rfl,bq _,λ y z c h1 h2=>?_,λ y hy=>?_,λ y c _ h=>?_,λ _=>hd,Around.frames_deeper e0.frames,.inr ⟨rfl,rfl⟩,λ b z=>absurd z (noA b),e0.bs,e0.bsz,λ b _ _=>noA b,λ b z=>absurd z (noA b),e0.funs,e0.frf⟩,
  rfl,e0.bare,Un.kept hk,⟨_,x.toInCall.ns,λ i y v h1 h2 h3=>?_⟩,λ y c h=>⟨_,x.cell y c h⟩,e0.hok.fresh (bq _),λ y c h=>?_,λ p hp=>absurd (show p∈([]:List (av×Obj)) from hp) (by simp),e0.hok.kept hk,?_⟩
 ·exact name_of_addr x.apart (iQ h1) (iQ h2)
 ·have hy:scope.names.lookup y=some .cell\/scope.names.lookup y=some .free:=hy
  rcases hy with hy | hy
  ·exact sR hy
  ·exact absurd rfl (S.nofree _ (iQ hy))
 ·exact jj (x.above y c (iQ h))
 ·have hi:i<vs.length:=by
   unfold start at h2;by_cases hi:i<vs.length
   ·exact hi
   ·rw [bb (by simpa using hi)] at h2
    rw [List.getElem?_replicate] at h2
    split at h2<;>cases h2
  have ha:vs[i]?=some v:=by
   unfold start at h2;rw [bg (by simpa using hi),bh] at h2
   cases e:vs[i]? with
   | none=>rw [e] at h2;cases h2
   | some a=>rw [e] at h2;cases h2;rfl
  obtain ⟨u,hu,rv⟩:=r.get ha
  have hp:ps[i]?=some y:=by
   rw [<-S.pre,oh (by omega)];exact h1
  have ndP:ps.Nodup:=by rw [<-S.pre];exact S.nd.sublist (Ci _ _)
  refine ⟨u,rv,?_⟩;rcases S.par y (eg hp) with k | k
  ·exact .inl ⟨k,nJ ndP hp hu k⟩
  ·obtain ⟨c,e⟩:=sR (n:=s.heap.objs.size+1) k
   refine .inr ⟨.inl k,c,e,?_⟩;have q:=x.cell y c e;rw [nL ndP hp hu (by show scope.names.lookup y≠_;rw [k];decide)] at q;exact q
 ·exact e0.hok.fresh (jj (x.above y c (iQ h)))
 ·unfold start
  show _=N.length;rw [cg,ao,vg];omega
theorem kNZ {CX:CXT} {P:eo} {w:iD} {K:cf} {mg:Str->Option ar} {base:gy} {k:Nat} {f:av} {name qual:Str} {params:Arguments} {body:List nj} {scope:qa} {dV kV doc pm cdv ct oc:ar} {an od:Option av}
  {osl:Array (Option ar)} {N ps:List Str} {sp:Sp} (lk:K.lookup f=some ⟨oc,od,.func (dn name qual params body scope dV kV doc pm an cdv ct),osl⟩) (hcd:dh K cdv qual=true) (S:FnScope N ps scope)
  (len:∀ vs H Q E,sp vs H Q E->vs.length=ps.length)
  (hbody:∀ (A:fb) (outer:List Env) (s:ay) (H:Hp) (vs:List V) (Q:VK) (E:XK),Room k (A.deeper (envOfC qual scope s.heap.objs.size f cdv))->sp vs H Q E ->
   ∃ t,PSs (kEI CX P w K mg base N qual scope f cdv A outer s H E) body t/\t { nx:=λ _ H'=>Q .non H',rt:=Q } (start N vs) H) :
  FnOk P w K mg base CX (k+1) f (dn name qual params body scope dV kV doc pm an cdv ct) ps sp:=by
 refine ⟨len,λ A outer s H args us vs Q E hr e0 hb r hsp=>?_⟩;have hl:=len _ _ _ _ hsp;have KX:K.In s.heap:=e0.mod.kin.keeps λ b o e=>(e0.bs b o e).1;have lim:s.heap.NoLimit:=e0.mod.nolimit.keeps λ b o e=>(e0.bs b o e).1
 have hkind:∀ y∈ps.zip us,scope.names.lookup y.1=some .local\/(scope.names.lookup y.1=some .cell/\((cellsFrom (s.heap.objs.size+1) scope.names []).lookup y.1).isSome=true):=λ ⟨n,v⟩ hy=>by
  rcases S.par n (AW hy).1 with q | q
  ·exact .inl q
  ·exact .inr ⟨q,BM _ _ _ (.inl q)⟩
 refine codeAny_call_function hr.depth (KX _ _ lk) rfl S.co S.gen rfl (PySem.W.codeRec_of KX hcd) (hb _ _ _ _ ?_);refine wpAny_newFunctionEnv_cells S.kind hkind λ env he s1 x=>?_;subst he;refine ⟨lim.keeps x.toInCall.keep,codeAny_func ?_⟩;obtain ⟨t,ht,hq⟩:=hbody A outer s H vs Q E (hr.deeper _) hsp;have I:Inv (kEI CX P w K mg base N qual scope f cdv A outer s H E) [] (start N vs) H s1:=kDX S hr.hd e0 hl r x;refine xy (ht [] s1 (start N vs) H _ I hq) (λ fl s' hs=>?_) λ e s' hs=>hs
 have fin:∀ {σ':St} {H':Hp} {v:V} {u:ar},Inv (kEI CX P w K mg base N qual scope f cdv A outer s H E) [] σ' H' s'->RelV v u->Q v H'->CE outer P w H s Q u s' :=
  λ {σ' H' v u} J rv q=>⟨v,H',J.os,J.bare,J.base,J.hok,rv,q⟩
 cases fl with
 | ret u =>
  obtain ⟨v,σ',H',J,rv,q⟩:=hs;exact fin J rv q
 | next =>
  obtain ⟨σ',H',J,q⟩:=hs;exact fin (v:=V.non) (u:=xw) J rfl q
 | brk =>
  obtain ⟨_,_,_,q⟩:=hs;exact ur q
 | cont =>
  obtain ⟨_,_,_,q⟩:=hs;exact ur q
section
variable {X:Cx} {x:Str} {p pos:Pos} {e:iJ} {es:List iJ} {t:TA} {id T:String} {r:List V->Hp->VK->Prop}
def tCB (r:List V->Hp->VK->Prop) (t:TA):TE:=λ σ H Q=>t σ H λ vs H1=>r vs H1 Q
theorem kN (hc:xH X (.builtin id) r) (hg:Gl X x) (hm:X.mg x=none) (hv:bootBuiltins x=some (.builtin id)) (ha:PA X (e::es) t) (hn:x≠"__name__":=by decide) (hdb:(x == ("__debug__" : Str))=false:=by decide)
  (he:starEach (e::es) X.env=(false,eval e X.env)::starEach es X.env:=by rfl) (hpl:(backTo pos (starEach es X.env)).any (·.1)=false:=by rfl):PE X (.Call (.Name x p) (e::es) [] pos) (tCB r t):=by
 intro pins s σ H Q I h;refine AV (vH I hg hm hv ?_ hn hdb);exact DF (thn (ha pos pins s σ H _ I h) λ us s1 ⟨vs,H1,I1,r1,q1⟩=>hc pins s1 σ H1 vs us Q I1 r1 q1) he hpl
theorem qV (hc:xH X (.type T) r) (hg:Gl X x) (hm:X.mg x=none) (hv:bootBuiltins x=some (.type T)) (ha:PA X (e::es) t) (hn:x≠"__name__":=by decide) (hdb:(x == ("__debug__" : Str))=false:=by decide)
  (he:starEach (e::es) X.env=(false,eval e X.env)::starEach es X.env:=by rfl) (hpl:(backTo pos (starEach es X.env)).any (·.1)=false:=by rfl):PE X (.Call (.Name x p) (e::es) [] pos) (tCB r t):=by
 intro pins s σ H Q I h;refine AV (vH I hg hm hv ?_ hn hdb);exact ie (thn (ha pos pins s σ H _ I h) λ us s1 ⟨vs,H1,I1,r1,q1⟩=>hc pins s1 σ H1 vs us Q I1 r1 q1) he hpl
end
end L2
namespace HT
open PySem PyProof.Rows
section
open PySem.SeqAt
open PySem.AutoSeq1 (wpAny_loadPart')
open PySem.MeetsSeq PySem.MeetsSeq2 PySem.MeetsSeq3
end
section
variable {prog:eo} {w:iD} {A:fb} {E:ar->ay->Prop} {s:ay}
theorem cat_tup {t b:av} {vs ws:List ar} {Q:ar->ay->Prop} (ht:Dm s.heap t vs.toArray) (hb:Dm s.heap b ws.toArray) (hv:vs≠[])
  (h1:ws=[]->Q (.ref t) s) (h2:ws≠[]->Q (.ref s.heap.objs.size) { s with heap:=s.heap.push { cls:=.type "tuple",data:=.seq (vs++ws).toArray } })
  (hsz:vs.length+ws.length<=sizeLine):eD (model prog w) A (binaryOp .Add (.ref t) (.ref b)) Q E s:=by
 obtain ⟨⟨cls,dd,data,sl⟩,ho,hc,n,hd⟩:=id ht;obtain ⟨⟨cls2,dd2,data2,sl2⟩,ho2,hc2,n2,hd2⟩:=id hb;simp only at hc hd hc2 hd2;subst hc hd hc2 hd2;have e:vs.toArray++ws.toArray=(vs++ws).toArray:=by simp
 by_cases hw:ws=[]
 ·exact Cj ⟨_,ho,rfl⟩ ⟨_,ho2,rfl⟩ BE CC ye yb (wz _ _)
   (tuple_addW1 t b vs.toArray ws.toArray n n2 dd dd2 sl sl2 (by simpa using hv) (by simp [hw])) ⟨ho,ho2,h1 hw⟩
 ·refine Cj ⟨_,ho,rfl⟩ ⟨_,ho2,rfl⟩ BE CC ye yb (wz _ _)
   (tuple_addW2 t b vs.toArray ws.toArray n n2 dd dd2 sl sl2 (by simpa using hv) (by simpa using hw) (by rw [eV,eV];exact hsz)) ⟨ho,ho2,?_⟩
  rw [e];exact h2 hw
def sIx (n d:Nat):Option Int->Nat
 | none=>d
 | some v=>if v<0 then (v+(n:Int)).toNat else min v.toNat n
theorem sIx_none (n d:Nat):sIx n d none=d:=rfl
theorem sIx_nat (n d k:Nat):sIx n d (some (k:Int))=min k n:=by
 show (if (k:Int)<0 then ((k:Int)+(n:Int)).toNat else min (k:Int).toNat n)=min k n;rw [if_neg (by omega),mh]
theorem kLE (n d:Nat) (hd:d<=n) (o:Option Int):sIx n d o<=n:=by
 cases o with
 | none=>exact hd
 | some v =>
  show (if v<0 then (v+(n:Int)).toNat else min v.toNat n)<=n;by_cases hv:v<0
  ·rw [if_pos hv];omega
  ·rw [if_neg hv];exact Nat.min_le_right _ _
theorem kCA (v:Int) (n d:Nat):(if v<0 then max (v+(n:Int)) 0 else min v (n:Int))=((sIx n d (some v):Nat):Int):=by
 show (if v<0 then max (v+(n:Int)) 0 else min v (n:Int))=(((if v<0 then (v+(n:Int)).toNat else min v.toNat n):Nat):Int);by_cases hv:v<0
 ·simp only [if_pos hv];omega
 ·simp only [if_neg hv];omega
theorem kAX (lo hi:Option Int) (n:Nat):wt lo hi 1 (n:Int)=(((sIx n 0 lo:Nat):Int),((sIx n n hi:Nat):Int)):=by
 have h1:¬ ((1:Int)<0):=by omega
 unfold wt;simp only [h1,if_false];refine qk ?_ ?_
 ·cases lo with
  | none=>rfl
  | some v=>exact kCA v n 0
 ·cases hi with
  | none=>rfl
  | some v=>exact kCA v n n
theorem tU (i j:Nat):qx (i:Int) (j:Int) 1=j-i:=by
 unfold qx;have h1:(1:Int)>0:=by omega
 simp only [h1,if_true,FD]
 split<;>omega
theorem gF {v:ar} {o:Option Int} {Q:Option Int->ay->Prop} (p:BN v o) (h:Q o s):eD (model prog w) A (Da v) Q E s:=by
 cases p with
 | none=>exact Du h
 | int i t=>exact slicePart_int h
theorem sliceApplied_gen {sl:av} {vl vu:ar} {lo hi:Option Int} {n:Nat} {Q:Int×Int×Nat->ay->Prop} (hs:s.heap.IsSliceOf sl vl vu .none) (pl:BN vl lo) (pu:BN vu hi)
  (h:Q (((sIx n 0 lo:Nat):Int),1,sIx n n hi-sIx n 0 lo) s):eD (model prog w) A (AX (.ref sl) (pure (n:Int))) Q E s:=by
 obtain ⟨os,hos,hcs,hds⟩:=id hs;unfold AX EY;refine ae (ae (kg hos hds (x:=vl) rfl (ae (kg hos hds (x:=vu) rfl (ae (kg hos hds (x:=.none) rfl (bx ?_)))))));refine ae (Du ?_);show eD _ _ (if ((1:Int) == 0)=true then _ else _) _ _ s;rw [if_neg (by decide)];refine ae (gF pl (ae (gF pu (ae (bx ?_)))));show eD _ _ (match wt lo hi 1 (n:Int) with | (lo,hi)=>pure (lo,(1:Int),qx lo hi 1)) _ _ s
 rw [kAX lo hi n];show eD _ _ (pure (((sIx n 0 lo:Nat):Int),(1:Int),qx ((sIx n 0 lo:Nat):Int) ((sIx n n hi:Nat):Int) 1)) _ _ s;rw [tU];exact bx h
theorem kFY (xs:Array ar) (i k:Nat):((cu k).filterMap λ (m:Nat)=>xs[((i:Int)+(m:Int)*1).toNat]?).toArray=((xs.toList.drop i).take k).toArray:=by
 have e:(λ (m:Nat)=>xs[((i:Int)+(m:Int)*1).toNat]?)=λ m=>xs[i+m]?:=by
  funext m
  have:((i:Int)+(m:Int)*1).toNat=i+m:=by omega
  rw [this]
 rw [e];have:=pick_run xs i k;rw [AY] at this;have e2:((λ x=>xs[x]?)∘λ x=>i+x)=λ m=>xs[i+m]?:=rfl;rw [e2] at this;rw [this]
theorem getItem_tuple_cut {t sl:av} {items:Array ar} {vl vu:ar} {lo hi:Option Int} {Q:ar->ay->Prop} (ht:Dm s.heap t items) (hs:s.heap.IsSliceOf sl vl vu .none) (pl:BN vl lo) (pu:BN vu hi)
  (hw:¬ (sIx items.size 0 lo=0/\sIx items.size items.size hi=items.size))
  (h:Q (.ref s.heap.objs.size) { s with heap:=s.heap.push { cls:=.type "tuple",data:=.seq ((items.toList.drop (sIx items.size 0 lo)).take (sIx items.size items.size hi-sIx items.size 0 lo)).toArray } })
  (hsz:items.size<=sizeLine):eD (model prog w) A (getItem (.ref t) (.ref sl)) Q E s:=by
 have htake:sizeOk (.seq ((items.toList.drop (sIx items.size 0 lo)).take (sIx items.size items.size hi-sIx items.size 0 lo)).toArray):=by
  show ((items.toList.drop (sIx items.size 0 lo)).take (sIx items.size items.size hi-sIx items.size 0 lo)).toArray.size<=sizeLine;rw [eV,eK,iP,fm];omega
 have hj:sIx items.size items.size hi<=items.size:=kLE _ _ (bq _) hi;obtain ⟨os,hos,hcs,hds⟩:=id hs;have hTs:s.TypeIs (.ref sl) "slice":=⟨os,hos,hcs⟩;unfold getItem
 try with_reducible refine jw ?_
 first | refine ae (bx ?_) | skip
 refine ae (Ck ht.typeIs (by decide) ?_)
 refine ae (lu (name:=yf "__getitem__") ht.typeIs ik
  (qh ik ht.typeIs Bx ?_ (CJ _ _)))
 show eD _ _ (AZ (.ref t) >>= _) _ _ s;refine ae (tupleItemsOf_ ht ?_);refine ae (yg hTs ?_);rw [if_pos (by decide)];refine ae (sliceApplied_gen hs pl pu ?_)
 have hno:¬ ((((sIx items.size 0 lo:Nat):Int) == 0 && (1:Int) == 1 && (sIx items.size items.size hi-sIx items.size 0 lo) == items.size)=true):=by
  intro q;rw [eZ,eZ] at q;have q1:((sIx items.size 0 lo:Nat):Int)=0:=eq_of_beq q.1.1;have q2:sIx items.size items.size hi-sIx items.size 0 lo=items.size:=eq_of_beq q.2;exact hw ⟨by omega,by omega⟩
 show eD _ _ (if (((sIx items.size 0 lo:Nat):Int) == 0 && (1:Int) == 1 && (sIx items.size items.size hi-sIx items.size 0 lo) == items.size)=true then _ else _) _ _ s;rw [if_neg hno,kFY]
 first
  | exact ae (m:=uc _) (iX (bx ⟨_,rfl,bx h⟩) htake)
  | exact ae (m:=uc _) (iX (ae (bx (bx ⟨_,rfl,bx h⟩))) htake)
  | exact ae (ae (m:=uc _) (iX (bx (bx ⟨_,rfl,bx h⟩)) htake))
  | exact ae (ae (m:=uc _) (iX (bx ⟨_,rfl,bx h⟩) htake))
end
end HT
namespace L2
open PySem PySem.Spec PyProof.Rows
abbrev TO:=St->Hp->(Option Int->Hp->Prop)->Prop
def PO (X:Cx) (e:Option iJ) (t:TO):Prop :=
 ∀ (pins:List (av×Obj)) (s:ay) (σ:St) (H:Hp) (Q:Option Int->Hp->Prop),Inv X pins σ H s->t σ H Q ->
  eD (model X.prog X.w) X.A (evalPart e X.env) (λ u s'=>∃ o H',Inv X pins σ H' s'/\BN u o/\Q o H') X.xe s
def kIE:TO:=λ _ H Q=>Q none H
def kMZ (t:TE):TO:=λ σ H Q=>t σ H λ x H1=>∃ i,x=.int i/\Q (some i) H1
section
variable {X:Cx} {e:iJ} {te:TE} {lo hi:Option iJ} {tl th:TO} {pos p2:Pos}
theorem jF:PO X none kIE:=by
 intro pins s σ H Q I h;rw [CD];exact bx ⟨none,H,I,.none,h⟩
theorem qI (h:PE X e te):PO X (some e) (kMZ te):=by
 intro pins s σ H Q I hw;rw [evalPart_some];refine thn (h pins s σ H _ I hw) λ u s1 ⟨x,H1,I1,r1,q1⟩=>?_;obtain ⟨i,rfl,q⟩:=q1;obtain ⟨t,rfl⟩:=r1;exact ⟨some i,H1,I1,.int i t,q⟩
def SlR (X:Cx) (r:V->Option Int->Option Int->Hp->VK->Prop):Prop :=
 ∀ (pins:List (av×Obj)) (s:ay) (σ:St) (H:Hp) (x:V) (v vl vu:ar) (lo hi:Option Int) (sl:av) (Q:VK),Inv X pins σ H s->RelV x v->s.heap.IsSliceOf sl vl vu .none->BN vl lo->BN vu hi->r x lo hi H Q ->
  ∃ T id,typeLookup (.type T) "__getitem__" = pure (some (.builtin id))/\s.TypeIs v T/\eD (model X.prog X.w) X.A (getItem v (.ref sl)) (EP X pins σ Q) X.xe s
theorem SlR.or {r r':V->Option Int->Option Int->Hp->VK->Prop} (h:SlR X r) (h':SlR X r'):SlR X (λ x lo hi H Q=>r x lo hi H Q\/r' x lo hi H Q):=by
 intro pins s σ H x v vl vu lo hi sl Q I rx hs pl pu q;rcases q with q | q
 ·exact h pins s σ H x v vl vu lo hi sl Q I rx hs pl pu q
 ·exact h' pins s σ H x v vl vu lo hi sl Q I rx hs pl pu q
def tSl (r:V->Option Int->Option Int->Hp->VK->Prop) (te:TE) (tl th:TO):TE:=λ σ H Q=>te σ H λ x H1=>tl σ H1 λ l H2=>th σ H2 λ u H3=>r x l u H3 Q
theorem qJ {r:V->Option Int->Option Int->Hp->VK->Prop} (hr:SlR X r) (he:PE X e te) (hl:PO X lo tl) (hu:PO X hi th):PE X (.Subscript e (.Slice lo hi none p2) pos) (tSl r te tl th):=by
 intro pins s σ H Q I h;refine Dv (thn (he pins s σ H _ I h) λ v s1 ⟨x,H1,I1,r1,q1⟩=>?_);refine wpAny_Slice (thn (hl pins s1 σ H1 _ I1 q1) λ vl s2 ⟨l,H2,I2,pl,q2⟩=>thn (hu pins s2 σ H2 _ I2 q2) λ vu s3 ⟨u,H3,I3,pu,q3⟩=>?_);rw [CD];refine bx ?_;have I4:Inv X pins σ H3 { s3 with heap:=s3.heap.push { cls:=.type "slice",data:=.fields #[vl,vu,.none] } }:=I3.kept (t':=s3.toks) λ b ob q=>au _ q
 obtain ⟨T,id,hT,ht,hg⟩:=hr pins { s3 with heap:=s3.heap.push { cls:=.type "slice",data:=.fields #[vl,vu,.none] } } σ H3 x v vl vu l u s3.heap.objs.size Q I4 r1 (CK ..) pl pu q3
 show eD (model X.prog X.w) X.A (subscriptTail e (.Slice lo hi none p2) v (.ref s3.heap.objs.size)) (EP X pins σ Q) X.xe { s3 with heap:=s3.heap.push { cls:=.type "slice",data:=.fields #[vl,vu,.none] } }
 exact tail_any (ops:=[.ref s3.heap.objs.size,v]) ht hT hg (by with_unfolding_all rfl)
def jO (xs:List V) (lo hi:Option Int):List V:=(xs.drop (HT.sIx xs.length 0 lo)).take (HT.sIx xs.length xs.length hi-HT.sIx xs.length 0 lo)
theorem dW (xs:List V) (lo hi:Option Int):(jO xs lo hi).length<=xs.length:=by
 unfold jO;rw [eK,iP];omega
def kNJ (K:cf):V->Option Int->Option Int->Hp->VK->Prop:=λ x lo hi H Q=>∃ a xs,x=.ref a/\SqT K H a xs /\
 ¬ (HT.sIx xs.length 0 lo=0/\HT.sIx xs.length xs.length hi=xs.length)/\∀ p,H p=none->Q (.ref p) (upd H p (.tup (jO xs lo hi)))
theorem sl_tup:SlR X (kNJ X.K):=by
 intro pins s σ H x v vl vu lo hi sl Q I rx hs pl pu h;obtain ⟨a,xs,rfl,hx,hw,q⟩:=h;cases rx
 obtain ⟨its,r,ht,hz⟩:=I.tuple hx;have hlen:its.toArray.size=xs.length:=by rw [eV];exact r.length.symm
 refine ⟨"tuple",_,ik.lookup,ht.typeIs,?_⟩;refine HT.getItem_tuple_cut ht hs pl pu (by rw [hlen];exact hw) ?_ (by rw [hlen];exact hz);rw [hlen];refine ⟨.ref s.heap.objs.size,_,I.laid (t':=s.toks) (o:=.tup (jO xs lo hi)) (λ b ob q=>au _ q) (bq _) ?_,rfl,q _ (I.hok.fresh (bq _))⟩;exact ⟨iA (dW xs lo hi) hz,_,(r.drop (HT.sIx xs.length 0 lo)).take (HT.sIx xs.length xs.length hi-HT.sIx xs.length 0 lo),IsTupN.new _ _⟩
def kNO (K:cf):R2:=λ x y H Q=>∃ a b xs ys,x=.ref a/\y=.ref b/\SqT K H a xs/\SqT K H b ys/\xs≠[]/\xs.length+ys.length<=sizeLine /\
 (ys=[]->Q (.ref a) H)/\(ys≠[]->∀ p,H p=none->Q (.ref p) (upd H p (.tup (xs++ys))))
theorem Vals.nil_iff {xs:List V} {us:List ar} (r:Vals xs us):us=[]↔xs=[]:=by
 cases r with
 | nil=>simp
 | cons _ _=>simp
theorem kBI:OpR X (binaryOp .Add) (kNO X.K):=by
 intro pins s σ H x y v u Q I rx ry h;obtain ⟨a,b,xs,ys,rfl,rfl,ha,hb,hx,hz,q1,q2⟩:=h;cases rx
 cases ry
 obtain ⟨its,r1,p1,_⟩:=I.tuple ha;obtain ⟨its2,r2,p2,_⟩:=I.tuple hb;refine HT.cat_tup p1 p2 (λ z=>hx (r1.nil_iff.mp z)) (λ z=>⟨.ref a,H,I,rfl,q1 (r2.nil_iff.mp z)⟩) (λ z=>?_) (by rw [<-r1.length,<-r2.length];exact hz);refine ⟨.ref s.heap.objs.size,_,I.laid (t':=s.toks) (o:=.tup (xs++ys)) (λ b ob q=>au _ q) (bq _) ?_,rfl,q2 (λ w=>z (r2.nil_iff.mpr w)) _ (I.hok.fresh (bq _))⟩;exact ⟨by rw [cg];exact hz,_,r1.append r2,IsTupN.new _ _⟩
end
def ixN (n:Nat) (i:Int):Option Nat:=if 0<=i then (if i<n then some i.toNat else none) else if -(n:Int)<=i then some (i+n).toNat else none
def atI {α:Type} (xs:List α) (i:Int):Option α:=(ixN xs.length i).bind λ j=>xs[j]?
theorem kBQ {n:Nat} {i:Int} {j:Nat} (h:ixN n i=some j):seqIndex? i n=some j/\j<n/\-(n:Int)<=i/\i<n:=by
 unfold ixN at h;by_cases h0:0<=i
 ·rw [if_pos h0] at h
  by_cases h1:i<n
  ·rw [if_pos h1] at h
   have e:i.toNat=j:=bj h;exact ⟨by rw [DW h0 h1,e],by omega,by omega,h1⟩
  ·rw [if_neg h1] at h;cases h
 ·rw [if_neg h0] at h
  by_cases h1 : -(n:Int)<=i
  ·rw [if_pos h1] at h
   have e:(i+n).toNat=j:=bj h;exact ⟨by rw [Cm (by omega) h1,e],by omega,h1,by omega⟩
  ·rw [if_neg h1] at h;cases h
theorem kCE {α:Type} {xs:List α} {i:Int} {v:α} (h:atI xs i=some v):∃ j,seqIndex? i xs.length=some j/\xs[j]?=some v/\j<xs.length/\-(xs.length:Int)<=i/\i<xs.length:=by
 unfold atI at h
 cases e:ixN xs.length i with
 | none=>rw [e] at h;cases h
 | some j =>
  rw [e] at h;obtain ⟨h1,h2,h3,h4⟩:=kBQ e;exact ⟨j,h1,h,h2,h3,h4⟩
theorem qE {α:Type} {xs:List α} {j:Nat} {v:α} (h:xs[j]?=some v):atI xs (j:Int)=some v:=by
 have hj:j<xs.length:=(aq.mp h).1
 have e:ixN xs.length (j:Int)=some j:=by
  unfold ixN;rw [if_pos (by omega),if_pos (by omega)];simp
 unfold atI;rw [e];exact h
theorem xG {α:Type} (xs:List α) (v:α):atI (xs++[v]) (-1)=some v:=by
 have hl:(xs++[v]).length=xs.length+1:=by simp
 have e:ixN (xs++[v]).length (-1)=some xs.length:=by
  unfold ixN;rw [hl,if_neg (by decide),if_pos (by omega)]
  congr 1
  omega
 unfold atI;rw [e];show (xs++[v])[xs.length]?=some v;simp
def kKG (b:iJ):Prop:=∀ o i,subscripted b false o i=operate [o,i] (getItem o i)
def IxR (X:Cx) (r:R2):Prop :=
 ∀ (value slice:iJ) (pins:List (av×Obj)) (s:ay) (σ:St) (H:Hp) (x y:V) (v u:ar) (Q:VK),Inv X pins σ H s->RelV x v->RelV y u->r x y H Q ->
  subscripted slice false v u=operate [v,u] (getItem v u)->eD (model X.prog X.w) X.A (subscriptTail value slice v u) (EP X pins σ Q) X.xe s
def MtR (X:Cx) (id:String) (r:V->List V->Hp->VK->Prop):Prop :=
 ∀ (pins:List (av×Obj)) (s:ay) (σ:St) (H:Hp) (x:V) (xs:List V) (v:ar) (us:List ar) (Q:VK),Inv X pins σ H s->RelV x v->Vals xs us->r x xs H Q ->
  eD (model X.prog X.w) X.A (call (.builtin id) (v::us)) (EP X pins σ Q) X.xe s
section
variable {X:Cx} {a b:iJ} {ta tb:TE} {pos:Pos}
theorem kU {r:R2} (hr:IxR X r) (ha:PE X a ta) (hb:PE X b tb) (hs:kKG b):PE X (.Subscript a b pos) (tOp r ta tb):=by
 intro pins s σ H Q I h;exact Dv (kMQ ha hb I h λ v u s2 x y H2 I2 rx ry q=>hr a b pins s2 σ H2 x y v u Q I2 rx ry q (hs _ _))
def kLJ (K:cf):R2:=λ x y H Q=>∃ p xs i v,x=.ref p/\y=.int i/\SqL K H p xs/\atI xs i=some v/\Q v H
def kFV (K:cf):R2:=λ x y H Q=>∃ p xs i v,x=.ref p/\y=.int i/\SqT K H p xs/\atI xs i=some v/\Q v H
theorem kZ:IxR X (kLJ X.K):=by
 intro value slice pins s σ H x y v u Q I rx ry h hs;obtain ⟨p,xs,i,z,rfl,rfl,hq,he,q⟩:=h;cases rx
 obtain ⟨t,rfl⟩:=ry;obtain ⟨its,r,pl,hz⟩:=I.list hq;obtain ⟨j,h1,h2,h3,h4,h5⟩:=kCE he;obtain ⟨w,ew,rw'⟩:=r.get h2;have hl:=r.length;have hn:=dC;have fin:EP X pins σ Q w s:=⟨z,H,I,rw',q⟩;by_cases h0:0<=i
 ·have hj:i.toNat=j:=by
   rw [DW h0 h5] at h1;exact bj h1
  exact item_listR pl.isList h0 (by omega) (by rw [hj];simpa using ew) fin hs
 ·have hj:(i+(its.toArray.size:Int)).toNat=j:=by
   rw [Cm (by omega) h4] at h1;rw [eV,<-hl];exact bj h1
  exact BO (x:=w) pl.isList.typeIs Al.lookup
   (wpAny_getItem_list_neg (Q:=λ r s'=>r=w/\EP X pins σ Q r s') pl.isList (by omega) (by rw [eV]<;>omega) (by omega) (by rw [hj];simpa using ew) ⟨rfl,fin⟩) hs
theorem qH:IxR X (kFV X.K):=by
 intro value slice pins s σ H x y v u Q I rx ry h hs;obtain ⟨p,xs,i,z,rfl,rfl,hq,he,q⟩:=h;cases rx
 obtain ⟨t,rfl⟩:=ry;obtain ⟨its,r,pl,hz⟩:=I.tuple hq;obtain ⟨j,h1,h2,h3,h4,h5⟩:=kCE he;obtain ⟨w,ew,rw'⟩:=r.get h2;have hl:=r.length;have hn:=dC;have fin:EP X pins σ Q w s:=⟨z,H,I,rw',q⟩
 exact BO (x:=w) pl.typeIs slot_tuple_getitem.lookup
  (getItem_tuple (j:=j) (Q:=λ r s'=>r=w/\EP X pins σ Q r s') pl (by omega) (by omega) (by rw [eV,<-hl];exact h1) (by simpa using ew) ⟨rfl,fin⟩) hs
theorem kAJ (its:List ar) (n j:Nat) (u:ar):ud (·.setIfInBounds j u) { cls:=.type "list",data:=.seq its.toArray n }={ cls:=.type "list",data:=.seq (its.set j u).toArray n }:=by
 simp [ud]
theorem Inv.lst {pins:List (av×Obj)} {σ:St} {H:Hp} {s:ay} {p:av} {xs:List V} (I:Inv X pins σ H s) (h:H p=some (.lst xs)) :
  ∃ (its:List ar) (n:Nat),Vals xs its/\s.heap.get? p=some { cls:=.type "list",data:=.seq its.toArray n }/\xs.length<=sizeLine:=by
 obtain ⟨z,its,n,r,e⟩:=I.hok p _ h;exact ⟨its,n,r,e,z⟩
theorem Inv.lstUpd {pins:List (av×Obj)} {σ:St} {H:Hp} {s:ay} {p:av} {xs ys:List V} {its its':List ar} {n n':Nat} {f:Obj->Obj} (I:Inv X pins σ H s) (h:H p=some (.lst xs))
  (ho:s.heap.get? p=some { cls:=.type "list",data:=.seq its.toArray n }) (hf:f { cls:=.type "list",data:=.seq its.toArray n }={ cls:=.type "list",data:=.seq its'.toArray n' }) (r:Vals ys its') (hz:ys.length<=sizeLine) (t:Nat) :
  Inv X pins σ (upd H p (.lst ys)) { s with heap:=s.heap.update p f,toks:=t }:=by
 have e:(s.heap.update p f).get? p=some { cls:=.type "list",data:=.seq its'.toArray n' }:=by
  rw [qu f ho (by rw [hf]<;>rfl),hf]
 refine I.write (x:=p) (e:=p) (by rw [h];trivial) (.inl rfl) (λ b u hb q=>(BP _ _ (uq hb)).trans q) ⟨_,e⟩ ?_;exact ⟨hz,its',n',r,e⟩
def kNL:V->V->V->Hp->(Hp->Prop)->Prop:=λ o i v H Q=>∃ p xs k j,o=.ref p/\i=.int k/\H p=some (.lst xs)/\ixN xs.length k=some j/\Q (upd H p (.lst (xs.set j v)))
theorem gG:kOM X kNL:=by
 intro pins s σ H o i v ov iv u Q I ro ri rv h;obtain ⟨p,xs,k,j,rfl,rfl,hp,hj,q⟩:=h;cases ro
 obtain ⟨t,rfl⟩:=ri;obtain ⟨its,n,r,ho,hz⟩:=I.lst hp;obtain ⟨h1,h2,h3,h4⟩:=kBQ hj;have hl:=r.length;have hn:=dC
 have I':Inv X pins σ (upd H p (.lst (xs.set j v))) { s with heap:=s.heap.update p (ud (·.setIfInBounds j u)) } :=
  I.lstUpd hp ho (kAJ its n j u) (r.set rv j) (by rw [ya];exact hz) s.toks
 by_cases h0:0<=k
 ·have hk:k.toNat=j:=by
   rw [DW h0 h4] at h1;exact bj h1
  exact PySem.W.ki_setAt ho h0 (by omega) (by rw [eV,<-hl];exact h4) (by rw [hk];exact ⟨_,I',q⟩)
 ·have hk:(k+(its.toArray.size:Int)).toNat=j:=by
   rw [Cm (by omega) h3] at h1;rw [eV,<-hl];exact bj h1
  exact PySem.W.ki_setBack ho (by omega) (by rw [eV,<-hl];exact h3) (by omega) (by rw [hk];exact ⟨_,I',q⟩)
theorem oB (lo hi:Option Int) (n:Nat):(sliceBounds lo hi none n).1=((HT.sIx n 0 lo:Nat):Int)/\(sliceBounds lo hi none n).2.1=((HT.sIx n n hi:Nat):Int)/\(sliceBounds lo hi none n).2.2=1:=by
 refine ⟨?_,?_,rfl⟩
 ·cases lo with
  | none=>simp [sliceBounds,HT.sIx]
  | some i =>
   simp only [sliceBounds,HT.sIx,DG,show (1:Int)>0 by decide,if_true];by_cases h:i<0
   ·simp only [h,if_true]<;>omega
   ·simp only [h,if_false]<;>omega
 ·cases hi with
  | none=>simp [sliceBounds,HT.sIx]
  | some i =>
   simp only [sliceBounds,HT.sIx,DG,show (1:Int)>0 by decide,if_true];by_cases h:i<0
   ·simp only [h,if_true]<;>omega
   ·simp only [h,if_false]<;>omega
theorem lV (its:List ar) (lo hi:Option Int):slicePick its.toArray lo hi none=((its.drop (HT.sIx its.length 0 lo)).take (HT.sIx its.length its.length hi-HT.sIx its.length 0 lo)).toArray:=by
 obtain ⟨h1,h2,h3⟩:=oB lo hi its.toArray.size;unfold slicePick;rw [h1,h2,h3];simp only [sliceRange_one,pick_run,eV]<;>rfl
def kOZ (K:cf):V->Option Int->Option Int->Hp->VK->Prop:=λ x lo hi H Q=>∃ a xs,x=.ref a/\SqL K H a xs/\∀ p,H p=none->Q (.ref p) (upd H p (.lst (jO xs lo hi)))
theorem jQ:SlR X (kOZ X.K):=by
 intro pins s σ H x v vl vu lo hi sl Q I rx hs pl pu h;obtain ⟨a,xs,rfl,hx,q⟩:=h;cases rx
 obtain ⟨its,r,ht,hz⟩:=I.list hx;have hlen:=r.length;refine ⟨"list",_,Al.lookup,ht.isList.typeIs,?_⟩;refine Aw ht.isList hs pl pu .none (by simp) ?_ (by rw [eV]<;>omega);rw [lV,<-hlen];refine ⟨.ref s.heap.objs.size,_,I.laid (t':=s.toks) (o:=.lst (jO xs lo hi)) (λ b ob q=>au _ q) (bq _) ?_,rfl,q _ (I.hok.fresh (bq _))⟩;exact ⟨iA (dW xs lo hi) hz,_,0,(r.drop (HT.sIx xs.length 0 lo)).take (HT.sIx xs.length xs.length hi-HT.sIx xs.length 0 lo),cn _ rfl⟩
def bY:V->Bool
 | .non=>true
 | .bl _=>true
 | .int _=>true
 | .str _=>true
 | _=>false
def eqV:V->V->Bool
 | .non,.non=>true
 | .bl a,.bl b=>a == b
 | .bl a,.int b=>(if a then 1 else 0) == b
 | .int a,.bl b=>a == (if b then 1 else 0)
 | .int a,.int b=>a == b
 | .str a,.str b=>a == b
 | _,_=>false
theorem kMO {A:fb} {s:ay} {y x:V} {u v:ar} (ry:RelV y u) (rx:RelV x v) (fy:bY y=true) (fx:bY x=true):Dw A s u v (eqV y x):=by
 cases y with
 | non =>
  cases ry
  cases x with
  | non=>cases rx;exact SeqAt.EqAt.same _
  | bl b=>cases rx;exact SeqAt.EqAt.none_bool b
  | int b=>obtain ⟨t,rfl⟩:=rx;exact SeqAt.EqAt.none_int b t
  | str b=>obtain ⟨t,rfl⟩:=rx;exact SeqAt.EqAt.none_str b t
  | _=>exact absurd (show false=true from fx) dq
 | bl a =>
  cases ry
  cases x with
  | non=>cases rx;exact SeqAt.EqAt.bool_none a
  | bl b=>cases rx;exact SeqAt.EqAt.bool_bool a b
  | int b=>obtain ⟨t,rfl⟩:=rx;exact SeqAt.EqAt.bool_int a b t
  | str b=>obtain ⟨t,rfl⟩:=rx;exact SeqAt.EqAt.bool_str a b t
  | _=>exact absurd (show false=true from fx) dq
 | int a =>
  obtain ⟨t',rfl⟩:=ry
  cases x with
  | non=>cases rx;exact SeqAt.EqAt.int_none a t'
  | bl b=>cases rx;exact SeqAt.EqAt.int_bool a t' b
  | int b=>obtain ⟨t,rfl⟩:=rx;exact SeqAt.EqAt.int_int a t' b t
  | str b=>obtain ⟨t,rfl⟩:=rx;exact CG a t' b t
  | _=>exact absurd (show false=true from fx) dq
 | str a =>
  obtain ⟨t',rfl⟩:=ry
  cases x with
  | non=>cases rx;exact SeqAt.EqAt.str_none a t'
  | bl b=>cases rx;exact SeqAt.EqAt.str_bool a t' b
  | int b=>obtain ⟨t,rfl⟩:=rx;exact CH a t' b t
  | str b=>obtain ⟨t,rfl⟩:=rx;exact SeqAt.EqAt.str_str a t' b t
  | _=>exact absurd (show false=true from fx) dq
 | _=>exact absurd (show false=true from fy) dq
def eqU (x:V) (u:ar):Bool:=match u with
 | .none=>eqV .non x
 | .bool b=>eqV (.bl b) x
 | .int i _=>eqV (.int i) x
 | .str z _=>eqV (.str z) x
 | _=>false
theorem kHL {x y:V} {u:ar} (r:RelV y u) (f:bY y=true):eqU x u=eqV y x:=by
 cases y with
 | non=>cases r;rfl
 | bl b=>cases r;rfl
 | int i=>obtain ⟨t,rfl⟩:=r;rfl
 | str z=>obtain ⟨t,rfl⟩:=r;rfl
 | _=>exact absurd (show false=true from f) dq
theorem cG {x:V}:∀ {xs:List V} {us:List ar},Vals xs us->xs.all bY=true->us.any (eqU x)=xs.any λ y=>eqV y x
 | _,_,.nil,_=>rfl
 | y::xs,u::us,.cons r t,f=>by
  rw [Ep,eZ] at f;rw [ze,ze,kHL r f.1,cG t f.2]
theorem uB {A:fb} {s:ay} {x:V} {v:ar} (rx:RelV x v) (fx:bY x=true):∀ {xs:List V} {us:List ar},Vals xs us->xs.all bY=true->∀ u∈us,Dw A s u v (eqU x u)
 | _,_,.nil,_=>λ u hu=>by cases hu
 | y::xs,u::us,.cons r t,f=>λ u' hu=>by
  rw [Ep,eZ] at f;rcases du.mp hu with rfl | hu
  ·rw [kHL r f.1];exact kMO r rx f.1 fx
  ·exact uB rx fx t f.2 u' hu
def inV (x:V) (xs:List V):Bool:=xs.any λ y=>eqV y x
def rIn (K:cf) (neg:Bool):R2:=λ x y H Q=>∃ p xs,y=.ref p/\(SqL K H p xs\/SqT K H p xs)/\bY x=true/\xs.all bY=true/\Q (.bl (if neg then !inV x xs else inV x xs)) H
theorem wV:OpR X (compareOp .In) (rIn X.K false):=by
 intro pins s σ H x y v u Q I rx ry h;obtain ⟨p,xs,rfl,hq,fx,fs,q⟩:=h;cases ry
 rcases hq with hq | hq
 ·obtain ⟨its,r,pl,hz⟩:=I.list hq
  refine SeqAt.in_listAt (eqU x) pl.isList (λ w hw=>uB rx fx r fs w (by simpa using hw)) ⟨.bl _,H,I,rfl,?_⟩;rw [show its.toArray.any (eqU x)=its.any (eqU x) by simp,cG r fs];exact q
 ·obtain ⟨its,r,pl,hz⟩:=I.tuple hq
  refine SeqAt.in_tupleAt (eqU x) pl (λ w hw=>uB rx fx r fs w (by simpa using hw)) ⟨.bl _,H,I,rfl,?_⟩;rw [show its.toArray.any (eqU x)=its.any (eqU x) by simp,cG r fs];exact q
theorem bJ:OpR X (compareOp .NotIn) (rIn X.K true):=by
 intro pins s σ H x y v u Q I rx ry h;obtain ⟨p,xs,rfl,hq,fx,fs,q⟩:=h;cases ry
 rcases hq with hq | hq
 ·obtain ⟨its,r,pl,hz⟩:=I.list hq
  refine SeqAt.notIn_listAt (eqU x) pl.isList (λ w hw=>uB rx fx r fs w (by simpa using hw)) ⟨.bl _,H,I,rfl,?_⟩;rw [show its.toArray.any (eqU x)=its.any (eqU x) by simp,cG r fs];exact q
 ·obtain ⟨its,r,pl,hz⟩:=I.tuple hq
  refine SeqAt.notIn_tupleAt (eqU x) pl (λ w hw=>uB rx fx r fs w (by simpa using hw)) ⟨.bl _,H,I,rfl,?_⟩;rw [show its.toArray.any (eqU x)=its.any (eqU x) by simp,cG r fs];exact q
theorem kM:xH X (.builtin "len") (λ xs H Q=>∃ p ys,xs=[.ref p]/\(SqL X.K H p ys\/SqT X.K H p ys)/\Q (.int ys.length) H):=by
 intro pins s σ H xs us Q I r h;obtain ⟨p,ys,rfl,hq,q⟩:=h;obtain ⟨u,rfl,rx⟩:=vP r;cases rx
 have hn:=dC;rcases hq with hq | hq
 ·obtain ⟨its,r',pl,hz⟩:=I.list hq
  have hlen:=r'.length;exact Calls.call_len_list pl.isList (by simp only [eV]<;>omega) ⟨.int ys.length,H,I.tok _,⟨s.toks+1,by rw [eV,hlen]⟩,q⟩
 ·obtain ⟨its,r',pl,hz⟩:=I.tuple hq
  have hlen:=r'.length;exact len_tuple pl (by simp only [eV]<;>omega) ⟨.int ys.length,H,I.tok _,⟨s.toks+1,by rw [eV,hlen]⟩,q⟩
theorem cE:xH X (.type "list") (λ xs H Q=>∃ p ys,xs=[.ref p]/\(SqL X.K H p ys\/SqT X.K H p ys)/\∀ l,H l=none->Q (.ref l) (upd H l (.lst ys))):=by
 intro pins s σ H xs us Q I r h;obtain ⟨p,ys,rfl,hq,q⟩:=h;obtain ⟨u,rfl,rx⟩:=vP r;cases rx
 have fin:∀ (its:List ar),Vals ys its->ys.length<=sizeLine->∀ (h':gy) (c':Nat),(∀ b o',s.heap.get? b=some o'->h'.get? b=some o') ->
   h'.get? s.heap.objs.size=some { cls:=.type "list",dict:=none,data:=.seq its.toArray c',slots:=#[] }->EP X pins σ Q (.ref s.heap.objs.size) { s with heap:=h' }:=λ its r' hz h' c' kp e =>
  ⟨.ref s.heap.objs.size,_,I.laid (t':=s.toks) kp (bq _) (show ObjOk X.prog X.w _ h' _ (.lst ys) from ⟨hz,its,c',r',e⟩),rfl,q _ (I.hok.fresh (bq _))⟩
 rcases hq with hq | hq
 ·obtain ⟨its,r',pl,hz⟩:=I.list hq
  have hlen:=r'.length;obtain ⟨o,ho,hc,n,hd⟩:=pl.isList;exact call_list_seq p (.inl rfl) ho hc hd (λ h' c' kp e=>fin its r' hz h' c' kp e) (by simp only [eV]<;>omega)
 ·obtain ⟨its,r',pl,hz⟩:=I.tuple hq
  have hlen:=r'.length;obtain ⟨o,ho,hc,n,hd⟩:=pl;exact call_list_seq p (.inr rfl) ho hc hd (λ h' c' kp e=>fin its r' hz h' c' kp e) (by simp only [eV]<;>omega)
theorem qM:xH X (.type "tuple") (λ xs H Q=>∃ p ys,xs=[.ref p]/\((SqL X.K H p ys/\∀ l,H l=none->Q (.ref l) (upd H l (.tup ys)))\/(SqT X.K H p ys/\Q (.ref p) H))):=by
 intro pins s σ H xs us Q I r h;obtain ⟨p,ys,rfl,h⟩:=h;obtain ⟨u,rfl,rx⟩:=vP r;cases rx
 rcases h with ⟨hq,q⟩ | ⟨hq,q⟩
 ·obtain ⟨its,r',pl,hz⟩:=I.list hq
  have hlen:=r'.length;refine call_tuple_list pl.isList (λ h' kp=>?_) (by simp only [eV]<;>omega);have I1:Inv X pins σ H { s with heap:=h' }:=I.kept (t':=s.toks) kp
  have I2:Inv X pins σ (upd H h'.objs.size (.tup ys)) { s with heap:=h'.push { cls:=.type "tuple",data:=.seq its.toArray } } :=
   I1.laid (t':=s.toks) (λ b o e=>au _ e) (bq _) (show ObjOk X.prog X.w _ _ _ (.tup ys) from ⟨hz,its,r',IsTupN.new _ _⟩)
  exact ⟨.ref h'.objs.size,_,I2,rfl,q _ (I1.hok.fresh (bq _))⟩
 ·obtain ⟨its,r',pl,hz⟩:=I.tuple hq
  exact call_tuple_same pl ⟨.ref p,H,I,rfl,q⟩
def tyV (K:cf) (T:String) (x:V) (H:Hp):Prop:=match x with
 | .str _=>T = "str"
 | .int _=>T = "int"
 | .ref p=>(T = "list"/\∃ xs,SqL K H p xs)\/(T = "tuple"/\((∃ o,K.lookup p=some o/\o.cls=.type "tuple"/\o.dict=none)\/∃ xs,H p=some (.tup xs))) \/
   (T = "dict"/\((∃ kvs,H p=some (.dK kvs))\/∃ kvs,H p=some (.dT kvs)))\/(T = "set"/\∃ S n,H p=some (.set S n))
 | _=>False
theorem kKY {pins:List (av×Obj)} {σ:St} {H:Hp} {s:ay} {T:String} {x:V} {v:ar} (I:Inv X pins σ H s) (r:RelV x v) (ty:tyV X.K T x H) :
  s.TypeIs v T/\∀ a,v=.ref a->∃ ob,s.heap.get? a=some ob/\ob.dict=none:=by
 cases x with
 | str z =>
  obtain ⟨t,rfl⟩:=r
  cases (show T = "str" from ty)
  exact ⟨typeIs_str s z t,λ _ e=>nomatch e⟩
 | int i =>
  obtain ⟨t,rfl⟩:=r
  cases (show T = "int" from ty)
  exact ⟨Dx s i t,λ _ e=>nomatch e⟩
 | ref p =>
  cases r
  rcases ty with ⟨rfl,xs,hq⟩ | ⟨rfl,⟨o,hk,hc,hd⟩ | ⟨xs,hq⟩⟩ | ⟨rfl,hk⟩ | ⟨rfl,S,n,hk⟩
  ·obtain ⟨its,_,pl,_⟩:=I.list hq
   refine ⟨pl.isList.typeIs,λ a e=>?_⟩;cases e
   obtain ⟨o,n,e,c,hd,_⟩:=pl;exact ⟨o,e,hd⟩
  ·refine ⟨⟨o,I.kIn p o hk,hc⟩,λ a e=>?_⟩
   cases e
   exact ⟨o,I.kIn _ o hk,hd⟩
  ·obtain ⟨_,its,_,o,e,c,n,_,hd⟩:=(show ObjOk X.prog X.w H s.heap p (.tup xs) from I.hok p _ hq)
   refine ⟨⟨o,e,c⟩,λ a e2=>?_⟩;cases e2
   exact ⟨o,e,hd⟩
  ·have z:∃ o,s.heap.get? p=some o/\o.ExactDict:=by
    rcases hk with ⟨kvs,hk⟩ | ⟨kvs,hk⟩
    ·obtain ⟨_,_,_,_,o,_,_,e,ex,_⟩:=I.hok p _ hk
     exact ⟨o,e,ex⟩
    ·obtain ⟨_,_,_,_,o,_,_,e,ex,_⟩:=I.hok p _ hk
     exact ⟨o,e,ex⟩
   obtain ⟨o,e,ex⟩:=z;refine ⟨⟨o,e,ex.1⟩,λ a e2=>?_⟩;cases e2
   exact ⟨o,e,ex.2.1⟩
  ·obtain ⟨o,_,_,_,e,ex,_⟩:=I.hok p _ hk
   refine ⟨⟨o,e,ex.1⟩,λ a e2=>?_⟩;cases e2
   exact ⟨o,e,ex.2.1⟩
 | _=>exact ur ty
def tBM (K:cf) (T:String) (r:V->List V->Hp->VK->Prop) (to:TE) (t:TA):TE:=λ σ H Q=>to σ H λ x H1=>tyV K T x H1/\t σ H1 λ xs H2=>r x xs H2 Q
variable {o e:iJ} {es:List iJ} {to:TE} {t:TA} {name:Str} {apos cpos:Pos} {T id:String} {r:V->List V->Hp->VK->Prop}
theorem xB (pa:PlainAttrs T) (slot:Slot T name id) (hty:typeOf (.builtin id)=pure (.type "method_descriptor")) (hm:MtR X id r) (ho:PE X o to) (ha:PA X (e::es) t)
  (hbase:attributeBase o name X.env (eval o X.env)=eval o X.env:=by rfl)
  (hfew:((backTo cpos (starEach (e::es) X.env)).all (λ x=>!x.1) && (backToKw cpos (keywordEach [] X.env)).all (λ x=>x.1.isSome)
   && decide ((e::es).length+([]:List Keyword).length+(if ([]:List Keyword).isEmpty then 0 else 1)<30))=true:=by rfl)
  (hline:(apos.endLine == cpos.line)=true:=by rfl) (hs:starEach (e::es) X.env=(false,eval e X.env)::starEach es X.env:=by rfl) (hplain:(backTo cpos (starEach es X.env)).any (·.1)=false:=by rfl) :
  PE X (.Call (.Attribute o name apos) (e::es) [] cpos) (tBM X.K T r to t):=by
 intro pins s σ H Q I h;refine wpAny_Call_method_late hbase hfew hline rfl (thn (ho pins s σ H _ I h) λ v s1 ⟨x,H1,I1,r1,ty,q1⟩=>?_);obtain ⟨h1,h2⟩:=kKY I1 r1 ty;refine ⟨T,id,pa,slot,hty,h1,h2,?_⟩;have hA:=ha cpos pins s1 σ H1 _ I1 q1;rw [hs] at hA ⊢;refine Calls.callWith_builtin (by show (false || (backTo cpos (starEach es X.env)).any (·.1))=false;rw [hplain]<;>rfl) (Calls.evalArgs_plain ?_);exact thn hA λ us s2 ⟨vs,H2,I2,r2,q2⟩=>hm pins s2 σ H2 x vs v us Q I2 r1 r2 q2
end
def MtM (X:Cx) (id:String) (r:V->List V->Hp->VK->Prop):Prop :=
 ∀ (pins:List (av×Obj)) (s:ay) (σ:St) (H:Hp) (x:V) (xs:List V) (v:ar) (us:List ar) (Q:VK),Inv X pins σ H s->RelV x v->Vals xs us->r x xs H Q ->
  eD (model X.prog X.w) X.A (call (.builtin id) (v::us)) (EP X pins σ Q) X.xe s
theorem Vals.one:∀ {x:V} {us:List ar},Vals [x] us->∃ u,us=[u]/\RelV x u
 | _,_,.cons r .nil=>⟨_,rfl,r⟩
theorem Vals.two:∀ {x y:V} {us:List ar},Vals [x,y] us->∃ u v,us=[u,v]/\RelV x u/\RelV y v
 | _,_,_,.cons r (.cons q .nil)=>⟨_,_,rfl,r,q⟩
theorem Vals.reverse {xs:List V} {us:List ar} (h:Vals xs us):Vals xs.reverse us.reverse:=by
 induction h with
 | nil=>exact .nil
 | cons r t ih=>rw [yh,yh];exact Vals.append ih (.cons r .nil)
theorem Vals.rep {xs:List V} {us:List ar} (h:Vals xs us):∀ k:Nat,Vals (fh k xs).flatten (fh k us).flatten
 | 0=>.nil
 | k+1=>by
  rw [uh,uh,vk,vk];exact Vals.append h (Vals.rep h k)
theorem mX (its:List ar):∀ (k:Nat) (acc:List ar),
  Dy (λ x1 x2=>x1++x2) acc.toArray (fh k its.toArray)=(acc++(fh k its).flatten).toArray
 | 0,acc=>by simp
 | k+1,acc=>by
  have e:acc.toArray++its.toArray=(acc++its).toArray:=by simp
  have e2:(acc++its)++(fh k its).flatten=acc++(fh (k+1) its).flatten:=by
   rw [uh,vk,cv]
  rw [<-e2,<-mX its k (acc++its),<-e,uh,ue]
section
variable {X:Cx} {pins:List (av×Obj)} {σ:St} {H:Hp} {s:ay} {l b:av} {xs ys zs:List V}
theorem Inv.lset {its its':List ar} {n:Nat} {f:Array ar->Array ar} {t':Nat} (I:Inv X pins σ H s) (hH:H l=some (.lst xs))
  (e:s.heap.get? l=some { cls:=.type "list",data:=.seq its.toArray n }) (hf:f its.toArray=its'.toArray) (hv:Vals ys its') (hz:ys.length<=sizeLine) :
  Inv X pins σ (upd H l (.lst ys)) { s with heap:=s.heap.update l (ud f),toks:=t' }:=by
 have q:=PySem.IsL.update e f;rw [hf] at q;refine I.write (x:=l) (e:=l) (by rw [hH];exact trivial) (.inl rfl) (λ b' u hb hu=>(BP s.heap (ud f) (uq hb)).trans hu) ⟨_,q⟩ ?_;exact ⟨hz,its',_,hv,q⟩
theorem Inv.lnew {its:List ar} {t':Nat} (I:Inv X pins σ H s) (hv:Vals ys its) (hz:ys.length<=sizeLine) :
  Inv X pins σ (upd H s.heap.objs.size (.lst ys)) { s with heap:=s.heap.push { cls:=.type "list",data:=.seq its.toArray },toks:=t' } :=
 I.laid (λ _ _ q=>au _ q) (bq _) ⟨hz,its,0,hv,cn _ rfl⟩
theorem Inv.fresh (I:Inv X pins σ H s):H s.heap.objs.size=none:=I.hok.fresh (bq _)
theorem Inv.lstM (I:Inv X pins σ H s) (hH:H l=some (.lst xs)):xs.length<=sizeLine/\∃ (its:List ar) (n:Nat),Vals xs its/\xs.length=its.length/\s.heap.get? l=some { cls:=.type "list",data:=.seq its.toArray n }:=by
 obtain ⟨z,its,n,r,e⟩:=I.hok l _ hH;exact ⟨z,its,n,r,r.length,e⟩
theorem kGL {n:Nat} (h:n<=sizeLine):xb n=false:=by
 unfold xb;exact decide_eq_false (by omega)
end
section
variable {X:Cx}
def kIP:V->List V->Hp->VK->Prop:=λ x vs H Q=>∃ l xs y,x=.ref l/\vs=[y]/\H l=some (.lst xs)/\xs.length<sizeLine/\Q .non (upd H l (.lst (xs++[y])))
theorem jX:MtM X "list.append" kIP:=by
 intro pins s σ H x vs v us Q I rx rv h;obtain ⟨l,xs,y,rfl,rfl,hH,hz,q⟩:=h;cases rx
 obtain ⟨u,rfl,ru⟩:=rv.one;obtain ⟨z,its,n,r,hl,e⟩:=I.lstM hH;refine Aa F.slot_list_append ⟨_,e,rfl⟩ F.entry_list_append (F.args_list_append_2 _ _) (PySem.list_append l its.toArray n u (by rw [eV];omega)) ⟨e,?_⟩;refine ⟨.non,_,I.lset (its':=its++[u]) hH e (by simp) (r.append (.cons ru .nil)) ?_,rfl,q⟩;rw [cg,gi];omega
def kPC:R2:=λ x y H Q=>∃ l b xs zs,x=.ref l/\y=.ref b/\H l=some (.lst xs)/\H b=some (.lst zs)/\xs.length+zs.length<=sizeLine/\∀ p,H p=none->Q (.ref p) (upd H p (.lst (xs++zs)))
theorem vD:OpR X (binaryOp .Add) kPC:=by
 intro pins s σ H x y v u Q I rx ry h;obtain ⟨l,b,xs,zs,rfl,rfl,hH,hB,hz,q⟩:=h;cases rx
 cases ry
 obtain ⟨z,its,n,r,hl,e⟩:=I.lstM hH;obtain ⟨z2,its2,n2,r2,hl2,e2⟩:=I.lstM hB;refine PySem.P.add_list e e2 ?_ (by rw [eV,eV];omega);have ea:its.toArray++its2.toArray=(its++its2).toArray:=by simp
 rw [ea];exact ⟨.ref _,_,I.lnew (t':=s.toks) (r.append r2) (by rw [cg];omega),rfl,q _ I.fresh⟩
def kPB:R2:=λ x y H Q=>∃ l k xs,x=.ref l/\y=.int k/\H l=some (.lst xs)/\-(2 ^ 63)<=k/\k<2 ^ 63/\xs.length*k.toNat<=sizeLine /\
 ∀ p,H p=none->Q (.ref p) (upd H p (.lst (fh k.toNat xs).flatten))
theorem kJK {α:Type} (xs:List α) (k:Nat):(fh k xs).flatten.length=k*xs.length:=by
 induction k with
 | zero=>simp
 | succ k ih=>rw [uh,vk,cg,ih,Nat.succ_mul,FE]
theorem kLS:OpR X (binaryOp .Mult) kPB:=by
 intro pins s σ H x y v u Q I rx ry h;obtain ⟨l,k,xs,rfl,rfl,hH,h1,h2,hz,q⟩:=h;cases rx
 obtain ⟨t,rfl⟩:=ry;obtain ⟨z,its,n,r,hl,e⟩:=I.lstM hH;have hlen:its.toArray.size*k.toNat<=sizeLine:=by rw [eV,<-hl];exact hz
 have hcap:¬ its.toArray.size*k.toNat>(2 ^ 63-1) / 8:=by
  have:(sizeLine:Nat)<=(2 ^ 63-1) / 8:=by decide
  omega
 have hfit:¬ (!Builtin.List.listFitsIndex k)=true:=by
  rw [Dz h1 h2];exact dq
 have hlong:¬ xb (its.toArray.size*k.toNat)=true:=by
  rw [kGL hlen];exact dq
 have hnew:Dy (λ x1 x2=>x1++x2) #[] (fh (if its.toArray.isEmpty=true then 0 else k.toNat) its.toArray)=(fh k.toNat its).flatten.toArray:=by
  have f0:∀ m:Nat,Dy (λ x1 x2=>x1++x2) #[] (fh m its.toArray)=(fh m its).flatten.toArray:=λ m=>by
   have:=mX its m [];rw [jr] at this;exact this
  rw [f0]
  cases its with
  | nil=>simp
  | cons a r'=>rw [if_neg (by simp)]
 refine wpAny_binaryOp_repeat_ref (T:="list") (U:="int") (by decide) ⟨_,e,rfl⟩ (λ s'=>Dx s' k t) noFill_list_mul F.fills_int_mul Dc repeat_list F.slot_int_index.lookup
  (Aa Dc (Dx s k t) F.entry_int_rmul (F.args_int_rmul_2 _ _) (int___rmul___int_list k t l its.toArray n)
   ⟨e,rfl,⟨_,e,rfl⟩,Aa F.slot_list_mul ⟨_,e,rfl⟩ F.entry_list_mul (F.args_list_mul_2 _ _) (AutoListH.list___mul___list_int_3 l its.toArray n k t hfit hcap hlong) ⟨e,?_⟩⟩)
 rw [hnew];exact ⟨.ref _,_,I.lnew (t':=s.toks) (r.rep k.toNat) (by rw [kJK,Nat.mul_comm];exact hz),rfl,q _ I.fresh⟩
end
section
variable {prog:eo} {w:iD} {A:fb} {E:ar->ay->Prop} {s:ay}
end
section
variable {X:Cx}
end
end L2
namespace Att
open PySem PySem.W PySem.Calls PyProof.Rows
theorem fF {P:Fb} {h:gy}:∀ (ns:List Int) (vs:List ar),WellAll P h vs (ns.map Fm)->Bv vs ns:=by
 intro ns
 induction ns with
 | nil =>
  intro vs w;rw [Bw] at w;cases w
  exact .nil
 | cons n ns ih =>
  intro vs w;rw [ft] at w
  cases w with
  | cons a b =>
   cases a
   exact .cons _ _ (ih _ b)
theorem kCV {l:OpenLaw} {n:Nat} (hn:l.most=some n) {P:Fb} {h:gy} {args:List WData} {vals:List ar}
  (hpre:l.row.toRowW.claim.pre args=true) (hwl:WellAll P h vals args) :
  ∃ a vs ns,vals=[ki a]/\args=[WData.list (ns.map Fm)]/\h.get? a=some { cls:=.type "list",data:=.seq vs.toArray }/\Bv vs ns/\ns.length<=n:=by
 have hsh:WShape.hasAll [] args [.list .int]=true:=(pre_splitW hpre).1;have hc:l.pre.holds [] { args:=args }=true:=(pre_splitW hpre).2;obtain ⟨d,r,rfl,h1,h2⟩:=hasAllW_cons hsh;obtain rfl:=hasAllW_nil h2;obtain ⟨xs,rfl,h3⟩:=hasW_list h1;obtain ⟨ns,rfl⟩:=items_int h3
 have hlen:ns.length<=n:=by
  unfold OpenLaw.pre at hc
  have h4:(WTm.not (.lt (.lit (.int (n:Int))) (.len (.arg 0)))).holds [] { args:=[.list (ns.map .int)] }=true:=by
   have h4:=(holds_andW hc).1;rw [hn] at h4;exact h4
  have h5:=condW_of h4 (w_not (w_lt w_lit (w_len_list (w_arg rfl))));rw [ao] at h5;refine Nat.le_of_not_lt λ q=>?_;have q':(n:Int)<((ns.length:Nat):Int):=by omega
  first
   | (rw [decide_eq_true q'] at h5;exact absurd h5 (by decide))
   | (simp at h5;omega)
 cases hwl with
 | cons w1 w2 =>
  cases w2
  cases w1 with
  | list ho hall=>exact ⟨_,_,ns,rfl,rfl,ho,fF ns _ hall,hlen⟩
theorem kDD (l:OpenLaw) (args:List WData):l.row.toRowW.claim.post args (.bool true) args=true :=
 postW_of (r:=l.row.toRowW) (X:=(true == true))
  (show Fd [] (.bool true) .bool=true by first | rfl | decide | simp [Fd,WShape.arms,WShape.armsAll])
  (show (WTm.eq .res (.lit (.bool true))).value [] { args:=args,res:=some (.bool true),after:=args }=some (.bool (true == true)) from w_eq_bool (w_res rfl) w_lit) rfl
theorem attach_call {l:OpenLaw} {n:Nat} {q:eo} {loose:List Str} {XP:(Str->Option ar)->gy->Prop} {YP:iD->gy->Prop} {d:DefRec}
  (hn:l.most=some n) (hdf:d.params.defaults=[])
  (call:∀ (w:iD) (s₀ s₁:ay) (mg mb:Str->Option ar) (fa:av) (o:Obj) (pm cd doc:ar) (a:av) (vs:List ar) (ns:List Int),
   Ground q loose [] XP w s₀ mg mb s₁.heap->YP w s₁.heap ->
   s₁.heap.get? fa=some o->o.data=.func (docDef d.name d.params d.body d.scope pm cd doc)->s₁.heap.CodeRec cd d.name->mg d.name=some (.ref fa) ->
   s₁.heap.get? a=some { cls:=.type "list",data:=.seq vs.toArray }->Bv vs ns->ns.length<=n->s₁.gens = #[] ->
   codeAny (model l.prog w) callerA (.call (.ref fa) ⟨[.ref a],[]⟩) (λ r s'=>r=.ok (.ret (.bool true))/\OldK s₁.heap s'.heap/\s'.os=s₁.os/\Ah s'.gens) s₁) :
  WalkO q loose XP YP l.row.toRowW d [] (λ f vs=>EA f vs):=by
 intro w s₀ s₁ mg mb G Y fa o pm cd doc dV kV ho hd hcd hD hmg hg args vals as hpre hlay hrd hwl hlo;obtain rfl:dV=.none:=Dflts.none hD hdf;obtain rfl:kV=.none:=Dflts.noKw hD;obtain ⟨a,vs,ns,rfl,rfl,hobj,hints,hlen⟩:=kCV hn hpre hwl;refine enter_call (AI (call w s₀ s₁ mg mb fa o pm cd doc a vs ns G Y ho (fd_plain hd) hcd hmg hobj hints hlen hg) λ r s' hq=>?_);obtain ⟨rfl,h2,h3,h4⟩:=hq;exact ⟨.inl ⟨.bool true,.bool true,[],rfl,λ _=>rfl,.bool true,kDD l _,λ _=>⟨Am,λ _ hm=>(nomatch hm)⟩⟩,h2,h3,h4⟩
section
variable {prog:eo} {w:iD} {A:fb} {E:ar->ay->Prop} {s:ay} {K:Frag}
end
end Att
namespace L2
open PySem PySem.Spec PyProof.Rows
theorem mC:∀ {vs:List ar} {ns:List Int},Bv vs ns->Vals (ns.map V.int) vs
 | _,_,.nil=>.nil
 | _,_,.cons n t h=>.cons ⟨t,rfl⟩ (mC h)
def kMU (H:Hp):Prop:=∀ b,H b=none\/∃ o xs,H b=some (.frz o (.lst xs))
theorem kGW {P:eo} {w:iD} {K:cf} {mg mb:Str->Option ar} {CX:CXT} {k:Nat} {fa a:av} {fd:ed} {x:Str} {sp:Sp} {s₁:ay} {vs:List ar} {ns:List Int}
  (KX:K.In s₁.heap) (hns:s₁.heap.Ns cq mg) (hb:s₁.heap.Ns builtinsNs mb) (hbb:∀ x:Str,x≠"__name__"->mb x=bootBuiltins x) (hlim:s₁.heap.NoLimit) (hg:s₁.gens = #[])
  (ha:s₁.heap.get? a=some { cls:=.type "list",data:=.seq vs.toArray }) (hi:Bv vs ns) (hl:ns.length<=sizeLine) (hr:Room k callerA)
  (F:∀ base:gy,K.In base->base.Ns cq mg->FnOk P w K mg base CX k fa fd [x] sp) (hbind:∀ (s:ay) (u:ar),Cg s fd ⟨[u],[]⟩ [(x,u)])
  (hsp:∀ H:Hp,kMU H->SqL K H a (ns.map V.int)->sp [.ref a] H (λ v _=>v=.bl true) λ _ _ _=>False)
  (hCX:∀ H e s',CX [] H s₁ (λ _ _ _=>False) e s'->False) :
  codeAny (model P w) callerA (.call (.ref fa) ⟨[.ref a],[]⟩) (λ r s'=>r=.ok (.ret (.bool true))/\OldK s₁.heap s'.heap/\s'.os=s₁.os/\Ah s'.gens) s₁:=by
 have rv:=mC hi
 have lenV:=hi.length
 have core:∀ H:Hp,kMU H->SqL K H a (ns.map V.int)->HOk P w H s₁.heap->(∀ b,H b≠none->b=a)->(H a≠none->K.lookup a=none) ->
   codeAny (model P w) callerA (.call (.ref fa) ⟨[.ref a],[]⟩) (λ r s'=>r=.ok (.ret (.bool true))/\OldK s₁.heap s'.heap/\s'.os=s₁.os/\Ah s'.gens) s₁:=by
  intro H hO hS hok hA hK;have base_of:∀ {b:av} {o:Obj},s₁.heap.get? b=some o->H b=none->(pD s₁.heap H).get? b=some o:=λ e n=>kHC e n
  have noA:∀ {b:av} {o:Obj} {es:Array DH} {ep:Nat},s₁.heap.get? b=some o->o.data=.dict es ep->H b=none:=λ {b o es ep} e d=>by
   cases q:H b with
   | none=>rfl
   | some u =>
    have e':b=a:=hA b (by rw [q];simp);subst e';rw [ha] at e;cases e;have d':Data.seq vs.toArray _=Data.dict es ep:=d
    cases d'
  have nsK:∀ {b:av} {m:Str->Option ar},s₁.heap.Ns b m->(pD s₁.heap H).Ns b m:=λ {b m} ⟨o,es,ep,e,d,r⟩=>⟨o,es,ep,base_of e (noA e d),d,r⟩
  have hKb:K.In (pD s₁.heap H):=λ b o e=>base_of (KX b o e) (by
   cases q:H b with
   | none=>rfl
   | some u =>
    have e':b=a:=hA b (by rw [q];simp);subst e';rw [hK (by rw [q];simp)] at e;cases e)
  have hM:Mod K mg (pD s₁.heap H):=⟨hKb,nsK hns,⟨mb,nsK hb,hbb⟩,let ⟨mc,h1,h2⟩:=hlim;⟨mc,nsK h1,h2⟩⟩;have e0:Env0 P w K mg (pD s₁.heap H) callerA [] s₁ H:=⟨rfl,hM,λ b o e=>kJE e,Cn (kEA _ _),trivial,λ b hb=>absurd (show b∈([]:List av) from hb) (by simp),hok,.of_eq hg⟩;refine AI ((F _ hKb (nsK hns)).run callerA [] s₁ H ⟨[.ref a],[]⟩ [.ref a] [.ref a] _ _ hr e0 (hbind s₁ (.ref a)) (.cons rfl .nil) (hsp H hO hS)) λ r s' h=>?_
  cases r with
  | error e=>exact (hCX H e s' h).elim
  | ok fl =>
   cases fl with
   | next=>exact ur h
   | brk=>exact ur h
   | cont=>exact ur h
   | ret u =>
    obtain ⟨v,H',os,bare,un,hok',r',q⟩:=h;have q':v=.bl true:=q;subst q';obtain rfl:u=AN true:=r';refine ⟨rfl,OldK.of_keep λ b o e=>?_,os,bare⟩
    cases q:H b with
    | none=>exact un.keep b o e q (by intro z;exact absurd (show b∈([]:List av) from z) (by simp)) (by simp)
    | some u =>
     rcases hO b with z | ⟨ob,xs,z⟩
     ·rw [q] at z;cases z
     ·have z2:=un.frzs b ob _ z
      obtain ⟨e1,_⟩:=hok b _ z;obtain ⟨e2,_⟩:=hok' b _ z2;rw [e] at e1;cases e1;exact e2
 cases hk:K.lookup a with
 | some o =>
  have e:=KX a o hk;rw [ha] at e;cases e
  refine core (λ _=>none) (λ _=>.inl rfl) (.inr ⟨_,vs.toArray,_,hk,rfl,rfl,rfl,by rw [eV,lenV];exact hl,by simpa using rv⟩) (λ b u z=>by have z':(none:Option HO)=some u:=z;cases z') (λ b z=>absurd rfl z) λ z=>absurd rfl z
 | none =>
  refine core (λ b=>if b=a then some (.frz { cls:=.type "list",data:=.seq vs.toArray } (.lst (ns.map V.int))) else none) (λ b=>?_) (.inl (.inr ⟨{ cls:=.type "list",data:=.seq vs.toArray },if_pos rfl⟩)) (λ b u z=>?_) (λ b z=>?_) λ _=>hk
  ·by_cases hb:b=a
   ·exact .inr ⟨_,_,if_pos hb⟩
   ·exact .inl (if_neg hb)
  ·by_cases hb:b=a
   ·have z':=(if_pos hb).symm.trans z
    cases z'
    subst hb;exact ⟨ha,by rw [ao];exact hl,vs,_,rv,ha⟩
   ·have z':=(if_neg hb).symm.trans z
    cases z'
  ·by_cases hb:b=a
   ·exact hb
   ·exact absurd (if_neg hb) z
theorem walk_of {l:BZ} {n k:Nat} {q:eo} {loose:List Str} {XP:(Str->Option ar)->gy->Prop} {YP:iD->gy->Prop} {d:DefRec} {K:Fb->cf} {CX:iD->CXT} {sp:iD->Sp} {x:Str}
  (hn:l.most=some n) (hn2:n<=sizeLine) (hdf:d.params.defaults=[]) (hr:Room k callerA)
  (hY:∀ (w:iD) (h:gy),YP w h->(K w.params).In h)
  (F:∀ (w:iD) (mg:Str->Option ar) (fa:av) (h:gy),(K w.params).In h->h.Ns cq mg->mg d.name=some (.ref fa) ->
   ∃ fd:ed,(∀ (s:ay) (u:ar),Cg s fd ⟨[u],[]⟩ [(x,u)]) /\
    ∀ base:gy,(K w.params).In base->base.Ns cq mg->FnOk l.prog w (K w.params) mg base (CX w) k fa fd [x] (sp w))
  (hsp:∀ (w:iD) (H:Hp) (a:av) (ns:List Int),ns.length<=n->kMU H->SqL (K w.params) H a (ns.map V.int)->sp w [.ref a] H (λ v _=>v=.bl true) λ _ _ _=>False)
  (hCX:∀ (w:iD) (H:Hp) (s:ay) (e:ar) (s':ay),CX w [] H s (λ _ _ _=>False) e s'->False) :
  Er q loose XP YP l.row.toRowW d [] (λ f vs=>EA f vs):=by
 refine Att.attach_call hn hdf λ w s₀ s₁ mg mb fa o pm cd doc a vs ns G Y ho hd hcd hmg hobj hints hlen hg=>?_;have KX:=hY w _ Y;obtain ⟨fd,hb,hF⟩:=F w mg fa _ KX G.T.g hmg;exact kGW KX G.T.g G.T.b G.T.builtins G.T.nolimit hg hobj hints (iA hlen hn2) hr hF hb (λ H hO hS=>hsp w H a ns hlen hO hS) λ H e s'=>hCX w H s₁ e s'
def kW (s:nj):Arguments:=match s with
 | .FunctionDef _ a _ _ _ _ _ _ _ _=>a
 | _=>{ posonlyargs:=[],args:=[],vararg:=none,kwonlyargs:=[],kw_defaults:=[],kwarg:=none,defaults:=[] }
def kT (s:nj):List nj:=match s with
 | .FunctionDef _ _ b _ _ _ _ _ _ _=>b
 | _=>[]
def kJ (s:nj):qa:=match s with
 | .FunctionDef _ _ _ _ _ _ sc _ _ _=>sc
 | _=>{ kind:=.function,names:=[],isGenerator:=false,isCoroutine:=false }
abbrev CX0:CXT:=λ _ _ _ _ _ _=>False
abbrev E0:XK:=λ _ _ _=>False
theorem kNP {X:Cx}:kAY CX0 X E0:=λ _ _ _ _ _ _ _ h=>h.elim
structure Fun (K:cf) (x qual:Str) (st:nj) (f:av) (fd:ed):Prop where
 ex:∃ (oc:ar) (od:Option av) (kV doc pm:ar) (an:Option av) (cdv ct:ar) (osl:Array (Option ar)),
  fd=dn x qual (kW st) (kT st) (kJ st) .none kV doc pm an cdv ct/\K.lookup f=some ⟨oc,od,.func fd,osl⟩/\dh K cdv qual=true
 kp:dg K (.ref f)=true
section
variable {P:eo} {w:iD} {K:cf} {mg:Str->Option ar} {base:gy}
theorem Fun.ok {x qual:Str} {st:nj} {f:av} {fd:ed} {N ps:List Str} {k:Nat} {sp:Sp} (F:Fun K x qual st f fd) (S:FnScope N ps (kJ st)) (len:∀ vs H Q E,sp vs H Q E->vs.length=ps.length)
  (hbody:∀ (cdv:ar) (A:fb) (outer:List Env) (s:ay) (H:Hp) (vs:List V) (Q:VK) (E:XK),Room k (A.deeper (envOfC qual (kJ st) s.heap.objs.size f cdv))->sp vs H Q E ->
   ∃ t,PSs (kEI CX0 P w K mg base N qual (kJ st) f cdv A outer s H E).nox (kT st) t/\t { nx:=λ _ H'=>Q .non H',rt:=Q } (start N vs) H):FnOk P w K mg base CX0 (k+1) f fd ps sp:=by
 obtain ⟨oc,od,kV,doc,pm,an,cdv,ct,osl,rfl,lk,hcd⟩:=F.ex;refine kNZ lk hcd S len λ A outer s H vs Q E hr hsp=>?_;obtain ⟨t,h,q⟩:=hbody cdv A outer s H vs Q E hr hsp;exact ⟨t,h.nox,q⟩
theorem Fun.binds {x qual:Str} {st:nj} {f:av} {fd:ed} {ps:List Str} (F:Fun K x qual st f fd)
  (h:∀ (kV doc pm:ar) (an:Option av) (cdv ct:ar) (us:List ar),us.length=ps.length->bindArgs (dn x qual (kW st) (kT st) (kJ st) .none kV doc pm an cdv ct) ⟨us,[]⟩=pure (ps.zip us)):Binds K fd ps []:=by
 obtain ⟨oc,od,kV,doc,pm,an,cdv,ct,osl,rfl,lk,hcd⟩:=F.ex;exact .all (h kV doc pm an cdv ct)
theorem qF {x qual:Str} {st:nj} {f:av} {oc:ar} {od an:Option av} {osl:Array (Option ar)} {kV doc pm cdv ct:ar} (l:K.lookup f=some ⟨oc,od,.func (dn x qual (kW st) (kT st) (kJ st) .none kV doc pm an cdv ct),osl⟩)
  (c:dh K cdv qual=true) (k:dg K (.ref f)=true):Fun K x qual st f (dn x qual (kW st) (kT st) (kJ st) .none kV doc pm an cdv ct):=⟨⟨oc,od,kV,doc,pm,an,cdv,ct,osl,rfl,l,c⟩,k⟩
end
theorem kHB {A:fb} {k:Nat} (hr:Room k A):A.units+1<cLine:=qm (Nat.add_le_add_left (by decide:1<=64) _) hr.units
theorem kR {n:Nat} (h:n<=1000):n<sizeLine:=qm h (by decide)
section
variable {X:Cx}
theorem pv (i:Nat) {x:Str} {pos:Pos} (hN:X.N[i]?=some x:=by rfl) (hv:Vis X.env.scope x:=by first | exact dw rfl | exact DI (dw rfl) | exact DI (DI rfl)) (hd:(x == ("__debug__" : Str))=false:=by decide)
  (hcd:(x == ("__classdict__" : Str))=false:=by decide):PE X (.Name x pos) (kLA i):=kLP hN hv hd hcd
end
theorem zB {A B:Prop} (h:B):if false=true then A else B:=by
 rw [if_neg dq];exact h
theorem aL {A B:Prop} (h:A):if true=true then A else B:=by
 rw [if_pos rfl];exact h
theorem vS {c A B:Prop} [Decidable c] (h1:c->A) (h2:¬ c->B):if c then A else B:=by
 by_cases h:c
 ·rw [if_pos h]
  exact h1 h
 ·rw [if_neg h]
  exact h2 h
def Same (H H':Hp):Prop:=∀ b o,H b=some o->H' b=some o
theorem Same.refl (H:Hp):Same H H:=λ _ _ h=>h
theorem Same.trans {H H1 H2:Hp} (a:Same H H1) (b:Same H1 H2):Same H H2:=λ c o h=>b c o (a c o h)
theorem Same.free {H H':Hp} (e:Same H H') {l:av} (h:H' l=FU):H l=FU:=by
 cases q:H l with
 | none=>rfl
 | some o =>
  rw [e l o q] at h;cases h
theorem Same.seq {K:cf} {H H':Hp} {a:av} {xs:List V} (e:Same H H') (h:SqL K H a xs):SqL K H' a xs:=by
 rcases h with (h | ⟨o,h⟩) | h
 ·exact .inl (.inl (e _ _ h))
 ·exact .inl (.inr ⟨o,e _ _ h⟩)
 ·exact .inr h
section
variable {κ:Type} [DecidableEq κ]
def yA (kvs:List (κ×V)) (k:κ):Option V:=(kvs.find? λ kv=>decide (kv.1=k)).map (·.2)
def wU (kvs:List (κ×V)) (k:κ) (v:V):List (κ×V) :=
 if (kvs.any λ kv=>decide (kv.1=k))=true then kvs.map (λ kv=>if kv.1=k then (kv.1,v) else kv) else kvs++[(k,v)]
theorem jS {p:κ×V} {r:List (κ×V)} {k:κ} (e:p.1=k):yA (p::r) k=some p.2:=by simp [yA,vc,e]
theorem jT {p:κ×V} {r:List (κ×V)} {k:κ} (e:¬ p.1=k):yA (p::r) k=yA r k:=by simp [yA,vc,e]
theorem aY (k:κ):∀ kvs:List (κ×V),(kvs.any λ kv=>decide (kv.1=k))=(yA kvs k).isSome
 | []=>rfl
 | p::r=>by
  rw [ze];by_cases e:p.1=k
  ·simp only [jS e,decide_eq_true e,Bool.true_or,CL]
  ·rw [jT e,decide_eq_false e,Bool.false_or];exact aY k r
theorem rA (k j:κ) (y:V):∀ kvs:List (κ×V),yA (kvs.map λ kv=>if kv.1=k then (kv.1,y) else kv) j=(yA kvs j).map λ x=>if j=k then y else x
 | []=>rfl
 | p::r=>by
  have ih:=rA k j y r;rw [ft];by_cases h:p.1=k
  ·rw [if_pos h]
   by_cases e:p.1=j
   ·rw [jS (p:=(p.1,y)) e,jS e,ph,if_pos (e.symm.trans h)]
   ·rw [jT (p:=(p.1,y)) e,jT e,ih]
  ·rw [if_neg h]
   by_cases e:p.1=j
   ·rw [jS (p:=p) e,jS e,ph,if_neg (λ z=>h (e.trans z))]
   ·rw [jT (p:=p) e,jT e,ih]
theorem mE (k j:κ) (y:V):∀ kvs:List (κ×V),yA kvs k=none->yA (kvs++[(k,y)]) j=if j=k then some y else yA kvs j
 | [],_=>by
  by_cases e:k=j
  ·rw [if_pos e.symm];exact jS (p:=(k,y)) e
  ·rw [if_neg (λ z=>e z.symm)];exact jT (p:=(k,y)) e
 | p::r,hn=>by
  rw [iC];have hk:¬ p.1=k:=λ z=>by rw [jS z] at hn;cases hn
  rw [jT hk] at hn;have ih:=mE k j y r hn;by_cases e:p.1=j
  ·rw [jS e,jS e,if_neg (λ z=>hk (e.trans z))]
  ·rw [jT e,jT e,ih]
theorem pZ (kvs:List (κ×V)) (k j:κ) (y:V):yA (wU kvs k y) j=if j=k then some y else yA kvs j:=by
 unfold wU;by_cases a:(kvs.any λ kv=>decide (kv.1=k))=true
 ·rw [if_pos a,rA]
  rw [aY] at a;by_cases e:j=k
  ·obtain ⟨x,hx⟩:=Av.mp a
   rw [if_pos e,e,hx,ph,if_pos rfl]
  ·rw [if_neg e]
   cases yA kvs j with
   | none=>rfl
   | some x=>rw [ph,if_neg e]
 ·rw [if_neg a]
  refine mE k j y kvs ?_;rw [aY] at a
  cases q:yA kvs k with
  | none=>rfl
  | some x=>rw [q] at a;exact (a rfl).elim
theorem wH (kvs:List (κ×V)) (k:κ) (v:V):(wU kvs k v).length<=kvs.length+1:=by
 unfold wU
 split
 ·rw [ao];omega
 ·rw [cg,eX,ir];omega
theorem RelO.isSome_eq {o:Option V} {u:Option ar} (r:RelO o u):o.isSome=u.isSome:=by
 cases o with
 | none=>cases u with
  | none=>rfl
  | some _=>exact (show False from r).elim
 | some _=>cases u with
  | none=>exact (show False from r).elim
  | some _=>rfl
theorem KV.val {kvs:List (κ×V)} {vs:List (κ×ar)} (r:KV kvs vs) (k:κ):RelO (yA kvs k) (valueAt vs k):=by
 unfold KV at r
 induction r with
 | nil=>exact uu
 | @cons p q ps qs h t ih =>
  obtain ⟨h1,h2⟩:=h;by_cases e:p.1=k
  ·have e':q.1=k:=h1.symm.trans e
   have b:valueAt (q::qs) k=some q.2:=by simp [valueAt,vc,e']
   rw [jS e,b];exact h2
  ·have e':¬ q.1=k:=λ z=>e (h1.trans z)
   have b:valueAt (q::qs) k=valueAt qs k:=by simp [valueAt,vc,e']
   rw [jT e,b];exact ih
theorem KV.any {kvs:List (κ×V)} {vs:List (κ×ar)} (r:KV kvs vs) (k:κ):(kvs.any λ kv=>decide (kv.1=k))=vs.any λ kv=>decide (kv.1=k):=by
 unfold KV at r
 induction r with
 | nil=>rfl
 | cons h t ih=>rw [ze,ze,ih,h.1]
theorem KV.repl {kvs:List (κ×V)} {vs:List (κ×ar)} (r:KV kvs vs) (k:κ) {y:V} {u:ar} (ry:RelV y u) :
  KV (kvs.map λ kv=>if kv.1=k then (kv.1,y) else kv) (vs.map λ kv=>if kv.1=k then (kv.1,u) else kv):=by
 unfold KV at r ⊢
 induction r with
 | nil=>exact .nil
 | @cons p q ps qs h t ih =>
  rw [ft,ft];refine .cons ?_ ih;obtain ⟨h1,h2⟩:=h;by_cases e:p.1=k
  ·rw [if_pos e,if_pos (h1.symm.trans e)];exact ⟨h1,ry⟩
  ·rw [if_neg e,if_neg (λ z=>e (h1.trans z))];exact ⟨h1,h2⟩
theorem KV.put {kvs:List (κ×V)} {vs:List (κ×ar)} (r:KV kvs vs) (k:κ) {y:V} {u:ar} (ry:RelV y u):KV (wU kvs k y) (stored vs k u):=by
 unfold wU stored;rw [r.any k];by_cases e:(vs.any λ kv=>decide (kv.1=k))=true
 ·rw [if_pos e,if_pos e];exact r.repl k ry
 ·rw [if_neg e,if_neg e];exact FV r ⟨rfl,ry⟩
theorem KV.length {kvs:List (κ×V)} {vs:List (κ×ar)} (r:KV kvs vs):kvs.length=vs.length:=ve r
end
theorem kGZ {P:eo} {w:iD} {k:Key} {u:ar} (r:RelV (kV k) u):(qX P w).is k u=true:=by
 cases k with
 | inl i=>obtain ⟨t,e⟩:=(show ∃ t,u=qz i t from r);subst e;exact rY P w i t
 | inr x=>obtain ⟨t,e⟩:=(show ∃ t,u=DB x t from r);subst e;exact rX P w x t
theorem mS {P:eo} {w:iD}:∀ {ks:List Key} {us:List ar},Vals (ks.map kV) us->ItemsAre (qX P w) ks us
 | [],_,r=>by rw [Bw] at r;cases r;exact .nil
 | k::ks,_,r=>by
  rw [ft] at r
  cases r with
  | cons h t=>exact .cons (kGZ h) (mS t)
abbrev KT (H:Hp):List (List Key×V)->List (List Key×av×ar)->Prop:=Dl λ p q=>p.1=q.1/\H q.2.1=some (.tup (p.1.map kV))/\RelV p.2 q.2.2
theorem KT.val {H:Hp} {kvs:List (List Key×V)} {xs:List (List Key×av×ar)} (r:KT H kvs xs) (k:List Key):RelO (yA kvs k) ((atKey xs k).map (·.2)):=by
 induction r with
 | nil=>exact uu
 | @cons p q ps qs h t ih =>
  obtain ⟨h1,_,h2⟩:=h;by_cases e:p.1=k
  ·have e':q.1=k:=h1.symm.trans e
   have b:atKey (q::qs) k=some q.2:=by simp [atKey,vc,e']
   rw [jS e,b];exact h2
  ·have e':¬ q.1=k:=λ z=>e (h1.trans z)
   have b:atKey (q::qs) k=atKey qs k:=by simp [atKey,vc,e']
   rw [jT e,b];exact ih
theorem KT.repl {H:Hp} {kvs:List (List Key×V)} {xs:List (List Key×av×ar)} (r:KT H kvs xs) (k:List Key) {y:V} {u:ar} (ry:RelV y u) :
  KT H (kvs.map λ kv=>if kv.1=k then (kv.1,y) else kv) (xs.map (putAt k u)):=by
 induction r with
 | nil=>exact .nil
 | @cons p q ps qs h t ih =>
  rw [ft,ft];refine .cons ?_ ih;obtain ⟨h1,h2,h3⟩:=h;unfold putAt;by_cases e:p.1=k
  ·rw [if_pos e,if_pos (h1.symm.trans e)];exact ⟨h1,h2,ry⟩
  ·rw [if_neg e,if_neg (λ z=>e (h1.trans z))];exact ⟨h1,h2,h3⟩
theorem KT.put {H:Hp} {kvs:List (List Key×V)} {xs:List (List Key×av×ar)} (r:KT H kvs xs) (k:List Key) {b:av} {y:V} {u:ar} (hb:H b=some (.tup (k.map kV))) (ry:RelV y u) :
  KT H (wU kvs k y) (storedH xs k b u):=by
 have e:(kvs.any λ kv=>decide (kv.1=k))=(atKey xs k).isSome:=by
  rw [aY,(r.val k).isSome_eq,Co]
 unfold wU storedH;rw [e];by_cases q:(atKey xs k).isSome=true
 ·rw [if_pos q,if_pos q];exact r.repl k ry
 ·rw [if_neg q,if_neg q];exact FV r ⟨rfl,hb,ry⟩
theorem KT.keeps {H H':Hp} {kvs:List (List Key×V)} {xs:List (List Key×av×ar)} (r:KT H kvs xs) (ht:∀ b ys,H b=some (.tup ys)->H' b=some (.tup ys)):KT H' kvs xs :=
 Paired.mapP r λ _ _ z=>⟨z.1,ht _ _ z.2.1,z.2.2⟩
section
variable {P:eo} {w:iD} {H:Hp} {h:gy} {a:av}
theorem kKL {u:HO} (ok:HOk P w H h) (e:Rd H a u):ObjOk P w H h a u:=e.ok ok
theorem kKQ {kvs:List (Key×V)} (ok:HOk P w H h) (e:Rd H a (.dK kvs)):kvs.length<=sizeLine/\(a == sysModules)=false/\∃ vs,KV kvs vs/\h.DictOf (qX P w) a vs :=
 show ObjOk P w H h a (.dK kvs) from kKL ok e
theorem kOB {kvs:List (Key×V)} (ok:HOk P w H h) (e:H a=some (.dK kvs)):kvs.length<=sizeLine/\(a == sysModules)=false/\∃ vs,KV kvs vs/\h.DictOf (qX P w) a vs:=kKQ ok (.inl e)
theorem kAM {ks:List Key} (ok:HOk P w H h) (e:H a=some (.tup (ks.map kV))):(tupleKind (qX P w)).is h ks a:=by
 obtain ⟨_,its,r,o,h1,h2,n,h3,_⟩:=(show ObjOk P w H h a (.tup (ks.map kV)) from ok a _ e);exact ⟨o,its.toArray,n,h1,h2,h3,by simpa using mS r⟩
theorem kKP {kvs:List (List Key×V)} (ok:HOk P w H h) (e:Rd H a (.dT kvs)):kvs.length<=sizeLine/\(a == sysModules)=false /\
  ∃ xs,KT H kvs xs/\h.DictOfH (tupleKind (qX P w)) a xs:=by
 obtain ⟨z,y,xs,r,o,es,ep,h1,h2,h3,h4,h5⟩:=(show ObjOk P w H h a (.dT kvs) from kKL ok e);refine ⟨z,y,xs,r,o,es,ep,h1,h2,h3,h4,λ x hx=>?_,h5⟩
 have all:∀ {l:List (List Key×V)} {m:List (List Key×av×ar)},KT H l m->∀ x∈m,(tupleKind (qX P w)).is h x.1 x.2.1:=by
  intro l m q
  induction q with
  | nil=>intro x hx;exact nomatch hx
  | @cons p q ps qs hq t ih =>
   intro x hx;rcases du.mp hx with e | hx
   ·subst e
    exact kAM ok (by rw [<-hq.1];exact hq.2.1)
   ·exact ih x hx
 exact all r x hx
theorem kHO {kvs:List (List Key×V)} (ok:HOk P w H h) (e:H a=some (.dT kvs)):kvs.length<=sizeLine/\(a == sysModules)=false /\
  ∃ xs,KT H kvs xs/\h.DictOfH (tupleKind (qX P w)) a xs:=kKP ok (.inl e)
end
def DGet (H:Hp) (a:av) (y:V) (r:Option V):Prop :=
 (∃ kvs k,Rd H a (.dK kvs)/\y=kV k/\r=yA kvs k)\/∃ kvs k b,Rd H a (.dT kvs)/\y=.ref b/\H b=some (.tup (k.map kV))/\r=yA kvs k
def DPut (H:Hp) (a:av) (y v:V) (H':Hp):Prop :=
 (∃ kvs k,H a=some (.dK kvs)/\y=kV k/\kvs.length<sizeLine/\H'=upd H a (.dK (wU kvs k v))) \/
 ∃ kvs k b,H a=some (.dT kvs)/\y=.ref b/\H b=some (.tup (k.map kV))/\kvs.length<sizeLine/\H'=upd H a (.dT (wU kvs k v))
theorem DGet.t {H:Hp} {a b:av} {kvs:List (List Key×V)} {k:List Key} (e:H a=some (.dT kvs)) (eb:H b=some (.tup (k.map kV))):DGet H a (.ref b) (yA kvs k):=.inr ⟨kvs,k,b,.inl e,rfl,eb,rfl⟩
theorem DPut.t {H:Hp} {a b:av} {kvs:List (List Key×V)} {k:List Key} {v:V} (e:H a=some (.dT kvs)) (eb:H b=some (.tup (k.map kV))) (hl:kvs.length<sizeLine) :
  DPut H a (.ref b) v (upd H a (.dT (wU kvs k v))):=.inr ⟨kvs,k,b,e,rfl,eb,hl,rfl⟩
section
variable {X:Cx} {pins:List (av×Obj)} {σ:St} {H:Hp} {s:ay} {a:av} {y v:V} {u r:ar} {o:Option V} {A:fb} {E:ar->ay->Prop}
theorem Inv.big (I:Inv X pins σ H s):sysModules<s.heap.objs.size:=by
 have h:cq<s.heap.objs.size:=(I.mod.glob.keeps I.bk).lt;exact FF (by decide) h
theorem kKA {Q:ar->ay->Prop} (hu:A.units+1<cLine) (I:Inv X pins σ H s) (g:DGet H a y o) (ry:RelV y u) (h:∀ s',Inv X pins σ H s'->Q (.bool (!o.isSome)) s') :
  eD (model X.prog X.w) A (compareOp .NotIn u (.ref a)) Q E s:=by
 rcases g with ⟨kvs,k,e,ey,l⟩ | ⟨kvs,k,b,e,ey,eb,l⟩
 ·subst ey
  obtain ⟨z,hd,vs,rel,dd⟩:=kKQ I.hok e;refine wpAny_notIn_of (kGZ ry) hd dd.mapOf ?_;rw [<-(rel.val k).isSome_eq,<-l];exact h _ (I.tok _)
 ·subst ey
  cases (show u=ki b from ry)
  obtain ⟨z,hd,xs,rel,dd⟩:=kKP I.hok e;refine wpAny_notIn_heap (CM hu) (kAM I.hok eb) hd dd ?_;have q:=(rel.val k).isSome_eq;rw [Co] at q;rw [<-q,<-l];exact h _ (I.tok _)
theorem pM {h':gy} {t':Nat} {ob:HO} (I:Inv X pins σ H s) (mu:Mut (H a)) (hs:jd a s.heap h') (he:∃ q,h'.get? a=some q) (new:ObjOk X.prog X.w (upd H a ob) h' a ob) :
  Inv X pins σ (upd H a ob) { s with heap:=h',toks:=t' } :=
 I.write (x:=a) (e:=a) mu (.inl rfl) (λ b q hb z=>(hs.2 b hb).trans z) he new
theorem kMP {P:eo} {w:iD} {H':Hp} {h':gy} {kvs:List (Key×V)} {vs:List (Key×ar)} (z:kvs.length<=sizeLine) (hd:(a == sysModules)=false) (rel:KV kvs vs) (dd:h'.DictOf (qX P w) a vs) :
  ObjOk P w H' h' a (.dK kvs):=⟨z,hd,vs,rel,dd⟩
end
section
variable {X:Cx} {pins:List (av×Obj)} {σ:St} {H:Hp} {s:ay} {a:av} {kvs:List (Key×V)} {k:Key} {u:ar} {A:fb} {E:ar->ay->Prop}
end
def kIF (ty td:TE):TE:=λ σ H Q=>ty σ H λ y H1=>td σ H1 λ x H2=>∃ a o,x=.ref a/\DGet H2 a y o/\Q (.bl (!o.isSome)) H2
section
variable {X:Cx} {o i e value:iJ} {pos pos' tpos:Pos} {td ty tv:TE}
theorem kDE (hu:X.A.units+1<cLine) (hi:PE X i ty) (ho:PE X o td):PC X .NotIn i o (kIF ty td):=by
 intro pins s σ H Q I h;refine thn (hi pins s σ H _ I h) λ iv s1 ⟨y,H1,I1,ry,q1⟩=>thn (ho pins s1 σ H1 _ I1 q1) λ u s2 ⟨x,H2,I2,rx,a,ov,ex,g,q2⟩=>?_;subst ex;obtain rfl:u=ki a:=rx;exact kKA hu I2 g ry λ s3 I3=>⟨.bl (!ov.isSome),H2,I3,rfl,q2⟩
end
theorem kHP {P:eo} {w:iD} {H:Hp} (h:gy) (hb:sysModules<h.objs.size):ObjOk P w H (h.push { cls:=.type "dict",data:=.dict #[] }) h.objs.size (.dT []) :=
 ⟨gm _,beq_eq_false_iff_ne.mpr (uq (dc hb)),[],.nil,_,#[],0,cn _ rfl,⟨rfl,rfl,rfl⟩,rfl,rfl,yt⟩
def kLB:TE:=λ _ H Q=>∀ p,H p=none->Q (.ref p) (upd H p (.dT []))
section
variable {X:Cx} {pos:Pos}
theorem kGC:PE X (.Dict [] [] pos) kLB:=λ pins s σ H Q I h =>
 wpAny_Dict_empty ⟨.ref s.heap.objs.size,_,I.laid (a:=s.heap.objs.size) (o:=.dT []) (t':=s.toks) (λ _ _ q=>au _ q) (bq _) (kHP s.heap I.big),rfl,h _ (I.hok.fresh (bq _))⟩
end
section
variable {X:Cx} {pins:List (av×Obj)} {σ:St} {H:Hp} {s:ay} {a:av} {y d:V} {u r:ar} {o:Option V} {A:fb} {E:ar->ay->Prop}
end
section
variable {X:Cx} {o e f:iJ} {apos cpos:Pos} {td ty tx:TE}
end
section
variable {X:Cx} {pins:List (av×Obj)} {σ:St} {H:Hp} {s:ay} {a:av} {kvs:List (Key×V)} {A:fb} {E:ar->ay->Prop}
end
section
variable {X:Cx} {pins:List (av×Obj)} {σ:St} {H:Hp} {s:ay} {a:av} {y:V} {u:ar} {A:fb} {E:ar->ay->Prop}
end
section
variable {κ:Type} [DecidableEq κ]
end
end L2
namespace Own
open PySem PySem.Spec PyProof.Rows L2
def Has (P:eo) (w:iD) (K:cf) (mg:Str->Option ar) (base:gy) (x:Str) (ps:List Str) (k:Nat) (sp:Sp):Prop :=
 ∃ (f:av) (fd:ed),FnOk P w K mg base CX0 k f fd ps sp/\Binds K fd ps []/\dg K (.ref f)=true/\mg x=some (.ref f)
section
variable {X:Cx} {k:Nat} {ps:List Str} {sp:Sp} {x:Str} {p pos:Pos} {e:iJ} {es:List iJ} {t:TA}
theorem pe_has (h:Has X.prog X.w X.K X.mg X.base x ps k sp) (hr:Room k X.A) (hg:Gl X x)
  (ha:PA X (e::es) t) (hdb:(x == ("__debug__" : Str))=false:=by decide) (he:starEach (e::es) X.env=(false,eval e X.env)::starEach es X.env:=by rfl) (hpl:(backTo pos (starEach es X.env)).any (·.1)=false:=by rfl) :
  PE X (.Call (.Name x p) (e::es) [] pos) (kKJ sp [] E0 t):=by
 obtain ⟨f,fd,F,b,kp,m⟩:=h;exact kIW F hr hg m kp b .nil kNP ha hdb he hpl
end
section
variable {X:Cx}
theorem log2_lt {n:Nat} (h:n<2 ^ 9000):n.log2<9000:=by
 by_cases h0:n=0
 ·subst h0;decide
 ·exact (Nat.log2_lt h0).mpr h
theorem call_isi:xH X (.builtin "isinstance") (λ xs H Q=>∃ x t T b,xs=[x,.ty T]/\TyOf X.K H x t/\Ds X.K t (.type T)=some b/\Q (.bl b) H):=by
 intro pins s σ H xs us Q I r h;obtain ⟨x,t,T,b,rfl,ty,e,q⟩:=h;obtain ⟨u,w',rfl,r1,r2⟩:=mD r;cases r2
 exact kDW I r1 ty e λ tk=>⟨.bl b,H,I.tok _,rfl,q⟩
end
end Own
set_option maxHeartbeats 4000000
namespace L2
open PySem PySem.Spec PyProof.Rows
abbrev TB:=(St->Hp->Prop)->St->Hp->Prop
def PBd (X:Cx) (code:Sem Unit) (b:TB):Prop :=
 ∀ (pins:List (av×Obj)) (s:ay) (σ:St) (H:Hp) (N:St->Hp->Prop),Inv X pins σ H s->b N σ H ->
  eD (model X.prog X.w) X.A code (λ _ s'=>∃ σ' H',Inv X pins σ' H' s'/\N σ' H') X.xe s
def PTl (X:Cx) (tail:Sem ui) (L:Fn) (b:TB):Prop :=
 ∀ (pins:List (av×Obj)) (s:ay) (σ:St) (H:Hp) (N:St->Hp->Prop),Inv X pins σ H s->b N σ H ->
  eD (model X.prog X.w) X.A tail (λ fin s'=>fin=.again L/\∃ σ' H',Inv X pins σ' H' s'/\N σ' H') X.xe s
def yI (ifs:List iJ) (env:Env) (body:Sem Unit) (L:Fn):Sem ui :=
 (forIn ifs true λ c r=>if r=true then do let ok <-isTrue c env (eval c env);pure (iW ok) else pure (iW r)) >>= λ ok=>if ok=true then body >>= λ _=>again L else again L
def uW (J:It) (g:TG) (b:TB) (N0:St->Hp->Prop) (σ:St) (H:Hp):Prop :=
 ∃ W:Nat->Nat->St->Hp->Prop,(∃ m,W 0 m σ H)/\∀ i m σ H,W i m σ H ->
  (J.stop i H/\N0 σ H)\/(J.go i H/\∃ N:St->Hp->Prop,(∀ σ' H',N σ' H'->∃ m',m'<m/\W (i+1) m' σ' H')/\∀ x H',J.yld i H x H'->g x σ H' λ σ2 H2=>b N σ2 H2)
section
variable {X:Cx} {e tg:iJ} {gens:List Ax} {sc:qa} {cpos:Pos} {d:Nat} {it:av} {acc:ar} {tail:Sem ui} {p:Pos} {g:TG} {b:TB} {J:It} {fp:List av} {tn:Nat->gy->Prop} {N0:St->Hp->Prop} {R:Result->ay->Prop}
theorem zN (he:(∃ el,e=.ListComp el gens sc cpos)\/∃ k v,e=.DictComp k v gens sc cpos) (hx:X.xe=λ _ _=>False) (hc:X.calm=true)
  (ht:compTurn e d (.ref it) acc X.env=(standAt p >>= λ _=>pyNext (.ref it) >>= λ r=>match r with
   | none=>pure (.done .next)
   | some v=>letOwnedTupleGo tg (.ref it) v >>= λ _=>assign tg X.env v >>= λ _=>tail))
  (T:Turn X.prog X.w X.K tg J fp it tn) (hg:PG X tg g) (hb:PTl X tail (.compLoop e d (.ref it) acc X.env) b) {pins:List (av×Obj)} {σ:St} {H:Hp} {s:ay}
  (I:Inv X pins σ H s) (st:tn 0 s.heap) (f2:∀ b∈fp,zD X pins H b) (hw:uW J g b N0 σ H)
  (hR:∀ σ' H' s',Inv X pins σ' H' s'->N0 σ' H'->R (.ok .next) s') :
  codeAny (model X.prog X.w) X.A (.compLoop e d (.ref it) acc X.env) R s:=by
 obtain ⟨W,⟨m0,w0⟩,turn⟩:=hw;have stat:∀ {H':Hp},(∀ b∈fp,H' b=none)->∀ b∈fp,zD X pins H' b:=λ hn b hb=>⟨hn b hb,(f2 b hb).2⟩;refine codeAny_loop rfl (λ n s'=>∃ i σ' H',Inv X pins σ' H' s'/\tn i s'.heap/\(∀ b∈fp,H' b=none)/\W i n σ' H') ?_ m0 ⟨0,σ,H,I,st,λ b hb=>(f2 b hb).1,w0⟩;rintro n s3 ⟨i,σ3,H3,I3,st3,fr3,w3⟩
 have hden:(model X.prog X.w).den (.compLoop e d (.ref it) acc X.env)=((compTurn e d (.ref it) acc X.env).onRaise (λ x=>do noteFrame x X.env;theTreesLotGoes x))/\X.A.under (.compLoop e d (.ref it) acc X.env)=X.A:=by
  rcases he with ⟨el,rfl⟩ | ⟨k,v,rfl⟩<;>exact ⟨rfl,rfl⟩
 rw [hden.1,hden.2];show eD _ _ ((compTurn e d (.ref it) acc X.env).onRaise (λ x=>do noteFrame x X.env;theTreesLotGoes x)) _ _ s3;refine wpAny_noted ?_;rw [ht]
 have no:∀ {α:Type} {t:Sem α} {Q:α->ay->Prop} {E:ar->ay->Prop} {s:ay},eD (model X.prog X.w) X.A t Q X.xe s->eD (model X.prog X.w) X.A t Q E s :=
  λ h=>xy h (λ _ _ q=>q) λ _ _ q=>by rw [hx] at q;exact q.elim
 refine ae (ub (ae ?_));rcases turn i n σ3 H3 w3 with ⟨stop,qn⟩ | ⟨go,N,hN,step⟩
 ·refine no (thn (T.done X rfl rfl rfl hc i pins s3 σ3 H3 X.xe I3 (stat fr3) st3 stop) λ r s4 ⟨hr,I4⟩=>?_)
  subst hr;exact bx (hR _ _ _ I4 qn)
 ·refine no (thn (T.item X rfl rfl rfl hc i pins s3 σ3 H3 X.xe I3 (stat fr3) st3 go) λ r s4 ⟨u,hr,h4⟩=>?_)
  subst hr;refine ae (no (thn h4 λ _ s5 ⟨x,H5,I5,r5,y5,st5,fr5⟩=>?_));have I5':=I5.pinned (stat fr5) (T.obj _ _ st5);refine ae (no (thn (hg _ s5 σ3 H5 x u _ I5' r5 (step x H5 y5)) λ _ s6 ⟨σ6,H6,I6,q6⟩=>?_));refine no (thn (hb _ s6 σ6 H6 _ I6 q6) λ fin s7 ⟨hf,σ7,H7,I7,n7⟩=>?_);subst hf;obtain ⟨m',hm,w7⟩:=hN σ7 H7 n7;refine ⟨rfl,m',hm,i+1,σ7,H7,I7.unpinned,T.keep _ _ _ st5 λ b hb o e=>(I7.pin (b,o) (bu _ (bu _ (vG hb e)))).1,λ b hb=>?_,w7⟩;obtain ⟨o,e,d⟩:=T.obj _ _ st5 b hb;exact (I7.pin (b,o) (bu _ (bu _ (vG hb e)))).2.1
end
def bIf (t:TT) (b:TB):TB:=λ N σ H=>t σ H λ c H1=>if c=true then b N σ H1 else N σ H1
theorem yY {X:Cx} {body:Sem Unit} {L:Fn} {b:TB} (hb:PBd X body b):PTl X (yI [] X.env body L) L b:=by
 intro pins s σ H N I h;unfold yI;refine ae (Dd ?_);show eD _ _ (body >>= λ _=>again L) _ _ s;exact ae (thn (hb pins s σ H N I h) λ _ s' q=>bx ⟨rfl,q⟩)
theorem zR {X:Cx} {c:iJ} {t:TT} {body:Sem Unit} {L:Fn} {b:TB} (hc:PT X c t) (hb:PBd X body b):PTl X (yI [c] X.env body L) L (bIf t b):=by
 intro pins s σ H N I h;unfold yI;refine ae (wpAny_tests_one (thn (hc pins s σ H _ I h) λ ok s1 ⟨H1,I1,q⟩=>?_))
 cases ok with
 | true=>exact ae (thn (hb pins s1 σ H1 N I1 (by simpa using q)) λ _ s' q=>bx ⟨rfl,q⟩)
 | false=>exact bx ⟨rfl,σ,H1,I1,by simpa using q⟩
def kOI (D:av) (te:TE):TB:=λ N σ H=>te σ H λ x H1=>∃ xs,H1 D=some (.lst xs)/\xs.length<sizeLine/\N σ (upd H1 D (.lst (xs++[x])))
theorem yD {X:Cx} {el:iJ} {te:TE} {D:av} (he:PE X el te):PBd X (do let _ <-call (.builtin "list.append") [.ref D,<-eval el X.env]) (kOI D te):=by
 intro pins s σ H N I h;refine ae (thn (he pins s σ H _ I h) λ u s1 ⟨x,H1,I1,r,xs,hD,hz,q⟩=>?_);refine ae (thn (jX pins s1 σ H1 (.ref D) [x] (.ref D) [u] (λ _ H2=>N σ H2) I1 rfl (.cons r .nil) ⟨D,xs,x,rfl,rfl,hD,hz,q⟩) λ _ s2 ⟨_,H2,I2,_,q2⟩=>?_);exact bx ⟨σ,H2,I2,q2⟩
theorem nN (el tg iter:iJ) (ifs:List iJ) (sc:qa) (pos:Pos) (it acc:ar) (env:Env) :
  compTurn (.ListComp el [⟨tg,iter,ifs,0⟩] sc pos) 0 it acc env=(standAt iter.pos >>= λ _=>pyNext it >>= λ r=>match r with
   | none=>pure (.done .next)
   | some v=>letOwnedTupleGo tg it v >>= λ _=>assign tg env v >>= λ _=>yI ifs env (do let _ <-call (.builtin "list.append") [acc,<-eval el env]) (.compLoop (.ListComp el [⟨tg,iter,ifs,0⟩] sc pos) 0 it acc env)):=by rfl
def kFC (ifs:List iJ) (env:Env) (iter2:iJ) (next:ar->Fn) (L:Fn):Sem ui :=
 (forIn ifs true λ c r=>if r=true then do let ok <-isTrue c env (eval c env);pure (iW ok) else pure (iW r)) >>= λ ok=>if ok=true then
  (eval iter2 env >>= λ x=>standAt iter2.pos >>= λ _=>foldedSetIterable iter2 env x >>= λ x=>holding [x] (pyIter x) >>= λ i=>runOwn (next i) env >>= λ _=>again L) else again L
theorem kEY (el tg iter tg2 iter2:iJ) (ifs ifs2:List iJ) (sc:qa) (pos:Pos) (it acc:ar) (env:Env) :
  compTurn (.ListComp el [⟨tg,iter,ifs,0⟩,⟨tg2,iter2,ifs2,0⟩] sc pos) 0 it acc env=(standAt iter.pos >>= λ _=>pyNext it >>= λ r=>match r with
   | none=>pure (.done .next)
   | some v=>letOwnedTupleGo tg it v >>= λ _=>assign tg env v >>= λ _=>kFC ifs env iter2 (λ i=>.compStart (.ListComp el [⟨tg,iter,ifs,0⟩,⟨tg2,iter2,ifs2,0⟩] sc pos) 1 i acc env) (.compLoop (.ListComp el [⟨tg,iter,ifs,0⟩,⟨tg2,iter2,ifs2,0⟩] sc pos) 0 it acc env)):=by rfl
theorem kEX (el tg iter tg2 iter2:iJ) (ifs ifs2:List iJ) (sc:qa) (pos:Pos) (it acc:ar) (env:Env) :
  compTurn (.ListComp el [⟨tg,iter,ifs,0⟩,⟨tg2,iter2,ifs2,0⟩] sc pos) 1 it acc env=(standAt iter2.pos >>= λ _=>pyNext it >>= λ r=>match r with
   | none=>pure (.done .next)
   | some v=>letOwnedTupleGo tg2 it v >>= λ _=>assign tg2 env v >>= λ _=>yI ifs2 env (do let _ <-call (.builtin "list.append") [acc,<-eval el env]) (.compLoop (.ListComp el [⟨tg,iter,ifs,0⟩,⟨tg2,iter2,ifs2,0⟩] sc pos) 1 it acc env)):=by rfl
def vM (env:Env) (cs:List (Str×av)) (y:Str×kl):List (Str×av) :=
 if (y.2 == .free)=true then (match env.cells.lookup y.1 with | some c=>(y.1,c)::cs | none=>cs) else cs
def zF (sc:qa) (env:Env):List (Str×av):=sc.names.foldl (vM env) []
def pO (env:Env) (x:Str×kl) (r:List (Str×av)):Sem (ForInStep (List (Str×av))) :=
 match x with | (name,kind)=>if (kind == .free)=true then (do let a <-cellOf env name;pure (iW ((name,a)::r))) else pure (iW r)
theorem kEJ {env:Env} {y:Str×kl} {cs:List (Str×av)} (h:y.2=.free->∃ c,env.cells.lookup y.1=some c):pO env y cs=pure (iW (vM env cs y)):=by
 obtain ⟨n,k⟩:=y;unfold pO vM
 cases hk:k == xc with
 | false=>simp [hk]
 | true =>
  obtain ⟨c,hc⟩:=h (by simpa using hk);have hc':List.lookup n env.cells=some c:=hc;simp only [hk,if_true,cellOf,hc',pure_bind]
theorem lQ {env:Env}:∀ (l:List (Str×kl)) (cs:List (Str×av)),(∀ y∈l,y.2=.free->∃ c,env.cells.lookup y.1=some c) ->
  (forIn l cs (pO env):Sem (List (Str×av)))=pure (l.foldl (vM env) cs)
 | [],cs,_=>rfl
 | y::r,cs,h=>by
  rw [Ba,kEJ (h y eQ),pure_bind,ue];exact lQ r _ λ y hy=>h y (dj _ hy)
theorem wC {sc:qa} {env:Env} (h:∀ y∈sc.names,y.2=.free->∃ c,env.cells.lookup y.1=some c):closureFor sc env=pure (zF sc env):=by
 have q:=lQ (env:=env) sc.names [] h;have z:closureFor sc env=(forIn sc.names [] (pO env) >>= λ r=>pure r):=rfl;rw [z,q]
 rfl
theorem aB {env:Env} {x:Str} {c:av}:∀ (l:List (Str×kl)) (cs:List (Str×av)),(cs.lookup x=some c->env.cells.lookup x=some c)->(l.foldl (vM env) cs).lookup x=some c->env.cells.lookup x=some c
 | [],cs,h,e=>h e
 | (n,k)::r,cs,h,e=>by
  rw [ue] at e;refine aB r _ (λ z=>?_) e;unfold vM at z
  split at z
  ·split at z
   ·rename_i c' hc
    rw [qc] at z
    split at z
    ·rename_i hx
     have:x=n:=by simpa using hx
     subst this;cases z
     exact hc
    ·exact h z
   ·exact h z
  ·exact h z
theorem lS {env:Env} {x:Str}:∀ (l:List (Str×kl)) (cs:List (Str×av)),(∃ c,env.cells.lookup x=some c)->((∃ c,cs.lookup x=some c)\/(x,xc)∈l)->∃ c,(l.foldl (vM env) cs).lookup x=some c
 | [],cs,_,h=>h.elim id (λ z=>nomatch z)
 | (n,k)::r,cs,he,h=>by
  rw [ue];refine lS r _ he ?_;rcases h with ⟨c,h⟩ | h
  ·left
   unfold vM
   split
   ·split
    ·rename_i c' hc
     rw [qc]
     split
     ·exact ⟨_,rfl⟩
     ·exact ⟨c,h⟩
    ·exact ⟨c,h⟩
   ·exact ⟨c,h⟩
  ·rcases du.mp h with z | z
   ·cases z
    obtain ⟨c,hc⟩:=he
    left
    refine ⟨c,?_⟩;unfold vM;simp [hc]
   ·exact .inr z
structure CS (sc S0:qa):Prop where
 kind:sc.kind=.function
 names:∀ y∈sc.names,y.2=.local->sc.names.lookup y.1=some .local
 nocell:∀ y∈sc.names,y.2≠.cell
 free:∀ y∈sc.names,y.2=.free->S0.names.lookup y.1=some .cell
def xE (env:Env) (y:Str×kl):Str×kl:=if (y.2 == .free && env.scope.kind == .function && env.kindOf y.1 == some .cell)=true then (y.1,.cell) else (y.1,y.2)
theorem tT (env:Env) (y:Str×kl):(xE env y).1=y.1:=by
 unfold xE
 split<;>rfl
theorem vY {env:Env} {x:Str}:∀ (l:List (Str×kl)),(l.map (xE env)).lookup x=(l.lookup x).map λ k=>(xE env (x,k)).2
 | []=>rfl
 | (n,k)::r=>by
  rw [ft];have e:xE env (n,k)=(n,(xE env (n,k)).2):=qk (tT env (n,k)) rfl;rw [e,qc,qc]
  cases hx:x == n with
  | true =>
   have:x=n:=by simpa using hx
   subst this
   rfl
  | false=>exact vY r
def cxC (X:Cx) (Nc:List Str) (sc:qa) (C:av) (s₂:ay) (H₂:Hp) (fp:List av) (pins:List (av×Obj)):Cx :=
 { X with N:=Nc,s₀:=s₂,H₀:=H₂,env:=compEnvC sc (zF sc X.env) C X.env,outer:=X.stack,ex:=fp,fn:=λ _=>false,pn:=X.pn++pins }
def uG (js:List (Option Nat)) (σ:St):St:=js.map λ o=>o.bind λ j=>(σ[j]?).join
def cD (js:List (Option Nat)) (Nc N:List Str) (names:List (Str×kl)):Bool :=
 decide (js.length=Nc.length) && (js.zip Nc).all λ (o,x)=>match o with | none=>true | some j=>decide (N[j]?=some x) && decide (names.lookup x=some .free)
theorem kHU {js:List (Option Nat)} {Nc N:List Str} {names:List (Str×kl)} (h:cD js Nc N names=true):js.length=Nc.length/\∀ (i j:Nat) (x:Str),js[i]?=some (some j)->Nc[i]?=some x->N[j]?=some x/\names.lookup x=some .free:=by
 unfold cD at h;rw [eZ] at h;refine ⟨of_decide_eq_true h.1,λ i j x e1 e2=>?_⟩
 have z:(js.zip Nc)[i]?=some (some j,x):=by
  rw [mq];exact ⟨e1,e2⟩
 have q:=sh.mp h.2 _ (eg z);dsimp only at q;rw [eZ] at q;exact ⟨of_decide_eq_true q.1,of_decide_eq_true q.2⟩
section
variable {X:Cx} {pins:List (av×Obj)} {σ:St} {H:Hp} {s:ay} {sc:qa} {Nc:List Str} {js:List (Option Nat)} {fp:List av}
theorem kJD (I:Inv X pins σ H s) (S:CS sc X.env.scope) (f:∀ b∈fp,zD X pins H b) (hlt:∀ b∈fp,b<s.heap.objs.size) {C:av} (hC:s.heap.objs.size<=C):(cxC X Nc sc C s H fp pins).Ok:=by
 have inX:∀ x c,(zF sc X.env).lookup x=some c->X.env.cells.lookup x=some c:=λ x c e=>aB sc.names [] (λ z=>nomatch z) e;refine ⟨I.ok.mod,S.kind,I.ok.glob,I.ok.blt,hC,λ x y c e1 e2=>I.ok.inj x y c (inX x c e1) (inX y c e2),λ x hx=>?_,λ x c z=>(nomatch z),I.ok.hd,I.ok.frames,.inl rfl,λ b hb=>⟨?_,λ x c e=>(f b hb).2.2.2.2.1 x c (inX x c e)⟩,I.bs,iA I.ok.bsz I.sz,λ b o e hb=>?_,λ b hb hs=>?_,I.stack,I.stkFree⟩
 ·have hx':(sc.names.map (xE X.env)).lookup x=some .cell\/(sc.names.map (xE X.env)).lookup x=some .free:=hx
  rw [vY] at hx'
  cases e:sc.names.lookup x with
  | none=>rw [e] at hx';rcases hx' with z | z<;>cases z
  | some k =>
   rw [e] at hx';have m:(x,k)∈sc.names:=iQ e
   have kf:k=.free:=by
    have nk:=S.nocell _ m;unfold xE at hx';by_cases hk:(k == xc)=true
    ·simpa using hk
    ·have hk':(k == xc)=false:=by simpa using hk
     simp only [hk',Bm,ph] at hx';rcases hx' with z | z
     ·exact absurd (by simpa using z) nk
     ·simpa using z
   subst kf;have hx2:=S.free _ m rfl;obtain ⟨c,hc⟩:=I.ok.has x (.inl hx2);exact lS sc.names [] ⟨c,hc⟩ (.inr m)
 ·exact dc (cj (hlt b hb) hC)
 ·obtain ⟨h0,h1,h2,h3,h4,h5⟩:=f b hb
  rcases h3 with z | z
  ·exact I.ok.noex b o e z
  ·exact absurd (cj (cm (I.ok.bs b o e).1) z) (jv _)
 ·obtain ⟨h0,h1,h2,h3,h4,h5⟩:=f b hb
  rcases du.mp (I.stkSub b hs) with z | z
  ·exact h1 z
  ·exact h2 z
theorem bP (I:Inv X pins σ H s) (S:CS sc X.env.scope) (f:∀ b∈fp,zD X pins H b) (hlt:∀ b∈fp,b<s.heap.objs.size) (cap:cD js Nc X.N sc.names=true) {C D:av} {o:HO} {h₁:gy} {m:Str->Option ar} {tk:Nat}
  (hC:s.heap.objs.size<=C) (hD:s.heap.objs.size<=D) (hDC:D≠C) (hk:∀ b ob,s.heap.get? b=some ob->h₁.get? b=some ob) (hns:h₁.Ns C m) (new:ObjOk X.prog X.w (upd H D o) h₁ D o) :
  Inv (cxC X Nc sc C s H fp pins) [] (uG js σ) (upd H D o) { s with heap:=h₁,toks:=tk }:=by
 have inX:∀ x c,(zF sc X.env).lookup x=some c->X.env.cells.lookup x=some c:=λ x c e=>aB sc.names [] (λ z=>nomatch z) e;have fresh:∀ a,s.heap.objs.size<=a->H a=none:=λ a ha=>I.hok.fresh ha;obtain ⟨cl,cp⟩:=kHU cap;refine ⟨kJD I S f hlt hC,rfl,I.bare,Un.laid hk hD (fresh D hD),⟨m,hns,λ i x v e1 e2 e3=>?_⟩,λ x c e=>?_,?_,λ x c e=>?_,λ p hp=>?_,I.hok.laid hk hD new,?_⟩
 ·-- a name of the frame's
  unfold uG at e2;rw [bh] at e2
  cases ej:js[i]? with
  | none=>rw [ej] at e2;cases e2
  | some oj =>
   rw [ej] at e2
   cases oj with
   | none=>cases e2
   | some j =>
    obtain ⟨hN,hfree⟩:=cp i j x ej e1
    have hv:σ[j]?=some (some v):=by
     simp only [ph,DJ,Cp] at e2
     cases e:σ[j]? with
     | none=>rw [e] at e2;cases e2
     | some w=>rw [e] at e2;exact congrArg some e2
    have kc:X.env.kindOf x=some .cell:=S.free _ (iQ hfree) rfl;obtain ⟨m',hn',hl⟩:=I.loc;obtain ⟨u,r,lk⟩:=hl j x v hN hv (.inr (.inl kc));refine ⟨u,r,.inr ⟨.inl ?_,?_⟩⟩
    ·show (sc.names.map (xE X.env)).lookup x=some .cell
     rw [vY,hfree];unfold xE;simp [I.ok.kind,kc]
    ·rcases lk with ⟨z,_⟩ | ⟨_,c,hc,ic⟩
     ·rw [kc] at z;cases z
     ·obtain ⟨c',hc'⟩:=lS sc.names [] ⟨c,hc⟩ (.inr (iQ hfree))
      have:c'=c:=bj ((inX x c' hc').symm.trans hc);subst this;exact ⟨c',hc',ic.keeps hk⟩
 ·obtain ⟨v,ic⟩:=I.cell x c (inX x c e)
  exact ⟨v,ic.keeps hk⟩
 ·show upd H D o C=none
  rw [kO hDC.symm];exact fresh C hC
 ·have q:=inX x c e
  obtain ⟨v,ic⟩:=I.cell x c q;show upd H D o c=none;rw [kO (dc (cj ic.lt hD))];exact I.freeC x c q
 ·have hp':p∈X.pn++pins:=by
   rcases bz.mp hp with z | z
   ·exact z
   ·exact absurd z (by simp)
  obtain ⟨a1,a2,a3,a4,a5⟩:=I.pin p hp';have lt:=cm a1;refine ⟨hk _ _ a1,?_,dc (cj lt hC),λ z=>?_,a5⟩
  ·rw [kO (dc (cj lt hD))]
   exact a2
  ·rcases du.mp (I.stkSub _ z) with z | z
   ·exact a3 z
   ·exact a4 z
 ·unfold uG
  rw [ao];exact cl
theorem bQ {C:av} {σ':St} {H':Hp} {s':ay} {h':gy} (I:Inv X pins σ H s) (f:∀ b∈fp,zD X pins H b) (hC:s.heap.objs.size<=C) (J:Inv (cxC X Nc sc C s H fp pins) [] σ' H' s') (hs:jd C s'.heap h') :
  Inv X pins σ H' { s' with heap:=h' }:=by
 have u:=J.base;have nC:H' C=none:=J.free;have stay:∀ b ob,b≠C->s'.heap.get? b=some ob->h'.get? b=some ob:=λ b ob hb e=>hs.extBut b ob hb e;have neC:∀ b ob,s.heap.get? b=some ob->b≠C:=λ b ob e=>dc (cj (cm e) hC);refine I.call' (ch:=fp) J.os ?_ (λ b v e=>?_) J.bare λ b hb=>⟨(f b hb).2.2.2.1,(f b hb).2.1,(f b hb).2.2.2.2.1,(f b hb).2.2.2.2.2⟩
 ·refine ⟨λ b ob e n h1 h2=>stay b ob (neC b ob e) (u.keep b ob e n h1 h2),λ b ob e n h1 h2=>?_,u.free,λ b ob e h2=>?_,u.tups,u.frzs,u.tbls⟩
  ·obtain ⟨sl,q⟩:=u.slot b ob e n h1 h2
   exact ⟨sl,stay b _ (neC b ob e) q⟩
  ·obtain ⟨o',q⟩:=u.there b ob e h2
   exact ⟨o',stay b _ (neC b ob e) q⟩
 ·have nb:∀ c w,H' c=some w->c≠C:=λ c w e z=>by rw [z,nC] at e;cases e
  refine (J.hok b v e).stay (λ c w hc q=>stay c w ?_ q) (λ _ q=>q) λ _ _ q=>q;rcases hc with z | z
  ·rw [z];exact nb b v e
  ·exact nb c _ z
end
section
variable {X:Cx} {e tg iter el:iJ} {ifs:List iJ} {gens rest:List Ax} {sc:qa} {pos:Pos} {Nc:List Str} {js:List (Option Nat)} {wi:TI}
theorem yV {prog:eo} {w:iD} {A:fb} {env:Env} {R:Result->ay->Prop} {s:ay} {d:Nat} {it acc:ar} {g:Ax} (he:(∃ el,e=.ListComp el gens sc pos)\/∃ k v,e=.DictComp k v gens sc pos)
  (hg:(clausesOf e)[d]?=some g) (ha:g.is_async=0)
  (h0:codeAny (model prog w) A (.compLoop e d it acc env) R s)
  (h:eD (model prog w) A (pyIter it) (λ it' s'=>codeAny (model prog w) A (.compLoop e d it' acc env) R s') (λ _ _=>False) s) :
  codeAny (model prog w) A (.compStart e d it acc env) R s:=by
 refine De ?_
 have hden:(model prog w).den (.compStart e d it acc env)=((compStart e d it acc env).onRaise (λ x=>do noteFrame x env;standAt theWindowsPlace))/\A.under (.compStart e d it acc env)=A:=by
  rcases he with ⟨el,rfl⟩ | ⟨k,v,rfl⟩<;>exact ⟨rfl,rfl⟩
 have hq:∀ d it acc,(Code.compLoop e d it acc env).quiet=true:=λ _ _ _=>rfl;rw [hden.1,hden.2];refine wpAny_notedAt ?_;unfold compStart;rw [hg];have hz:((some g).elim false λ x=>x.is_async != 0)=false:=by show (g.is_async != 0)=false;rw [ha];rfl
 rw [hz];show eD _ _ (ask >>= _) _ _ s;refine ae (wpAny_askSetting (wpAny_ite ?_))
 split
 ·first
   | exact ae (bx (bx (Ez rfl h0)))
   | exact bx (Ez rfl h0)
 ·refine ae (vy ?_)
  show eD _ _ (standAt g.iter.pos >>= _) _ _ s;exact ae (ub (ae (xy h (λ it' s' h'=>bx (Ez rfl h')) λ _ _ x=>x.elim)))
def tLC (js:List (Option Nat)) (wi:TI) (g:TG) (bd:av->TB):TE:=λ σ H Q=>wi σ H λ J H1=>∀ D,H1 D=none->uW J g (bd D) (λ _ H'=>Q (.ref D) H') (uG js σ) (upd H1 D (.lst []))
theorem wE {g:TG} {bd:av->TB} (hx:X.xe=λ _ _=>False) (hc:X.calm=true) (hi:PI X tg iter wi) (S:CS sc X.env.scope) (cap:cD js Nc X.N sc.names=true)
  (hg:∀ C s₂ H₂ fp pins,PG (cxC X Nc sc C s₂ H₂ fp pins) tg g)
  (hb:∀ C s₂ H₂ fp pins D L,PTl (cxC X Nc sc C s₂ H₂ fp pins) (yI ifs (cxC X Nc sc C s₂ H₂ fp pins).env (do let _ <-call (.builtin "list.append") [.ref D,<-eval el (cxC X Nc sc C s₂ H₂ fp pins).env]) L) L (bd D))
  (hs:∀ x,foldedSetIterable iter X.env x=pure x:=by intro _;rfl) :
  PE X (.ListComp el [⟨tg,iter,ifs,0⟩] sc pos) (tLC js wi g bd):=by
 intro pins s σ H Q I h;rw [eval_ListComp];have hcl:closureFor sc X.env=pure (zF sc X.env):=wC λ y hy hf=>I.ok.has y.1 (.inl (S.free y hy hf));refine om (use:=none) rfl hs hcl S.kind S.names (thn (hi pins s σ H _ I h) λ v s1 h1=>thn h1 λ itv s2 h2=>?_);obtain ⟨it,fp,tn,J,H2,e,I2,T,st2,f2,hw⟩:=h2;subst e;have hlt:∀ b∈fp,b<s2.heap.objs.size:=λ b hb=>let ⟨o,ho,_⟩:=T.obj _ _ st2 b hb;cm ho;refine iX (wa S.nocell (by intro y hy;simp at hy) (λ h₁ hns₁ hsb₁=>?_) S.kind);dsimp only at hns₁ hsb₁ ⊢;generalize hH2:s2.heap.push { cls:=.type "list",dict:=none,data:=.seq ([]:List ar).toArray }=G at hns₁ hsb₁ ⊢;have hCs:G.objs.size=s2.heap.objs.size+1:=by rw [<-hH2,iu]
 have hDC:s2.heap.objs.size≠G.objs.size:=by omega
 have hCle:s2.heap.objs.size<=G.objs.size:=by omega
 have old:∀ b o,s2.heap.get? b=some o->h₁.get? b=some o:=λ b o e=>hsb₁.extBut b o (dc (cj (cm e) hCle)) (au _ (hH2 ▸ au _ e));have hacc:h₁.get? s2.heap.objs.size=some { cls:=.type "list",dict:=none,data:=.seq ([]:List ar).toArray }:=hsb₁.extBut _ _ hDC (au _ (hH2 ▸ cn _ rfl));have new:ObjOk X.prog X.w (upd H2 s2.heap.objs.size (.lst [])) h₁ s2.heap.objs.size (.lst []):=⟨gm _,[],_,.nil,hacc⟩;have I4:=bP (js:=js) (Nc:=Nc) (tk:=s2.toks+([]:List (Str×ar)).length) I2 S f2 hlt cap hCle (bq _) hDC old hns₁ new;have hn:H2 s2.heap.objs.size=none:=I2.fresh
 have f4:∀ b∈fp,zD (cxC X Nc sc G.objs.size s2 H2 fp pins) [] (upd H2 s2.heap.objs.size (.lst [])) b:=λ b hb=>by
  obtain ⟨h0,h1,h2,h3,h4,h5⟩:=f2 b hb;refine ⟨?_,dc (cj (hlt b hb) hCle),λ z=>?_,.inl hb,λ x c z=>?_,λ p hp=>?_⟩
  ·rw [kO (dc (hlt b hb))];exact h0
  ·rcases du.mp (I2.stkSub b z) with q | q
   ·exact h1 q
   ·exact h2 q
  ·exact h4 x c (aB sc.names [] (λ z=>nomatch z) z)
  ·rcases bz.mp hp with z | z
   ·exact h5 p z
   ·exact absurd z (by simp)
 have st4:tn 0 h₁:=T.keep _ _ _ st2 λ b hb o e=>old b o e
 have loop:codeAny (model X.prog X.w) X.A (.compLoop (.ListComp el [⟨tg,iter,ifs,0⟩] sc pos) 0 (.ref it) (.ref s2.heap.objs.size) (compEnvC sc (zF sc X.env) G.objs.size X.env))
   (compPost (model X.prog X.w) X.A X.xe none (EP X pins σ Q) (.ref s2.heap.objs.size) G.objs.size) { s2 with heap:=h₁,toks:=s2.toks+([]:List (Str×ar)).length }:=by
  refine zN (X:=cxC X Nc sc G.objs.size s2 H2 fp pins) (.inl ⟨el,rfl⟩) hx hc (nN _ _ _ _ _ _ _ _ _) T (hg _ _ _ _ _) (hb _ _ _ _ _ _ _) I4 st4 f4 (hw _ hn) λ σ' H' s' I' q=>?_;obtain ⟨m',hm',_⟩:=I'.loc;exact ⟨m',hm',λ h' hs'=>⟨.ref s2.heap.objs.size,H',bQ I2 f2 hCle I' hs',rfl,q⟩⟩
 exact yV (.inl ⟨el,rfl⟩) rfl rfl loop (T.self _ _ _ _ _ st4 loop)
end
section
variable {X:Cx}
def kIN:V->List V->Hp->VK->Prop:=λ x vs H Q=>∃ l xs i y,x=.ref l/\vs=[.int i,y]/\H l=some (.lst xs)/\0<=i/\i<2 ^ 62/\xs.length<sizeLine/\Q .non (upd H l (.lst (xs.take i.toNat++y::xs.drop i.toNat)))
theorem cZ:MtM X "list.insert" kIN:=by
 intro pins s σ H x vs v us Q I rx rv h;obtain ⟨l,xs,i,y,rfl,rfl,hH,h1,h2,hz,q⟩:=h;cases rx
 obtain ⟨u,w,rfl,⟨t,rfl⟩,rw'⟩:=rv.two;obtain ⟨z,its,n,r,hl,e⟩:=I.lstM hH
 refine Aa F.slot_list_insert ⟨_,e,rfl⟩ F.entry_list_insert (F.args_list_insert_3 _ _ _)
  (AutoSeq1.list_insert_list_int_val_1 l its.toArray n i t w (by rw [Dz (by omega) (by omega)];decide) (by rw [eV];omega)) ⟨e,?_⟩
 refine ⟨.non,_,I.lset (its':=its.take i.toNat++w::its.drop i.toNat) hH e ?_ ((r.take i.toNat).append (.cons rw' (r.drop i.toNat))) ?_,rfl,q⟩
 ·have hi:¬ i<0:=by omega
  simp only [hi,if_false,eV];apply Array.toList_inj.mp;simp;by_cases hc:i.toNat<=its.length
  ·rw [iq hc,gn (l:=FA i.toNat its) (by rw [iP];omega)]
  ·have hc':its.length<=i.toNat:=by omega
   rw [Nat.min_eq_right hc',gn (bq _),gn hc',jl (bq _),jl hc',List.take_nil]
 ·simp only [cg,eK,eX,iP]
  omega
def fO (ns:List Int) (n:Int) (j:Nat):Prop:=ns[j]?=some n/\∀ m:Nat,m<j->ns[m]?≠some n
theorem wK {ns:List Int} {its:List ar} (r:Vals (ns.map V.int) its) {m:Nat} (hm:m<its.length):∃ k t,ns[m]?=some k/\its[m]=qz k t:=by
 have hl:=r.length;rw [ao] at hl;have hk:m<ns.length:=by omega
 obtain ⟨u,hu,q⟩:=r.get (i:=m) (x:=.int ns[m]) (by rw [bh,aa hk];rfl);obtain ⟨t,rfl⟩:=q;refine ⟨ns[m],t,aa hk,?_⟩;rw [aa hm] at hu;exact bj hu
def lM (n:Int) (v:ar):Bool:=match v with | .int k _=>k == n | _=>false
theorem aX {ns:List Int} {its:List ar} (r:Vals (ns.map V.int) its) (n:Int) (t:Tok):∀ y,y∈its.toArray->MeetsSeq.EqGives y (.int n t) (lM n y):=λ y hy=>by
 obtain ⟨m,hm,rfl⟩:=eU.mp (List.mem_toArray.mp hy);obtain ⟨k,t',_,e⟩:=wK r hm;rw [e];exact FW _ _ _ _
theorem nE {ns:List Int} {its:List ar} (r:Vals (ns.map V.int) its) {n:Int} {j:Nat} (h:fO ns n j):∃ hj:j<its.toArray.size,lM n its.toArray[j]=true/\∀ m (hm:m<its.toArray.size),m<j->lM n its.toArray[m]=false:=by
 have hl:=r.length;rw [ao] at hl;have hj:j<ns.length:=(aq.mp h.1).1;have hj':j<its.length:=by omega
 refine ⟨by rw [eV];exact hj',?_,λ m hm hlt=>?_⟩
 ·obtain ⟨k,t,e1,e2⟩:=wK r hj'
  rw [h.1] at e1;cases e1
  simp [e2,lM]
 ·rw [eV] at hm
  obtain ⟨k,t,e1,e2⟩:=wK r hm;have:k≠n:=λ z=>h.2 m hlt (by rw [e1,z]);simp [e2,lM,this]
def kLK:V->List V->Hp->VK->Prop:=λ x vs H Q=>∃ (l:av) (ns:List Int) (n:Int) (j:Nat),x=.ref l/\vs=[.int n]/\H l=some (.lst (ns.map V.int))/\fO ns n j/\Q (.int j) H
theorem zW:MtM X "list.index" kLK:=by
 intro pins s σ H x vs v us Q I rx rv h;obtain ⟨l,ns,n,j,rfl,rfl,hH,hj,q⟩:=h;cases rx
 obtain ⟨u,rfl,t,rfl⟩:=rv.one;obtain ⟨z,its,m,r,hl,e⟩:=I.lstM hH;obtain ⟨h1,h2,h3⟩:=nE r hj
 have hs:(j:Int)<2 ^ 63-1:=by
  have:=dC;rw [eV] at h1;omega
 refine Aa F.slot_list_index ⟨_,e,rfl⟩ F.entry_list_index (F.args_list_index_2 _ _) (MeetsSeq.list_index l its.toArray m (.int n t) (lM n) (aX r n t) j h1 hs h2 h3) ⟨e,?_⟩;exact ⟨.int j,H,I.tok _,⟨_,rfl⟩,q⟩
end
theorem fR {lo:Int} {n:Nat} {g:TG} {b:TB} {N0:St->Hp->Prop} {σ:St} {H:Hp} (Pv:Nat->St->Hp->Prop) (h0:Pv 0 σ H)
  (hs:∀ i σ H,i<n->Pv i σ H->g (.int (lo+i)) σ H λ σ2 H2=>b (Pv (i+1)) σ2 H2) (hd:∀ σ H,Pv n σ H->N0 σ H):uW (Itr lo n) g b N0 σ H:=by
 refine ⟨λ i m σ H=>m=n-i/\i<=n/\Pv i σ H,⟨n,by simp,gm _,h0⟩,?_⟩;rintro i m σ H ⟨rfl,hle,p⟩;by_cases hi:i<n
 ·refine .inr ⟨hi,Pv (i+1),λ σ' H' q=>⟨n-(i+1),by omega,rfl,by omega,q⟩,λ x H' hy=>?_⟩
  obtain ⟨rfl,rfl⟩:=hy;exact hs i σ _ hi p
 ·have:i=n:=by omega
  subst this;exact .inl ⟨bq _,hd σ H p⟩
theorem xM {K:cf} {a:av} {xs:List V} {g:TG} {b:TB} {N0:St->Hp->Prop} {σ:St} {H:Hp} (Pv:Nat->St->Hp->Prop) (h0:Pv 0 σ H) (hl:∀ i σ H,i<=xs.length->Pv i σ H->SqL K H a xs)
  (hs:∀ i x σ H,xs[i]?=some x->Pv i σ H->g x σ H λ σ2 H2=>b (Pv (i+1)) σ2 H2) (hd:∀ σ H,Pv xs.length σ H->N0 σ H):uW (Itl K a) g b N0 σ H:=by
 refine ⟨λ i m σ H=>m=xs.length-i/\i<=xs.length/\Pv i σ H,⟨xs.length,by simp,gm _,h0⟩,?_⟩;rintro i m σ H ⟨rfl,hle,p⟩;by_cases hi:i<xs.length
 ·refine .inr ⟨⟨xs,xs[i],hl i σ H hle p,by simp [hi]⟩,Pv (i+1),λ σ' H' q=>⟨xs.length-(i+1),by omega,rfl,by omega,q⟩,λ x H' hy=>?_⟩
  obtain ⟨rfl,hy⟩:=hy;exact hs i x σ _ (hy xs (hl i σ _ hle p)) p
 ·have:i=xs.length:=by omega
  subst this;exact .inl ⟨⟨xs,hl _ σ H hle p,bq _⟩,hd σ H p⟩
theorem fQ {K:cf} {a:av} {xs:List V} {g:TG} {b:TB} {N0:St->Hp->Prop} {σ:St} {H:Hp} (Pv:Nat->St->Hp->Prop) (h0:Pv 0 σ H) (hl:∀ i σ H,i<=xs.length->Pv i σ H->SqT K H a xs)
  (hs:∀ i x σ H,xs[i]?=some x->Pv i σ H->g x σ H λ σ2 H2=>b (Pv (i+1)) σ2 H2) (hd:∀ σ H,Pv xs.length σ H->N0 σ H):uW (Itt K a) g b N0 σ H:=by
 refine ⟨λ i m σ H=>m=xs.length-i/\i<=xs.length/\Pv i σ H,⟨xs.length,by simp,gm _,h0⟩,?_⟩;rintro i m σ H ⟨rfl,hle,p⟩;by_cases hi:i<xs.length
 ·refine .inr ⟨⟨xs,xs[i],hl i σ H hle p,by simp [hi]⟩,Pv (i+1),λ σ' H' q=>⟨xs.length-(i+1),by omega,rfl,by omega,q⟩,λ x H' hy=>?_⟩
  obtain ⟨rfl,hy⟩:=hy;exact hs i x σ _ (hy xs (hl i σ _ hle p)) p
 ·have:i=xs.length:=by omega
  subst this;exact .inl ⟨⟨xs,hl _ σ H hle p,bq _⟩,hd σ H p⟩
section
variable {prog:eo} {w:iD} {A:fb} {E:ar->ay->Prop}
end
section
variable {X:Cx} {pos:Pos}
theorem pQ:xH X (.builtin "divmod") (λ xs H Q=>∃ i j:Int,xs=[.int i,.int j]/\(0<j/\j.natAbs<2 ^ 9000)/\∀ p,H p=none->Q (.ref p) (upd H p (.tup [.int (i / j),.int (i % j)]))):=by
 intro pins s σ H xs us Q I r h;obtain ⟨i,j,rfl,⟨h1,h2⟩,q⟩:=h;obtain ⟨u,w',rfl,⟨t,rfl⟩,⟨t',rfl⟩⟩:=mD r;refine divmod_int (by omega) ?_ (.inl (PyProof.noPylong_of_log2 (Own.log2_lt h2)));rw [AR i (by omega),AU i (by omega)];have hn:H s.heap.objs.size=none:=I.hok.fresh (bq _);refine ⟨.ref s.heap.objs.size,_,?_,rfl,q _ hn⟩;refine I.laid (λ b o e=>au _ e) (bq _) ⟨by simp only [eX,ir];rw [Ak];decide,[.int (i / j) s.toks,.int (i % j) (s.toks+1)],.cons ⟨_,rfl⟩ (.cons ⟨_,rfl⟩ .nil),?_⟩;exact ⟨_,cn s.heap rfl,rfl,0,rfl,rfl⟩
theorem uO:∀ {ns:List Int} {its:List ar},Vals (ns.map V.int) its->Bv its ns
 | [],_,r=>by cases r;exact .nil
 | n::ns,_,r=>by
  cases r with
  | cons r1 r2 =>
   obtain ⟨t,rfl⟩:=r1;exact .cons n t (uO r2)
end
mutual
def Dt (K:cf) (H:Hp):BQ->V->Prop
 | .none,v=>v=.non
 | .bool b,v=>v=.bl b
 | .int i,v=>v=.int i
 | .str x,v=>v=.str x
 | .tuple xs,v=>∃ a vs,v=.ref a/\SqT K H a vs/\DtAll K H xs vs
 | .list xs,v=>∃ a vs,v=.ref a/\SqL K H a vs/\DtAll K H xs vs
 | .dict _,_=>False
def DtAll (K:cf) (H:Hp):List BQ->List V->Prop
 | [],vs=>vs=[]
 | d::ds,vs=>∃ v vr,vs=v::vr/\Dt K H d v/\DtAll K H ds vr
end
section
variable {X:Cx} {pins:List (av×Obj)} {σ:St} {H:Hp} {s:ay}
mutual
theorem Dt.reads (I:Inv X pins σ H s):∀ (d:BQ) (v:V) (u:ar),RelV v u->Dt X.K H d v->∃ as,Reads s.heap u d as
 | .none,v,u,r,h=>by unfold Dt at h;subst h;cases r;exact ⟨_,.none⟩
 | .bool b,v,u,r,h=>by unfold Dt at h;subst h;cases r;exact ⟨_,.bool b⟩
 | .int i,v,u,r,h=>by unfold Dt at h;subst h;obtain ⟨t,rfl⟩:=r;exact ⟨_,.int i t⟩
 | .str x,v,u,r,h=>by unfold Dt at h;subst h;obtain ⟨t,rfl⟩:=r;exact ⟨_,.str x t⟩
 | .tuple xs,v,u,r,h=>by
  unfold Dt at h;obtain ⟨a,vs,rfl,hs,hd⟩:=h;cases r
  obtain ⟨its,rv,⟨o,e1,e2,n,e3⟩,hz⟩:=I.tuple hs;obtain ⟨as,ra⟩:=DtAll.reads I xs vs its rv hd;exact ⟨_,.tuple e1 e2 e3 (by simpa using ra)⟩
 | .list xs,v,u,r,h=>by
  unfold Dt at h;obtain ⟨a,vs,rfl,hs,hd⟩:=h;cases r
  obtain ⟨its,rv,ht,hz⟩:=I.list hs;obtain ⟨as,ra⟩:=DtAll.reads I xs vs its rv hd;obtain ⟨o,e1,e2,n,e3⟩:=ht.isList;exact ⟨_,.list e1 e2 e3 (by simpa using ra)⟩
 | .dict _,v,u,r,h=>by unfold Dt at h;exact h.elim
theorem DtAll.reads (I:Inv X pins σ H s):∀ (ds:List BQ) (vs:List V) (us:List ar),Vals vs us->DtAll X.K H ds vs->∃ as,ReadsAll s.heap us ds as
 | [],vs,us,r,h=>by unfold DtAll at h;subst h;cases r;exact ⟨_,.nil⟩
 | d::ds,vs,us,r,h=>by
  unfold DtAll at h;obtain ⟨v,vr,rfl,h1,h2⟩:=h
  cases r with
  | cons r1 r2 =>
   obtain ⟨as,q1⟩:=Dt.reads I d v _ r1 h1;obtain ⟨bs,q2⟩:=DtAll.reads I ds vr _ r2 h2;exact ⟨_,.cons q1 q2⟩
end
end
section
variable {X:Cx}
def kNM (K:cf) (neg:Bool):R2:=λ x y H Q=>∃ d e,Dt K H d x/\Dt K H e y/\mj d=true/\mj e=true/\Q (.bl (if neg then !PyData.eqv d e else iw d e)) H
theorem kAB (hu:X.A.units+64<cLine):OpR X (compareOp .Eq) (kNM X.K false):=by
 intro pins s σ H x y v u Q I rx ry h;obtain ⟨d,e,h1,h2,s1,s2,q⟩:=h;obtain ⟨as,p1⟩:=Dt.reads I d x v rx h1;obtain ⟨bs,p2⟩:=Dt.reads I e y u ry h2;exact SeqAt.compareEq_shaped p1 p2 s1 s2 hu ⟨.bl _,H,I,rfl,q⟩
theorem gM (hu:X.A.units+64<cLine):OpR X (compareOp .NotEq) (kNM X.K true):=by
 intro pins s σ H x y v u Q I rx ry h;obtain ⟨d,e,h1,h2,s1,s2,q⟩:=h;obtain ⟨as,p1⟩:=Dt.reads I d x v rx h1;obtain ⟨bs,p2⟩:=Dt.reads I e y u ry h2;exact SeqAt.compareNe_shaped p1 p2 s1 s2 hu ⟨.bl _,H,I,rfl,q⟩
end
section
variable {X:Cx}
end
def kPH (sc S0:qa):Bool:=(sc.names.all λ y=>(y.2 != .local || sc.names.lookup y.1 == some .local) && y.2 != .cell && (y.2 != .free || S0.names.lookup y.1 == some .cell))
theorem CS.of {sc S0:qa} (k:sc.kind=.function) (h:kPH sc S0=true):CS sc S0:=by
 have q:∀ y∈sc.names,_:=sh.mp h;refine ⟨k,λ y hy e=>?_,λ y hy e=>?_,λ y hy e=>?_⟩<;>have z:=q y hy<;>rw [eZ,eZ] at z<;>obtain ⟨⟨z1,z2⟩,z3⟩:=z
 ·rw [e] at z1;simpa using z1
 ·rw [e] at z2;simp at z2
 ·rw [e] at z3;simpa using z3
section
variable {prog:eo} {w:iD} {A:fb} {E:ar->ay->Prop} {s:ay}
theorem kAI {it t:av} {i:Nat} {items:Array ar} {x:ar} {Q:ar->ay->Prop} (hit:s.heap.IsTupleIter it t i) (ht:s.heap.IsTuple t items) (hx:items[i]?=some x)
  (hQ:∀ h',h'.IsTupleIter it t (i+1)->jd it s.heap h'->Q x { s with heap:=h' }):eD (model prog w) A (iU (.ref it)) Q E s:=by
 obtain ⟨o,ho,hc,hd⟩:=id hit;obtain ⟨ot,hot,_,nt,hdt⟩:=ht;unfold iU;refine ae (lu (name:=yf "__next__") hit.typeIs qp (qh qp hit.typeIs AJ ?_ (zq _)));show eD _ _ (field (.ref it) 0 >>= _) _ _ s;refine ae (kg ho hd (x:=.ref t) rfl ?_);show eD _ _ (if (ki t == xw)=true then _ else _) _ _ s;rw [if_neg (show ¬ ((ki t == xw)=true) from dq)];show eD _ _ (field (.ref it) 1 >>= _) _ _ s;refine ae (kg ho hd (x:=.int i 0) rfl ?_);show eD _ _ (seqItems? (.ref t) >>= _) _ _ s;refine ae (qq hot hdt ?_);simp only [mh,hx];refine ae (EB ho hd (by simp) (bx ⟨x,rfl,bx (hQ _ ?_ (jh ..))⟩));refine ⟨_,qu _ ho (Obj.isFreed_of_fields (CN hd _)),(Obj.cls_mapFields ..).trans hc,?_⟩;rw [CN hd];simp [rawInt]
theorem gU {it t:av} {i:Nat} {items:Array ar} {Q:ar->ay->Prop} (hh:A.handled=none) (hit:s.heap.IsTupleIter it t i) (ht:s.heap.IsTuple t items) (hx:items[i]?=none)
  (hE:∀ h' e,Heap.ExtBut it s.heap h'->(∃ o,h'.get? e=some o/\o.cls=.type "StopIteration")->E (.ref e) { s with heap:=h' }):eD (model prog w) A (iU (.ref it)) Q E s:=by
 obtain ⟨o,ho,hc,hd⟩:=id hit;obtain ⟨ot,hot,_,nt,hdt⟩:=ht;unfold iU;refine ae (lu (name:=yf "__next__") hit.typeIs qp (qh qp hit.typeIs AJ ?_ (zq _)));show eD _ _ (field (.ref it) 0 >>= _) _ _ s;refine ae (kg ho hd (x:=.ref t) rfl ?_);show eD _ _ (if (ki t == xw)=true then _ else _) _ _ s;rw [if_neg (show ¬ ((ki t == xw)=true) from dq)];show eD _ _ (field (.ref it) 1 >>= _) _ _ s;refine ae (kg ho hd (x:=.int i 0) rfl ?_);show eD _ _ (seqItems? (.ref t) >>= _) _ _ s;refine ae (qq hot hdt ?_);simp only [mh,hx];refine ae (vy (ae (EB ho hd (by simp) ?_)));show eD _ _ (newExc (.type "StopIteration") [] >>= _) _ _ _;refine ae ?_;simp only [newExc,newTuple];refine ae (iX ?_ (by size_fits));refine ae (m:=firstArgMember _ _) (wpAny_of_eq (a:=xw) (by first | rfl | (simp only [firstArgMember];rfl)) ?_);refine iX ?_ (by size_fits);simp only [raiseNew];refine ae (wpAny_handled ?_)
 first | rw [show A.in1.handled=none from hh] | rw [hh]
 refine ae (bx (wpAny_throw ?_));exact hE _ _ (((jh ..).extBut.push _).push _) ⟨_,cn _ rfl,rfl⟩
end
def ItOf (k:Bool) (h:gy) (it a:av) (i:Nat):Prop:=match k with | true=>h.IsListIter it a i | false=>h.IsTupleIter it a i
def SqOf (k:Bool) (h:gy) (a:av) (items:Array ar):Prop:=match k with | true=>h.IsList a items | false=>h.IsTuple a items
def dE (k:Bool):String:=match k with | true=>"list_iterator" | false=>"tuple_iterator"
def SqX (K:cf) (k:Bool) (H:Hp) (a:av) (xs:List V):Prop:=match k with | true=>SqL K H a xs | false=>SqT K H a xs
theorem ItOf.at {k:Bool} {h h':gy} {it a:av} {i:Nat} (x:ItOf k h it a i) (g:∀ o,h.get? it=some o->h'.get? it=some o):ItOf k h' it a i:=by
 cases k
 ·obtain ⟨o,e,r⟩:=x;exact ⟨o,g o e,r⟩
 ·obtain ⟨o,e,r⟩:=x;exact ⟨o,g o e,r⟩
theorem ItOf.live {k:Bool} {h:gy} {it a:av} {i:Nat} (x:ItOf k h it a i):∃ o,h.get? it=some o/\∀ v,o.data≠.cell v:=by
 cases k
 ·obtain ⟨o,e,c,d⟩:=x;exact ⟨o,e,λ v z=>by rw [d] at z;cases z⟩
 ·obtain ⟨o,e,c,d⟩:=x;exact ⟨o,e,λ v z=>by rw [d] at z;cases z⟩
theorem SqOf.at {k:Bool} {h h':gy} {a:av} {items:Array ar} (x:SqOf k h a items) (g:∀ o,h.get? a=some o->h'.get? a=some o):SqOf k h' a items:=by
 cases k
 ·obtain ⟨o,e,r⟩:=x;exact ⟨o,g o e,r⟩
 ·obtain ⟨o,e,r⟩:=x;exact ⟨o,g o e,r⟩
theorem SqOf.there {k:Bool} {h:gy} {a:av} {items:Array ar} (x:SqOf k h a items):∃ o,h.get? a=some o:=by
 cases k
 ·obtain ⟨o,e,r⟩:=x;exact ⟨o,e⟩
 ·obtain ⟨o,e,r⟩:=x;exact ⟨o,e⟩
theorem SqOf.lt {k:Bool} {h:gy} {a:av} {items:Array ar} (x:SqOf k h a items):a<h.objs.size:=let ⟨_,e⟩:=x.there;cm e
theorem ItOf.new (k:Bool) (h:gy) (a:av):ItOf k (h.push { cls:=.type (dE k),data:=.fields #[.ref a,.int 0 0] }) h.objs.size a 0:=by
 cases k
 ·exact ⟨_,cn _ rfl,rfl,rfl⟩
 ·exact ⟨_,cn _ rfl,rfl,rfl⟩
theorem Inv.sq {X:Cx} {pins:List (av×Obj)} {σ:St} {H:Hp} {s:ay} {k:Bool} {a:av} {xs:List V} (I:Inv X pins σ H s) (h:SqX X.K k H a xs):∃ its:List ar,Vals xs its/\SqOf k s.heap a its.toArray:=by
 cases k
 ·obtain ⟨its,r,p,_⟩:=I.tuple h
  exact ⟨its,r,p⟩
 ·obtain ⟨its,r,p,_⟩:=I.list h
  exact ⟨its,r,p.isList⟩
theorem Inv.sq_inj {X:Cx} {pins:List (av×Obj)} {σ:St} {H:Hp} {s:ay} {k:Bool} {a:av} {xs ys:List V} (I:Inv X pins σ H s) (h:SqX X.K k H a xs) (h':SqX X.K k H a ys):xs=ys:=by
 cases k
 ·exact I.tuple_inj h h'
 ·exact I.list_inj h h'
section
variable {prog:eo} {w:iD} {A:fb} {E:ar->ay->Prop} {s:ay}
theorem kBR {k:Bool} {a:av} {items:Array ar} {Q:ar->ay->Prop} (h:SqOf k s.heap a items) (hQ:Q (.ref s.heap.objs.size) { s with heap:=s.heap.push { cls:=.type (dE k),data:=.fields #[.ref a,.int 0 0] } }) :
  eD (model prog w) A (pyIter (.ref a)) Q E s:=by
 cases k
 ·exact qj h hQ
 ·exact Aj h hQ
theorem wY (hh:A.handled=none) (k:Bool) (it a:av) (hne:a≠it) (items:Array ar):Fi prog w A it [it,a] items.size (λ i v=>items[i]?=some v) (λ i h=>ItOf k h it a i/\SqOf k h a items) where
 live:=λ _ _ st=>let ⟨o,ho,_⟩:=st.1.live;⟨o,ho⟩
 frame:=λ _ _ _ st hk=>⟨st.1.at λ o e=>hk it (by simp) o e,st.2.at λ o e=>hk a (by simp) o e⟩
 item:=λ i s Q E hi st hQ=>by
  have hx:items[i]?=some items[i]:=by simp [hi]
  cases k
  ·exact kAI st.1 st.2 hx λ h' hit' hs'=>hQ _ h' s.toks hx ⟨hit',st.2.at λ o e=>hs'.extBut a o hne e⟩ hs'
  ·exact wpAny_nextOf_list_item st.1 st.2 hx λ h' hit' hs'=>hQ _ h' s.toks hx ⟨hit',st.2.at λ o e=>hs'.extBut a o hne e⟩ hs'
 done:=λ s Q E st hE=>by
  cases k
  ·exact gU hh st.1 st.2 (by simp) hE
  ·exact wpAny_nextOf_list_end hh st.1 st.2 (by simp) hE
end
theorem Inv.turnedL {X:Cx} {pins:List (av×Obj)} {σ:St} {H:Hp} {s:ay} {h':gy} {t':Nat} {ch:List av} (I:Inv X pins σ H s) (k:∀ b o,b∉ch->s.heap.get? b=some o->h'.get? b=some o) (hf:∀ b∈ch,zD X pins H b) :
  Inv X pins σ H { s with heap:=h',toks:=t' }:=by
 have nit:∀ b u,H b=some u->b∉ch:=λ b u e z=>by rw [(hf b z).1] at e;cases e
 refine I.step (g':=s.gens) (d':=s.drawn) (ch:=ch) (λ b hb=>?_) (λ b o _ _ hc e _=>k b o hc e) (λ b o _ _ hc e _=>⟨o.slots,k b o hc e⟩) (λ _ _ _ _ n=>n)
  (λ b o hc e=>⟨o,k b o hc e⟩) (λ _ _ e=>e) (λ _ _ _ e=>e) (λ b ps e=>⟨#[],by rw [e];simp⟩) (λ m hm=>?_) (λ b u e=>?_) I.bare
 ·obtain ⟨f0,f1,f2,f3,f4,f5⟩:=hf b hb
  exact ⟨f3,f1,f4,f5⟩
 ·obtain ⟨o,es,ep,ho,r⟩:=hm
  exact ⟨o,es,ep,k _ o (λ z=>(hf _ z).2.1 rfl) ho,r⟩
 ·refine (I.hok b u e).stay (λ c v hc q=>k c v ?_ q) (λ _ q=>q) λ _ _ q=>q
  rcases hc with z | z
  ·rw [z];exact nit b u e
  ·exact nit c _ z
open AutoSeq1 (wpAny_loadPart')
theorem pK (l:av) (items:Array ar) (n:Nat) (dct:Option av) (sl:Array (Option ar)) :
  Meets (AK.«enumerate.__new__» ⟨[.type "enumerate",.ref l],[]⟩) (λ _ R s=>s.heap.get? l=some { cls:=.type "tuple",dict:=dct,data:=.seq items n,slots:=sl } /\
   R (.ok (.ret (.ref (s.heap.push { cls:=.type "tuple_iterator",data:=.fields #[.ref l,.int 0 0] }).objs.size)))
    { s with heap:=(s.heap.push { cls:=.type "tuple_iterator",data:=.fields #[.ref l,.int 0 0] }).push { cls:=.type "enumerate",data:=.fields #[.none,.bool false,.ref s.heap.objs.size,rawInt 0,.none,.none] } }) :=
 .of_wp λ prog w A R s h=>by
  obtain ⟨hp,g,d,tk,os⟩:=s;obtain ⟨hl,h⟩:=h;have hsub:=sub_enumerate;have hL:Heap.IsTuple (DX ⟨hp,g,d,tk,os⟩) l items:=⟨_,hl,rfl,n,rfl⟩
  wp_walk using xn hl
  refine wpAny_stack_any λ st=>bx ?_
  split
  ·rename_i c _ _ _ _ _
   cases (c == xx "enumerate")
   ·wp_walk using xn hl,qj hL
    exact ⟨_,rfl,h⟩
   ·wp_walk using xn hl,qj hL
    exact ⟨_,rfl,h⟩
  ·wp_walk using xn hl,qj hL
   exact ⟨_,rfl,h⟩
section
variable {prog:eo} {w:iD} {A:fb} {E:ar->ay->Prop} {s:ay}
theorem pP {k:Bool} {l:av} {items:Array ar} {Q:ar->ay->Prop} (hL:SqOf k s.heap l items)
  (h:∀ h',IsEnum h' (s.heap.objs.size+1) s.heap.objs.size 0 .none->ItOf k h' s.heap.objs.size l 0->(∀ b o,s.heap.get? b=some o->h'.get? b=some o)->Q (.ref (s.heap.objs.size+1)) { s with heap:=h' }) :
  eD (model prog w) A (call (.type "enumerate") [.ref l]) Q E s:=by
 cases k
 ·obtain ⟨⟨c,dct,dt,sl⟩,hl,hc,n,hd⟩:=hL
  replace hc:c=.type "tuple":=hc
  replace hd:dt=.seq items n:=hd
  subst hc hd;refine callType_new F.called_enumerate (by decide) (F.typeCall_enumerate_1 _) (F.newCall_enumerate_1 _) (λ obj=>F.args_object_init_2 obj _) F.entry_enumerate_new (pK l items n dct sl) ⟨hl,?_⟩;have hz:(s.heap.push { cls:=.type "tuple_iterator",data:=.fields #[.ref l,.int 0 0] }).objs.size=s.heap.objs.size+1:=iu ..;show _/\_;rw [hz];have he:=cn (s.heap.push { cls:=.type "tuple_iterator",data:=.fields #[.ref l,.int 0 0] }) (o:={ cls:=.type "enumerate",data:=.fields #[.none,.bool false,.ref s.heap.objs.size,rawInt 0,.none,.none] }) rfl;rw [hz] at he;exact ⟨⟨_,he,rfl⟩,h _ he ⟨_,au _ (cn _ rfl),rfl,rfl⟩ λ b o x=>au _ (au _ x)⟩
 ·exact call_enumerate_list hL λ h' he hi _ hk=>h h' he hi hk
end
theorem mH {k k':Bool} {h:gy} {a it b:av} {i:Nat} {items:Array ar} (x:SqOf k h a items) (y:ItOf k' h it b i):a≠it:=by
 intro z;subst z
 cases k<;>cases k'<;>obtain ⟨o,e,c,_⟩:=x<;>obtain ⟨o',e',c',_⟩:=y<;>rw [e] at e'<;>cases e'<;>rw [c] at c'<;>revert c'<;>decide
theorem kHT {h:gy} {a b:av} {o u:Obj} {m n:String} (h1:h.get? a=some o) (h2:h.get? b=some u) (c1:o.cls=.type m) (c2:u.cls=.type n) (d:m≠n):a≠b:=by
 intro z;subst z;rw [h1] at h2;cases h2
 rw [c1] at c2;injection c2 with e
 exact d e
theorem ItOf.cls {k:Bool} {h:gy} {it a:av} {i:Nat} (x:ItOf k h it a i):∃ o,h.get? it=some o/\o.cls=.type (dE k):=by
 cases k<;>obtain ⟨o,e,c,_⟩:=x<;>exact ⟨o,e,c⟩
def kLD (k:Bool):String:=match k with | true=>"list" | false=>"tuple"
theorem SqOf.cls {k:Bool} {h:gy} {a:av} {items:Array ar} (x:SqOf k h a items):∃ o,h.get? a=some o/\o.cls=.type (kLD k):=by
 cases k<;>obtain ⟨o,e,c,_⟩:=x<;>exact ⟨o,e,c⟩
theorem Inv.handed {X:Cx} {pins:List (av×Obj)} {σ:St} {H:Hp} {s:ay} {h':gy} {t':Nat} {ch:List av} {x y:V} {u v:ar} (I:Inv X pins σ H s) (rx:RelV x u) (ry:RelV y v)
  (hT:h'.get? s.heap.objs.size=some { cls:=.type "tuple",data:=.seq #[u,v] }) (k:∀ b o,b∉ch->s.heap.get? b=some o->h'.get? b=some o) (hf:∀ b∈ch,zD X pins H b) (hlt:∀ b∈ch,b<s.heap.objs.size) :
  Inv X pins σ (upd H s.heap.objs.size (.tup [x,y])) { s with heap:=h',toks:=t' }/\(∀ b∈ch,upd H s.heap.objs.size (.tup [x,y]) b=none):=by
 have hn:∀ b∈ch,upd H s.heap.objs.size (.tup [x,y]) b=none:=λ b hb=>by rw [kO (dc (hlt b hb))];exact (hf b hb).1
 have I1:Inv X pins σ (upd H s.heap.objs.size (.tup [x,y])) { s with heap:=s.heap.push { cls:=.type "tuple",data:=.seq #[u,v] },toks:=s.toks } :=
  I.laid (λ b o e=>au _ e) (bq _) ⟨by simp only [eX,ir];rw [Ak];decide,[u,v],.cons rx (.cons ry .nil),⟨_,cn _ rfl,rfl,0,rfl,rfl⟩⟩
 have I2:=Inv.turnedL (h':=h') (t':=t') (ch:=ch) I1 (λ b o hb e=>by
  rcases Heap.get?_push_cases e with ⟨rfl,rfl⟩ | e
  ·exact hT
  ·exact k b o hb e) (λ b hb=>by
  obtain ⟨f0,f1,f2,f3,f4,f5⟩:=hf b hb;exact ⟨hn b hb,f1,f2,f3,f4,f5⟩)
 exact ⟨I2,hn⟩
def Ite (k:Bool) (K:cf) (a:av):It :=
 ⟨λ i H=>∃ xs x,SqX K k H a xs/\xs[i]?=some x,λ i H v H'=>∃ T x,H T=none/\v=.ref T/\(∀ xs,SqX K k H a xs->xs[i]?=some x)/\H'=upd H T (.tup [.int i,x]),λ i H=>∃ xs,SqX K k H a xs/\xs.length=i⟩
theorem kCQ {P:eo} {w:iD} {K:cf} {elts:List iJ} {x1} {pos:Pos} (k:Bool) (a e it:av):Turn P w K (.Tuple elts x1 pos) (Ite k K a) [e,it] e (λ i h=>(∃ old,IsEnum h e it i old)/\ItOf k h it a i) where
 mem:=by simp
 obj:=λ i h st b hb=>by
  obtain ⟨⟨old,he⟩,hi⟩:=st;rcases du.mp hb with rfl | hb
  ·exact ⟨_,he,λ v z=>by cases z⟩
  ·have:b=it:=by simpa using hb
   subst this;exact hi.live
 keep:=λ i h h' st kk=>by
  obtain ⟨⟨old,he⟩,hi⟩:=st;exact ⟨⟨old,kk e (by simp) _ he⟩,hi.at λ o q=>kk it (by simp) o q⟩
 item:=by
  intro X hP hw hK hc i pins s σ H E I hf st hg;subst hP hw hK;obtain ⟨⟨old,he⟩,hi⟩:=st;obtain ⟨xs,x,hq,hx⟩:=hg;obtain ⟨its,rv,p⟩:=I.sq hq;obtain ⟨u,hu,ru⟩:=rv.get hx;have nai:=mH p hi;obtain ⟨oi,ei,ci⟩:=hi.cls;obtain ⟨oa,ea,ca⟩:=p.cls;have nei:e≠it:=kHT he ei rfl ci (by cases k<;>decide);have nea:e≠a:=kHT he ea rfl ca (by cases k<;>decide);have D:=wY (prog:=X.prog) (w:=X.w) (A:=X.A.in1) (I.ok.hd hc) k it a nai its.toArray
  have hlt:i<its.toArray.size:=by
   have:=(aq.mp hu).1;simpa using this
  refine wpAny_pyNext_enum_itemD D he ⟨hi,p⟩ hlt nei (by simp [nei,nea]) λ y h' tk hy ho hs' hT hz hk=>?_
  have ey:y=u:=by
   have hy':its[i]?=some y:=by simpa using hy
   rw [hu] at hy';exact (bj hy').symm
  subst ey;refine ⟨_,rfl,wpAny_letOwnedTupleGo_enum ho λ h2 he2 hs2=>?_⟩;have hel:e<s.heap.objs.size:=cm he;have hil:it<s.heap.objs.size:=cm ei;have hT2:h2.get? s.heap.objs.size=some { cls:=.type "tuple",data:=.seq #[.int i tk,y] }:=hs2.extBut _ _ (wk hel) hT
  obtain ⟨I2,n2⟩:=I.handed (x:=.int i) (u:=.int i tk) (t':=tk+1) (ch:=[e,it]) ⟨tk,rfl⟩ ru hT2 (λ b o hb q=>hs2.extBut b o (λ z=>hb (by simp [z])) (hk b o (λ z=>hb (by simp [z])) (λ z=>hb (by simp [z])) q)) hf
   (λ b hb=>by rcases du.mp hb with rfl | hb;exact hel;rw [cy.mp hb];exact hil)
  refine ⟨.ref s.heap.objs.size,_,I2,rfl,⟨_,x,I.hok.fresh (bq _),rfl,λ ys hys=>by rw [I.sq_inj hys hq];exact hx,rfl⟩,⟨⟨_,by simpa using he2⟩,hs'.1.at λ o q=>hs2.extBut it o nei.symm q⟩,n2⟩
 done:=by
  intro X hP hw hK hc i pins s σ H E I hf st hg;subst hP hw hK;obtain ⟨⟨old,he⟩,hi⟩:=st;obtain ⟨xs,hq,hx⟩:=hg;obtain ⟨its,rv,p⟩:=I.sq hq;have nai:=mH p hi;have D:=wY (prog:=X.prog) (w:=X.w) (A:=X.A.in1) (I.ok.hd hc) k it a nai its.toArray;have hl:its.toArray.size=i:=by rw [<-hx,rv.length];simp
  refine wpAny_pyNext_enum_endD D he ⟨hl ▸ hi,p⟩ λ h' eb=>⟨rfl,I.turnedL (t':=s.toks) (ch:=[it]) (λ b o hb q=>eb b o (λ z=>hb (by simp [z])) q) λ b hb=>hf b (by simp at hb ⊢;exact .inr hb)⟩
 self:=λ _ _ _ _ _ st h=>by
  obtain ⟨⟨old,he⟩,_⟩:=st;exact Cq he h
section
variable {X:Cx}
def kNX (k:Bool) (K:cf) (ta:TA):TI:=λ σ H R=>ta σ H λ vs H1=>∃ a,vs=[.ref a]/\(∃ xs,SqX K k H1 a xs)/\R (Ite k K a) H1
theorem bI (k:Bool) {a:iJ} {ta:TA} {p pos tpos:Pos} {elts:List iJ} {x1} (hg:Gl X "enumerate") (hm:X.mg "enumerate" = none) (ha:PA X [a] ta) (hs:starEach [a] X.env=[(false,eval a X.env)]:=by rfl) :
  PI X (.Tuple elts x1 tpos) (.Call (.Name "enumerate" p) [a] [] pos) (kNX k X.K ta):=by
 intro pins s σ H R I h;refine FT (vH I hg hm boot_enumerate (ie (thn (ha pos pins s σ H _ I h) λ us s1 ⟨vs,H1,I1,r1,q1⟩=>?_) hs rfl));obtain ⟨l,rfl,⟨xs,hq⟩,q⟩:=q1;obtain ⟨u,rfl,r⟩:=vP r1;cases r
 obtain ⟨its,rv,pq⟩:=I1.sq hq;refine pP pq λ h' he hi hk=>?_;refine Cq (s:={ s1 with heap:=h' }) he ?_
 have f:∀ b,s1.heap.objs.size<=b->zD X pins H1 b:=λ b hb=>I1.fpOk hb (I1.hok.fresh hb);refine ⟨_,[s1.heap.objs.size+1,s1.heap.objs.size],_,_,H1,rfl,I1.kept (t':=s1.toks) hk,kCQ k l _ _,⟨⟨_,he⟩,hi⟩,λ b hb=>?_,q⟩;rcases du.mp hb with rfl | hb
 ·exact f _ (by omega)
 ·rw [cy.mp hb];exact f _ (bq _)
end
end L2
namespace L2
open PySem PySem.Spec PyProof.Rows
structure ZAp (z TI TO i1 i2:av) (fp1 fp2:List av):Prop where
 zTI:z≠TI
 zTO:z≠TO
 zi1:z≠i1
 zi2:z≠i2
 TOi1:TO≠i1
 TOi2:TO≠i2
 i12:i1≠i2
 TITO:TI≠TO
 TIi1:TI≠i1
 TIi2:TI≠i2
 z1:z∉fp1
 z2:z∉fp2
 t1:TO∉fp1
 t2:TO∉fp2
 i2f:i2∉fp1
 i1f:i1∉fp2
section
variable {prog:eo} {w:iD} {A:fb} {E:ar->ay->Prop} {s:ay} {z TI TO i1 i2:av} {fp1 fp2:List av} {n1 n2 j:Nat} {P1 P2:Nat->ar->Prop} {S1 S2:Nat->gy->Prop} {a b:ar}
theorem kCH {Q:ar->ay->Prop} (D1:Fi prog w A i1 fp1 n1 P1 S1) (D2:Fi prog w A i2 fp2 n2 P2 S2) (ap:ZAp z TI TO i1 i2 fp1 fp2)
  (hz:BF s.heap z TI TO .none) (hTI:vh s.heap TI (.ref i1) (.ref i2)) (hTO:vh s.heap TO a b) (h1:S1 j s.heap) (h2:S2 j s.heap) (l1:j<n1) (l2:j<n2)
  (hQ:∀ x y h' tk,P1 j x->P2 j y->BF h' z TI TO (rawInt s.heap.objs.size)->vh h' TO x y->S1 (j+1) h'->S2 (j+1) h'->vh h' s.heap.objs.size x y ->
   (∀ c o,c≠z->c≠TO->c≠i1->c≠i2->s.heap.get? c=some o->h'.get? c=some o)->Q (.ref s.heap.objs.size) { s with heap:=h',toks:=tk }) :
  eD (model prog w) A (AK.«zip.__next__» ⟨[.ref z],[]⟩) (λ fin s'=>∃ v,fin=.done (.ret v)/\Q v s') E s:=by
 have fr1:∀ {i:Nat} {h h':gy} {c:av},S1 i h->jd c h h'->c∉fp1->S1 i h':=λ st sb hc=>D1.frame _ _ _ st λ b hb o e=>sb.extBut b o (λ q=>hc (q ▸ hb)) e;have fr2:∀ {i:Nat} {h h':gy} {c:av},S2 i h->jd c h h'->c∉fp2->S2 i h':=λ st sb hc=>D2.frame _ _ _ st λ b hb o e=>sb.extBut b o (λ q=>hc (q ▸ hb)) e;show eD _ _ (field (.ref z) 2 >>= _) _ _ _;refine ae (kg hz rfl (x:=.bool false) rfl ?_);show eD _ _ (field (.ref z) 3 >>= _) _ _ _;refine ae (kg hz rfl (x:=.ref TI) rfl ?_);refine ae (qq hTI rfl ?_);show eD _ _ (km (.ref z) >>= _) _ _ _;refine ae ?_;unfold km;refine ae (kg hz rfl (x:=.none) rfl (bx ?_));simp only [if_true];refine ae (vy ?_);refine ae (kg hz rfl (x:=.ref TO) rfl ?_);refine ae (uv hz (by simp) λ g1 z1 s1=>?_)
 replace z1:BF g1 z TI TO .ellipsis:=z1
 refine ae ?_
 simp only [BG,Df,Ba,EC]
 refine ae (ae (Ay ?_));show eD _ _ (iU (.ref i1) >>= _) _ _ _;refine ae (D1.item j _ _ _ l1 (fr1 h1 s1 ap.z1) λ x g2 tk2 px st2 s2=>bx ?_);have o2:vh g2 TO a b:=s2.extBut _ _ ap.TOi1 (s1.extBut _ _ ap.zTO.symm hTO);refine ae (qq o2 rfl ?_);refine ae (zf o2 λ g3 o3 s3=>?_)
 replace o3:vh g3 TO x b:=o3
 refine ae (DY (bx ?_))
 refine ae (ae (Ay ?_));show eD _ _ (iU (.ref i2) >>= _) _ _ _;refine ae (D2.item j _ _ _ l2 (fr2 (fr2 (fr2 h2 s1 ap.z2) s2 ap.i1f) s3 ap.t2) λ y g4 tk4 py st4 s4=>bx ?_);have o4:vh g4 TO x b:=s4.extBut _ _ ap.TOi2 o3;refine ae (qq o4 rfl ?_);refine ae (zf o4 λ g5 o5 s5=>?_)
 replace o5:vh g5 TO x y:=o5
 refine ae (DY (bx (bx ?_)))
 refine ae (qq o5 rfl ?_);refine ae (ED ?_);have sz:g5.objs.size=s.heap.objs.size:=by rw [s5.1,s4.1,s3.1,s2.1,s1.1]
 have z5:BF g5 z TI TO .ellipsis:=s5.extBut _ _ ap.zTO (s4.extBut _ _ ap.zi2 (s3.extBut _ _ ap.zTO (s2.extBut _ _ ap.zi1 z1)))
 have k5:∀ c o,c≠z->c≠TO->c≠i1->c≠i2->s.heap.get? c=some o->g5.get? c=some o:=λ c o c1 c2 c3 c4 e =>
  s5.extBut _ _ c2 (s4.extBut _ _ c4 (s3.extBut _ _ c2 (s2.extBut _ _ c3 (s1.extBut _ _ c1 e))))
 have st1:S1 (j+1) g5:=fr1 (fr1 (fr1 st2 s3 ap.t1) s4 ap.i2f) s5 ap.t1;have st2':S2 (j+1) g5:=fr2 st4 s5 ap.t2;have zlt:z<g5.objs.size:=cm z5;show eD _ _ (wu (.ref z) (.ref g5.objs.size) >>= _) _ _ _;refine ae ?_;unfold wu;have z6:BF (g5.push { cls:=.type "tuple",data:=.seq #[x,y] }) z TI TO .ellipsis:=au _ z5;refine ae (uv z6 (by simp) λ g7 z7 s7=>?_)
 replace z7:BF g7 z TI TO (rawInt g5.objs.size):=z7
 refine uv z7 (by simp) λ g8 z8 s8=>?_
 replace z8:BF g8 z TI TO (rawInt g5.objs.size):=z8
 have up:∀ c o,c≠z->g5.get? c=some o->g8.get? c=some o:=λ c o c1 e=>s8.extBut _ _ c1 (s7.extBut _ _ c1 (au _ e));have t8:vh g8 g5.objs.size x y:=s8.extBut _ _ (wk zlt) (s7.extBut _ _ (wk zlt) (cn _ rfl));rw [sz] at z8 t8;refine bx ⟨_,rfl,?_⟩;show Q (.ref g5.objs.size) _;rw [sz];exact hQ x y g8 _ px py z8 (up _ _ ap.zTO.symm o5) (D1.frame _ _ _ st1 λ b hb o e=>up b o (λ q=>ap.z1 (q ▸ hb)) e) (D2.frame _ _ _ st2' λ b hb o e=>up b o (λ q=>ap.z2 (q ▸ hb)) e) t8 λ c o c1 c2 c3 c4 e=>up c o c1 (k5 c o c1 c2 c3 c4 e)
end
theorem sW (k1 k2:Bool) (l1 l2:av) (xs ys:Array ar) :
  Meets (AK.«zip.__new__» ⟨[.type "zip",.ref l1,.ref l2],[]⟩) (λ _ R s=>SqOf k1 s.heap l1 xs/\SqOf k2 s.heap l2 ys /\
   ∀ (g1 g2 g3 g4 g5:gy),g1=s.heap.push { cls:=.type (dE k1),data:=.fields #[.ref l1,.int 0 0] }->g2=g1.push { cls:=.type (dE k2),data:=.fields #[.ref l2,.int 0 0] } ->
    g3=g2.push { cls:=.type "tuple",data:=.seq #[.ref s.heap.objs.size,.ref g1.objs.size] }->g4=g3.push { cls:=.type "tuple",data:=.seq #[.none,.none] } ->
    g5=g4.push { cls:=.type "zip",data:=.fields #[.none,.bool false,.bool false,.ref g2.objs.size,.ref g3.objs.size] }->R (.ok (.ret (.ref g4.objs.size))) { s with heap:=g5 }) :=
 .of_wp λ prog w A R s h=>by
  obtain ⟨hp,g,d,tk,os⟩:=s;obtain ⟨hl1,hl2,h⟩:=h;have hsub:=sub_zip;have hL1:SqOf k1 (DX ⟨hp,g,d,tk,os⟩) l1 xs:=hl1;have hL2:SqOf k2 (DX ⟨hp.push { cls:=.type (dE k1),data:=.fields #[.ref l1,.int 0 0] },g,d,tk,os⟩) l2 ys:=hl2.at λ o e=>au _ e;have h:=h _ _ _ _ _ rfl rfl rfl rfl rfl
  wp_walk using kBR hL1,kBR hL2
  exact ⟨_,rfl,h⟩
section
variable {prog:eo} {w:iD} {A:fb} {E:ar->ay->Prop} {s:ay}
theorem sS {k1 k2:Bool} {l1 l2:av} {xs ys:Array ar} {Q:ar->ay->Prop} (h1:SqOf k1 s.heap l1 xs) (h2:SqOf k2 s.heap l2 ys)
  (h:∀ h',BF h' (s.heap.objs.size+4) (s.heap.objs.size+2) (s.heap.objs.size+3) .none->vh h' (s.heap.objs.size+2) (.ref s.heap.objs.size) (.ref (s.heap.objs.size+1)) ->
   vh h' (s.heap.objs.size+3) .none .none->ItOf k1 h' s.heap.objs.size l1 0->ItOf k2 h' (s.heap.objs.size+1) l2 0->(∀ c o,s.heap.get? c=some o->h'.get? c=some o)->Q (.ref (s.heap.objs.size+4)) { s with heap:=h' }) :
  eD (model prog w) A (call (.type "zip") [.ref l1,.ref l2]) Q E s:=by
 refine callType_new F.called_zip (by decide) (F.typeCall_zip_2 _ _) (F.newCall_zip_2 _ _) (λ obj=>F.args_object_init_3 obj _ _) F.entry_zip_new (sW k1 k2 l1 l2 xs ys) ⟨h1,h2,?_⟩;intro g1 g2 g3 g4 g5 e1 e2 e3 e4 e5;have z1:g1.objs.size=s.heap.objs.size+1:=by rw [e1];exact iu ..
 have z2:g2.objs.size=s.heap.objs.size+2:=by rw [e2,iu,z1]
 have z3:g3.objs.size=s.heap.objs.size+3:=by rw [e3,iu,z2]
 have z4:g4.objs.size=s.heap.objs.size+4:=by rw [e4,iu,z3]
 have u1:∀ c o,s.heap.get? c=some o->g1.get? c=some o:=λ c o e=>by rw [e1];exact au _ e
 have u2:∀ c o,g1.get? c=some o->g2.get? c=some o:=λ c o e=>by rw [e2];exact au _ e
 have u3:∀ c o,g2.get? c=some o->g3.get? c=some o:=λ c o e=>by rw [e3];exact au _ e
 have u4:∀ c o,g3.get? c=some o->g4.get? c=some o:=λ c o e=>by rw [e4];exact au _ e
 have u5:∀ c o,g4.get? c=some o->g5.get? c=some o:=λ c o e=>by rw [e5];exact au _ e
 have b5:BF g5 g4.objs.size g2.objs.size g3.objs.size .none:=by rw [e5];exact cn _ rfl
 have b4:vh g5 g3.objs.size .none .none:=u5 _ _ (by rw [e4];exact cn _ rfl);have b3:vh g5 g2.objs.size (.ref s.heap.objs.size) (.ref g1.objs.size):=u5 _ _ (u4 _ _ (by rw [e3];exact cn _ rfl));have i1:ItOf k1 g5 s.heap.objs.size l1 0:=ItOf.at (h:=g1) (by rw [e1];exact ItOf.new k1 s.heap l1) λ o e=>u5 _ _ (u4 _ _ (u3 _ _ (u2 _ _ e)));have i2:ItOf k2 g5 g1.objs.size l2 0:=ItOf.at (h:=g2) (by rw [e2];exact ItOf.new k2 g1 l2) λ o e=>u5 _ _ (u4 _ _ (u3 _ _ e));show _/\_;rw [z2,z3,z4] at b5;rw [z1,z2] at b3;rw [z3] at b4;rw [z1] at i2;rw [z4];exact ⟨⟨_,b5,rfl⟩,h _ b5 b3 b4 i1 i2 λ c o x=>u5 _ _ (u4 _ _ (u3 _ _ (u2 _ _ (u1 _ _ x))))⟩
end
theorem zap (n a b:Nat) (ha:a<n) (hb:b<n):ZAp (n+4) (n+2) (n+3) n (n+1) [n,a] [n+1,b]:=by
 have q:∀ {x y u:Nat},x≠y->x≠u->¬ x∈[y,u]:=λ h1 h2 h3=>by
  rcases du.mp h3 with e | e
  ·exact h1 e
  ·exact h2 (cy.mp e)
 have d:∀ {x y:Nat},x<y->y≠x:=λ h=>wk h;have e:∀ {x y:Nat},x<y->x≠y:=λ h=>dc h
 exact ⟨d (by omega),d (by omega),d (by omega),d (by omega),d (by omega),d (by omega),e (by omega),e (by omega),d (by omega),d (by omega),
  q (d (by omega)) (d (by omega)),q (d (by omega)) (d (by omega)),q (d (by omega)) (d (by omega)),q (d (by omega)) (d (by omega)),q (d (by omega)) (d (by omega)),q (e (by omega)) (d (by omega))⟩
section
variable {X:Cx}
end
section
variable {X:Cx} {tg iter el:iJ} {ifs:List iJ} {sc:qa} {pos py spos:Pos} {Nc:List Str} {js:List (Option Nat)} {wi:TI} {i:Nat} {y:Str}
theorem fI {g:TG} {bd:av->TB} (hx:X.xe=λ _ _=>False) (hc:X.calm=true) (hN:X.N.Nodup) (hiN:X.N[i]?=some y) (hy:Loc X.env.scope y) (hi:PI X tg iter wi) (S:CS sc X.env.scope) (cap:cD js Nc X.N sc.names=true)
  (hg:∀ C s₂ H₂ fp pins,PG (cxC X Nc sc C s₂ H₂ fp pins) tg g)
  (hb:∀ C s₂ H₂ fp pins D L,PTl (cxC X Nc sc C s₂ H₂ fp pins) (yI ifs (cxC X Nc sc C s₂ H₂ fp pins).env (do let _ <-call (.builtin "list.append") [.ref D,<-eval el (cxC X Nc sc C s₂ H₂ fp pins).env]) L) L (bd D))
  (hs:∀ x,foldedSetIterable iter X.env x=pure x:=by intro _;rfl)
  (hsw:swapsWith (.ListComp el [⟨tg,iter,ifs,0⟩] sc pos) (some (.Name y py)) spos.line X.env=pure true:=by rfl)
  (hf:X.fn y=true\/X.env.scope.names.lookup y=some .local:=by first | exact .inl rfl | exact .inr rfl | assumption) :
  PS X (.Assign [.Name y py] (.ListComp el [⟨tg,iter,ifs,0⟩] sc pos) spos) (kIG (tLC js wi g bd) (sJ i)):=by
 intro pins s σ H D0 I h;have hcl:closureFor sc X.env=pure (zF sc X.env):=wC λ y hy hf=>I.ok.has y.1 (.inl (S.free y hy hf));rw [Bg _ _ _ _ hsw];refine ae (ub (ae ?_));show eD _ X.A (do let _ <-comprehension (.ListComp el [⟨tg,iter,ifs,0⟩] sc pos) sc X.env _ (newList []) false (eval iter X.env) (some (assign (.Name y py) X.env))) _ _ s
 refine ae (xy (om (use:=some (assign (.Name y py) X.env)) (Q:=λ _ s'=>SP X pins D0 .next s') rfl hs hcl S.kind S.names
  (thn (hi pins s σ H _ I h) λ v s1 h1=>thn h1 λ itv s2 h2=>?_)) (λ _ s' hq=>bx (bx hq)) λ _ _ e=>e)
 obtain ⟨it,fp,tn,J,H2,e,I2,T,st2,f2,hw⟩:=h2;subst e;have hlt:∀ b∈fp,b<s2.heap.objs.size:=λ b hb=>let ⟨o,ho,_⟩:=T.obj _ _ st2 b hb;cm ho;refine iX (wa S.nocell (by intro y hy;simp at hy) (λ h₁ hns₁ hsb₁=>?_) S.kind);dsimp only at hns₁ hsb₁ ⊢;generalize hH2:s2.heap.push { cls:=.type "list",dict:=none,data:=.seq ([]:List ar).toArray }=G at hns₁ hsb₁ ⊢;have hCs:G.objs.size=s2.heap.objs.size+1:=by rw [<-hH2,iu]
 have hDC:s2.heap.objs.size≠G.objs.size:=by omega
 have hCle:s2.heap.objs.size<=G.objs.size:=by omega
 have old:∀ b o,s2.heap.get? b=some o->h₁.get? b=some o:=λ b o e=>hsb₁.extBut b o (dc (cj (cm e) hCle)) (au _ (hH2 ▸ au _ e));have hacc:h₁.get? s2.heap.objs.size=some { cls:=.type "list",dict:=none,data:=.seq ([]:List ar).toArray }:=hsb₁.extBut _ _ hDC (au _ (hH2 ▸ cn _ rfl));have new:ObjOk X.prog X.w (upd H2 s2.heap.objs.size (.lst [])) h₁ s2.heap.objs.size (.lst []):=⟨gm _,[],_,.nil,hacc⟩;have I4:=bP (js:=js) (Nc:=Nc) (tk:=s2.toks+([]:List (Str×ar)).length) I2 S f2 hlt cap hCle (bq _) hDC old hns₁ new;have hn:H2 s2.heap.objs.size=none:=I2.fresh
 have f4:∀ b∈fp,zD (cxC X Nc sc G.objs.size s2 H2 fp pins) [] (upd H2 s2.heap.objs.size (.lst [])) b:=λ b hb=>by
  obtain ⟨h0,h1,h2,h3,h4,h5⟩:=f2 b hb;refine ⟨?_,dc (cj (hlt b hb) hCle),λ z=>?_,.inl hb,λ x c z=>?_,λ p hp=>?_⟩
  ·rw [kO (dc (hlt b hb))];exact h0
  ·rcases du.mp (I2.stkSub b z) with q | q
   ·exact h1 q
   ·exact h2 q
  ·exact h4 x c (aB sc.names [] (λ z=>nomatch z) z)
  ·rcases bz.mp hp with z | z
   ·exact h5 p z
   ·exact absurd z (by simp)
 have st4:tn 0 h₁:=T.keep _ _ _ st2 λ b hb o e=>old b o e
 have loop:codeAny (model X.prog X.w) X.A (.compLoop (.ListComp el [⟨tg,iter,ifs,0⟩] sc pos) 0 (.ref it) (.ref s2.heap.objs.size) (compEnvC sc (zF sc X.env) G.objs.size X.env))
   (compPost (model X.prog X.w) X.A X.xe (some (assign (.Name y py) X.env)) (λ _ s'=>SP X pins D0 .next s') (.ref s2.heap.objs.size) G.objs.size) { s2 with heap:=h₁,toks:=s2.toks+([]:List (Str×ar)).length }:=by
  refine zN (X:=cxC X Nc sc G.objs.size s2 H2 fp pins) (.inl ⟨el,rfl⟩) hx hc (nN _ _ _ _ _ _ _ _ _) T (hg _ _ _ _ _) (hb _ _ _ _ _ _ _) I4 st4 f4 (hw _ hn) λ σ' H' s' I' q=>?_;obtain ⟨m',hm',_⟩:=I'.loc;have IB:Inv X pins σ H' { s' with heap:=s'.heap }:=bQ I2 f2 hCle I' (yj ..)
  have nC:H' G.objs.size=none:=I'.free;have fC:zD X pins H' G.objs.size:=I2.fpOk hCle nC;show eD _ X.A (assign (.Name y py) X.env (.ref s2.heap.objs.size)) _ _ s';refine Ai (cI (v:=.ref s2.heap.objs.size) IB hN hiN hy rfl (λ s'' IC hsb=>?_) hf);obtain ⟨a,sb,ha⟩:=hsb
  have aC:G.objs.size≠a:=by
   rcases ha with rfl | ha
   ·exact fC.2.1
   ·exact λ z=>fC.2.2.2.2.1 y a ha z.symm
  refine ⟨m',hm'.sameBut sb aC,λ h' hs'=>?_⟩;exact ⟨_,H',IC.turnedL (t':=s''.toks) (ch:=[G.objs.size]) (λ b o hb' e=>hs'.extBut b o (λ z=>hb' (by simp [z])) e) (λ b hb'=>by rw [cy.mp hb'];exact fC),q⟩
 exact yV (.inl ⟨el,rfl⟩) rfl rfl loop (T.self _ _ _ _ _ st4 loop)
end
theorem bX {k:Bool} {K:cf} {a:av} {xs:List V} {g:TG} {tb:TS} {D:Ends} {σ:St} {H:Hp} (Pv:Nat->St->Hp->Prop) (h0:Pv 0 σ H) (hl:∀ i σ H,i<=xs.length->Pv i σ H->SqX K k H a xs)
  (hs:∀ i x T σ H,xs[i]?=some x->H T=none->Pv i σ H->g (.ref T) σ (upd H T (.tup [.int i,x])) λ σ2 H2=>tb { D with nx:=Pv (i+1),ct:=Pv (i+1),bk:=D.nx } σ2 H2) (hd:∀ σ H,Pv xs.length σ H->D.nx σ H) :
  ∃ W:Nat->Nat->St->Hp->Prop,(∃ m,W 0 m σ H)/\∀ i m σ H,W i m σ H ->
   ((Ite k K a).stop i H/\D.nx σ H)\/((Ite k K a).go i H/\∃ N:St->Hp->Prop,(∀ σ' H',N σ' H'->∃ m',m'<m/\W (i+1) m' σ' H')/\∀ x H',(Ite k K a).yld i H x H'->g x σ H' λ σ2 H2=>tb { D with nx:=N,ct:=N,bk:=D.nx } σ2 H2):=by
 refine ⟨λ i m σ H=>m=xs.length-i/\i<=xs.length/\Pv i σ H,⟨xs.length,by simp,gm _,h0⟩,?_⟩;rintro i m σ H ⟨rfl,hle,p⟩;have q1:=hl i σ H hle p;by_cases hi:i<xs.length
 ·refine .inr ⟨⟨xs,xs[i],q1,by simp [hi]⟩,Pv (i+1),λ σ' H' q=>⟨xs.length-(i+1),by omega,rfl,by omega,q⟩,λ x H' hy=>?_⟩
  obtain ⟨T,x1,nT,rfl,e1,rfl⟩:=hy;exact hs i x1 T σ H (e1 xs q1) nT p
 ·have:i=xs.length:=by omega
  subst this;exact .inl ⟨⟨xs,q1,rfl⟩,hd σ H p⟩
theorem kCY (bs:List Bool):(cu bs.length).all (λ i=>bs.getD i false)=bs.all id:=by
 rw [gx,sh,sh];constructor
 ·intro h b hb
  obtain ⟨i,hi,rfl⟩:=eU.mp hb;have:=h i (gw.mpr hi);simpa [ai,hi] using this
 ·intro h i hi
  have hl:i<bs.length:=gw.mp hi;have:=h bs[i] (gk hl);simpa [ai,hl] using this
theorem kAZ:∀ {bs:List Bool} {its:List ar},Vals (bs.map V.bl) its->its=bs.map AN
 | [],_,r=>by cases r;rfl
 | b::bs,_,r=>by
  cases r with
  | cons r1 r2 =>
   cases r1
   rw [kAZ r2]
   rfl
section
variable {X:Cx}
theorem kFA {prog:eo} {w:iD} {A:fb} {bs:List Bool} {items:Array ar} (e:items=(bs.map AN).toArray):TruthOf prog w A (λ i v=>items[i]?=some v) (λ i=>bs.getD i false):=by
 intro i v s Q E h q;rw [e] at h;have h':(bs.map AN)[i]?=some v:=by simpa using h
 rw [bh] at h'
 cases z:bs[i]? with
 | none=>rw [z] at h';cases h'
 | some b =>
  rw [z] at h'
  cases h'
  refine me ?_;simpa [ai,z] using q
theorem nH (hc:X.calm=true):xH X (.builtin "all") (λ xs H Q=>∃ (a:av) (bs:List Bool),xs=[.ref a]/\SqL X.K H a (bs.map V.bl)/\Q (.bl (bs.all id)) H):=by
 intro pins s σ H xs us Q I r h;obtain ⟨a,bs,rfl,hS,q⟩:=h;obtain ⟨u,rfl,r1⟩:=vP r;cases r1
 obtain ⟨its,rv,ht,hz⟩:=I.list hS;have hl:=ht.isList;have hne:a≠s.heap.objs.size:=by obtain ⟨o,e,_⟩:=hl;exact dc (cm e)
 have eits:=kAZ rv;refine call_all_walk (Aj hl ⟨_,_,_,_,_,_,_,rfl,Walks.list (A:=X.A.in1) (I.ok.hd hc) _ a hne its.toArray,⟨⟨_,cn _ rfl,rfl,rfl⟩,hl.push _⟩,kFA (bs:=bs) (by rw [eits]),λ h' tk hk=>?_⟩);have e:its.toArray.size=bs.length:=by rw [eits];simp
 rw [e,kCY];refine ⟨.bl _,H,I.kept λ b o e'=>hk b o (λ z=>?_) (au _ e'),rfl,q⟩;rw [cy.mp z] at e';exact absurd (cm e') (jv _)
end
section
variable {X:Cx}
theorem kEL (hc:X.calm=true):xH X (.builtin "min") (λ xs H Q=>∃ (a:av) (ns:List Int),xs=[.ref a]/\SqL X.K H a (ns.map V.int)/\0<ns.length/\∀ M,M∈ns->(∀ i∈ns,M<=i)->Q (.int M) H):=by
 intro pins s σ H xs us Q I r h;obtain ⟨a,ns,rfl,hS,hne,q⟩:=h;obtain ⟨u,rfl,r1⟩:=vP r;cases r1
 obtain ⟨its,rv,ht,hz⟩:=I.list hS;have hi:=uO rv;obtain ⟨xs,e⟩:=hi.allInts.items;have hns:ns=xs.toList.map (·.1):=by rw [<-hi.numsOf,<-nums_intItems,<-e]
 have hsz:0<xs.size:=by
  have h3:=hne;rw [hns,ao,fm] at h3;exact h3
 have hl:=ht.isList;rw [e] at hl;refine min_intList (I.ok.hd hc) hl hsz λ v h' tk hv hk=>?_;obtain ⟨t,rfl⟩:=intItems_at hv;obtain ⟨h1,h2⟩:=argBest_lt (numAt xs) (xs.size-1);refine ⟨.int _,H,I.kept hk,⟨_,rfl⟩,q _ ?_ λ a ha=>?_⟩
 ·rw [hns,numAt_eq];exact getD_mem (by rw [ao,fm];omega)
 ·rw [hns] at ha
  obtain ⟨j,hj,rfl⟩:=mem_getD ha;rw [ao,fm] at hj;rw [<-numAt_eq];exact h2 j (by omega)
end
section
variable {X:Cx} {tg iter el tg2 iter2:iJ} {ifs ifs2:List iJ} {sc:qa} {pos:Pos} {Nc:List Str} {js:List (Option Nat)} {wi wi2:TI} {g g2:TG}
def kKR (wi2:TI) (g2:TG) (b2:TB):TB:=λ N σ H=>wi2 σ H λ J H1=>uW J g2 b2 N σ H1
theorem kFX {D:av} {b2:TB} {L:Fn} {e:iJ} (ee:e=.ListComp el [⟨tg,iter,[],0⟩,⟨tg2,iter2,ifs2,0⟩] sc pos) (hx:X.xe=λ _ _=>False) (hc:X.calm=true) (hi:PI X tg2 iter2 wi2) (hg:PG X tg2 g2)
  (hb:∀ L,PTl X (yI ifs2 X.env (do let _ <-call (.builtin "list.append") [.ref D,<-eval el X.env]) L) L b2) (hs:∀ x,foldedSetIterable iter2 X.env x=pure x) :
  PTl X (kFC [] X.env iter2 (λ i=>.compStart e 1 i (.ref D) X.env) L) L (kKR wi2 g2 b2):=by
 subst ee;intro pins s σ H N I h;unfold kFC;refine ae (Dd ?_);show eD _ _ (eval iter2 X.env >>= _) _ _ s;refine ae (thn (hi pins s σ H _ I h) λ v s1 h1=>?_);refine ae (ub (ae (wpAny_of_eq (hs v) (ae (jw (thn h1 λ itv s2 h2=>?_))))));obtain ⟨it,fp,tn,J,H2,e,I2,T,st2,f2,hw⟩:=h2;subst e;refine ae (wpAny_runOwn ?_)
 have loop:codeAny (model X.prog X.w) X.A (.compLoop (.ListComp el [⟨tg,iter,[],0⟩,⟨tg2,iter2,ifs2,0⟩] sc pos) 1 (.ref it) (.ref D) X.env)
   (λ r s'=>match r with | .ok _=>eD (model X.prog X.w) X.A (again L) (λ fin s'=>fin=.again L/\∃ σ' H',Inv X pins σ' H' s'/\N σ' H') X.xe s' | .error e=>cameBackBy (model X.prog X.w) X.A X.env X.xe e s') s2 :=
  zN (.inl ⟨el,rfl⟩) hx hc (kEX _ _ _ _ _ _ _ _ _ _ _ _) T hg (hb _) I2 st2 f2 hw λ σ' H' s' I' q=>bx ⟨rfl,σ',H',I',q⟩
 exact yV (.inl ⟨el,rfl⟩) rfl rfl loop (T.self _ _ _ _ _ st2 loop)
theorem kIU {bd:av->TB} (hx:X.xe=λ _ _=>False) (hc:X.calm=true) (hi:PI X tg iter wi) (S:CS sc X.env.scope) (cap:cD js Nc X.N sc.names=true)
  (hg:∀ C s₂ H₂ fp pins,PG (cxC X Nc sc C s₂ H₂ fp pins) tg g) (hi2:∀ C s₂ H₂ fp pins,PI (cxC X Nc sc C s₂ H₂ fp pins) tg2 iter2 wi2) (hg2:∀ C s₂ H₂ fp pins,PG (cxC X Nc sc C s₂ H₂ fp pins) tg2 g2)
  (hb:∀ C s₂ H₂ fp pins D L,PTl (cxC X Nc sc C s₂ H₂ fp pins) (yI ifs2 (cxC X Nc sc C s₂ H₂ fp pins).env (do let _ <-call (.builtin "list.append") [.ref D,<-eval el (cxC X Nc sc C s₂ H₂ fp pins).env]) L) L (bd D))
  (hs:∀ x,foldedSetIterable iter X.env x=pure x:=by intro _;rfl) (hs2:∀ C s₂ H₂ fp pins x,foldedSetIterable iter2 (cxC X Nc sc C s₂ H₂ fp pins).env x=pure x:=by intro _ _ _ _ _ _;rfl) :
  PE X (.ListComp el [⟨tg,iter,[],0⟩,⟨tg2,iter2,ifs2,0⟩] sc pos) (tLC js wi g λ D=>kKR wi2 g2 (bd D)):=by
 intro pins s σ H Q I h;rw [eval_ListComp];have hcl:closureFor sc X.env=pure (zF sc X.env):=wC λ y hy hf=>I.ok.has y.1 (.inl (S.free y hy hf));refine om (use:=none) rfl hs hcl S.kind S.names (thn (hi pins s σ H _ I h) λ v s1 h1=>thn h1 λ itv s2 h2=>?_);obtain ⟨it,fp,tn,J,H2,e,I2,T,st2,f2,hw⟩:=h2;subst e;have hlt:∀ b∈fp,b<s2.heap.objs.size:=λ b hb=>let ⟨o,ho,_⟩:=T.obj _ _ st2 b hb;cm ho;refine iX (wa S.nocell (by intro y hy;simp at hy) (λ h₁ hns₁ hsb₁=>?_) S.kind);dsimp only at hns₁ hsb₁ ⊢;generalize hH2:s2.heap.push { cls:=.type "list",dict:=none,data:=.seq ([]:List ar).toArray }=G at hns₁ hsb₁ ⊢;have hCs:G.objs.size=s2.heap.objs.size+1:=by rw [<-hH2,iu]
 have hDC:s2.heap.objs.size≠G.objs.size:=by omega
 have hCle:s2.heap.objs.size<=G.objs.size:=by omega
 have old:∀ b o,s2.heap.get? b=some o->h₁.get? b=some o:=λ b o e=>hsb₁.extBut b o (dc (cj (cm e) hCle)) (au _ (hH2 ▸ au _ e));have hacc:h₁.get? s2.heap.objs.size=some { cls:=.type "list",dict:=none,data:=.seq ([]:List ar).toArray }:=hsb₁.extBut _ _ hDC (au _ (hH2 ▸ cn _ rfl));have new:ObjOk X.prog X.w (upd H2 s2.heap.objs.size (.lst [])) h₁ s2.heap.objs.size (.lst []):=⟨gm _,[],_,.nil,hacc⟩;have I4:=bP (js:=js) (Nc:=Nc) (tk:=s2.toks+([]:List (Str×ar)).length) I2 S f2 hlt cap hCle (bq _) hDC old hns₁ new;have hn:H2 s2.heap.objs.size=none:=I2.fresh
 have f4:∀ b∈fp,zD (cxC X Nc sc G.objs.size s2 H2 fp pins) [] (upd H2 s2.heap.objs.size (.lst [])) b:=λ b hb=>by
  obtain ⟨h0,h1,h2,h3,h4,h5⟩:=f2 b hb;refine ⟨?_,dc (cj (hlt b hb) hCle),λ z=>?_,.inl hb,λ x c z=>?_,λ p hp=>?_⟩
  ·rw [kO (dc (hlt b hb))];exact h0
  ·rcases du.mp (I2.stkSub b z) with q | q
   ·exact h1 q
   ·exact h2 q
  ·exact h4 x c (aB sc.names [] (λ z=>nomatch z) z)
  ·rcases bz.mp hp with z | z
   ·exact h5 p z
   ·exact absurd z (by simp)
 have st4:tn 0 h₁:=T.keep _ _ _ st2 λ b hb o e=>old b o e
 have loop:codeAny (model X.prog X.w) X.A (.compLoop (.ListComp el [⟨tg,iter,[],0⟩,⟨tg2,iter2,ifs2,0⟩] sc pos) 0 (.ref it) (.ref s2.heap.objs.size) (compEnvC sc (zF sc X.env) G.objs.size X.env))
   (compPost (model X.prog X.w) X.A X.xe none (EP X pins σ Q) (.ref s2.heap.objs.size) G.objs.size) { s2 with heap:=h₁,toks:=s2.toks+([]:List (Str×ar)).length }:=by
  refine zN (X:=cxC X Nc sc G.objs.size s2 H2 fp pins) (.inl ⟨el,rfl⟩) hx hc (kEY _ _ _ _ _ _ _ _ _ _ _ _) T (hg _ _ _ _ _)
   (kFX (X:=cxC X Nc sc G.objs.size s2 H2 fp pins) rfl hx hc (hi2 _ _ _ _ _) (hg2 _ _ _ _ _) (λ L=>hb _ _ _ _ _ _ L) (hs2 _ _ _ _ _)) I4 st4 f4 (hw _ hn) λ σ' H' s' I' q=>?_
  obtain ⟨m',hm',_⟩:=I'.loc;exact ⟨m',hm',λ h' hs'=>⟨.ref s2.heap.objs.size,H',bQ I2 f2 hCle I' hs',rfl,q⟩⟩
 exact yV (.inl ⟨el,rfl⟩) rfl rfl loop (T.self _ _ _ _ _ st4 loop)
end
open AutoSeq1 (wpAny_loadPart')
theorem kCR (l:av) (items:Array ar) (n:Nat) (dd:Option av) (sl:Array (Option ar)) (x:ar) (e:ar->Bool) (j:Nat) (hj:j<items.size) (hit:e items[j]=true) (hno:∀ m (hm:m<items.size),m<j->e items[m]=false) :
  Meets (AK.«tuple.index» ⟨[.ref l,x],[]⟩) (λ A R s=>s.heap.get? l=some { cls:=.type "tuple",dict:=dd,data:=.seq items n,slots:=sl }/\(∀ y,y∈items->Dw A.in1 s y x (e y))/\R (.ok (.ret (.int j s.toks))) { s with toks:=s.toks+1 }) :=
 .of_wp λ prog w A R s h=>by
  obtain ⟨hp,g,d,tk,os⟩:=s;obtain ⟨hl,he,h⟩:=h
  wp_walk using xn hl
  have hR:∀ (f:Nat->Option ui×PUnit->Sem (ForInStep (Option ui×PUnit))) (Q:Option ui×PUnit->ay->Prop) (E:ar->ay->Prop) (s0:ay),
    eD (model prog w) A.in1 (forIn (jb 0 items.size) ((none:Option ui),Fe) f) Q E s0->eD (model prog w) A.in1 (forIn [:min items.size items.size] ((none:Option ui),Fe) f) Q E s0:=λ f Q E s0 z=>by
   rw [ow];simpa [yp] using z
  refine hR (λ i __s=>match items[i]? with
      | some y=>do
       if <-eqBool y x then do
         let r <-retInt (i:Nat)
         pure (wb (some r,()))
        else pure (iW (none,()))
      | _=>pure (iW (none,()))) _ _ _ ?_
  refine yu _ (λ rest b s'=>b.1=none/\s'=⟨hp,g,d,tk,os⟩/\∃ i,i<=j/\rest=jb i (items.size-i)) _ ?_ ?_ _ _ ⟨rfl,rfl,0,gm _,by simp⟩
  ·rintro y rest b s' ⟨hb,rfl,i,hi,er⟩
   have hlt:i<items.size:=by omega
   rw [show items.size-i=(items.size-(i+1))+1 by omega,uj] at er;injection er with e1 e2
   subst e1;have hg:items[y]?=some items[y]:=by simp [hlt]
   simp only [hg];refine ae (he _ (An hlt) prog w _ _ ?_);by_cases c:y=j
   ·subst c
    rw [hit]
    wp_walk
    exact ⟨_,rfl,h⟩
   ·rw [hno y hlt (by omega)]
    wp_walk
    exact ⟨rfl,rfl,y+1,by omega,e2⟩
  ·rintro b s' ⟨hb,rfl,i,hi,er⟩
   have:fz ([]:List Nat)=items.size-i:=by rw [er,CO]
   simp at this;omega
section
variable {X:Cx}
def kIO (K:cf):V->List V->Hp->VK->Prop:=λ x vs H Q=>∃ (l:av) (ns:List Int) (n:Int) (j:Nat),x=.ref l/\vs=[.int n]/\SqT K H l (ns.map V.int)/\fO ns n j/\Q (.int j) H
theorem dA:MtM X "tuple.index" (kIO X.K):=by
 intro pins s σ H x vs v us Q I rx rv h;obtain ⟨l,ns,n,j,rfl,rfl,hH,hj,q⟩:=h;cases rx
 obtain ⟨u,rfl,t,rfl⟩:=rv.one;obtain ⟨its,r,⟨⟨cls,dd,dt,sl⟩,ho,hc,m,hd⟩,hz⟩:=I.tuple hH;simp only at hc hd;subst hc hd;obtain ⟨h1,h2,h3⟩:=nE r hj;refine Aa F.slot_tuple_index ⟨_,ho,rfl⟩ F.entry_tuple_index (F.args_tuple_index_2 _ _) (kCR l its.toArray m dd sl (.int n t) (lM n) j h1 h2 h3) ⟨ho,λ y hy=>(aX r n t y hy).at _ _,?_⟩;exact ⟨.int j,H,I.tok _,⟨_,rfl⟩,q⟩
end
end L2
namespace L2
open PySem PySem.Spec PyProof.Rows
theorem fJ {X:Cx} {st:nj}:PS X st (λ _ _ _=>False):=λ _ _ _ _ _ _ h=>h.elim
section
variable {X:Cx} {tg iter kx vx:iJ} {ifs:List iJ} {sc:qa} {pos:Pos} {Nc:List Str} {js:List (Option Nat)} {wi:TI}
def kBW (kx vx:iJ) (env:Env) (acc:ar):Sem Unit:=do
 let kv <-eval kx env
 let vv <-holding [kv] (eval vx env)
 match acc with
 | .ref d=>do
  standAt (have __src:=kx.pos;{ line:=__src.line,col:=__src.col,endLine:=vx.pos.endLine,endCol:=vx.pos.endCol })
  holding [kv,vv] (dictSet d kv vv)
 | _=>unsupported "internal:dictcomp"
theorem kID (kx vx tg iter:iJ) (ifs:List iJ) (sc:qa) (pos:Pos) (it acc:ar) (env:Env) :
  compTurn (.DictComp kx vx [⟨tg,iter,ifs,0⟩] sc pos) 0 it acc env=(standAt iter.pos >>= λ _=>pyNext it >>= λ r=>match r with
   | none=>pure (.done .next)
   | some v=>letOwnedTupleGo tg it v >>= λ _=>assign tg env v >>= λ _=>yI ifs env (kBW kx vx env acc) (.compLoop (.DictComp kx vx [⟨tg,iter,ifs,0⟩] sc pos) 0 it acc env)):=by rfl
theorem bW {prog:eo} {w:iD} {A:fb} {E:ar->ay->Prop} {s:ay} {t sl:av} {items:Array ar} {vl vu:ar} {lo hi:Option Int} {Q:ar->ay->Prop} (ht:Dm s.heap t items) (hs:s.heap.IsSliceOf sl vl vu .none) (pl:BN vl lo) (pu:BN vu hi)
  (hw:HT.sIx items.size 0 lo=0/\HT.sIx items.size items.size hi=items.size) (h:Q (.ref t) s):eD (model prog w) A (getItem (.ref t) (.ref sl)) Q E s:=by
 obtain ⟨os,hos,hcs,hds⟩:=id hs;have hTs:s.TypeIs (.ref sl) "slice":=⟨os,hos,hcs⟩;unfold getItem
 try with_reducible refine jw ?_
 first | refine ae (bx ?_) | skip
 refine ae (Ck ht.typeIs (by decide) ?_)
 refine ae (lu (name:=yf "__getitem__") ht.typeIs ik
  (qh ik ht.typeIs Bx ?_ (CJ _ _)))
 show eD _ _ (AZ (.ref t) >>= _) _ _ s;refine ae (tupleItemsOf_ ht ?_);refine ae (yg hTs ?_);rw [if_pos (by decide)];refine ae (HT.sliceApplied_gen hs pl pu ?_);show eD _ _ (if (((HT.sIx items.size 0 lo:Nat):Int) == 0 && (1:Int) == 1 && (HT.sIx items.size items.size hi-HT.sIx items.size 0 lo) == items.size)=true then _ else _) _ _ s;rw [if_pos (by rw [hw.1,hw.2];simp)];unfold EE
 first
  | refine ae (ae (yg ht.typeIs (bx ?_)))
  | refine ae (yg ht.typeIs (bx ?_))
 rw [if_pos (by decide)];exact ae (vy (bx ⟨_,rfl,bx h⟩))
def kNK (K:cf):V->Option Int->Option Int->Hp->VK->Prop:=λ x lo hi H Q=>∃ a xs,x=.ref a/\SqT K H a xs /\
 (HT.sIx xs.length 0 lo=0/\HT.sIx xs.length xs.length hi=xs.length)/\Q (.ref a) H
theorem kIJ:SlR X (kNK X.K):=by
 intro pins s σ H x v vl vu lo hi sl Q I rx hs pl pu h;obtain ⟨a,xs,rfl,hx,hw,q⟩:=h;cases rx
 obtain ⟨its,r,ht,hz⟩:=I.tuple hx;have hlen:its.toArray.size=xs.length:=by rw [eV];exact r.length.symm
 refine ⟨"tuple",_,ik.lookup,ht.typeIs,?_⟩;exact bW ht hs pl pu (by rw [hlen];exact hw) ⟨.ref a,H,I,rfl,q⟩
def kPA (K:cf):V->Option Int->Option Int->Hp->VK->Prop:=λ x lo hi H Q=>kNJ K x lo hi H Q\/kNK K x lo hi H Q
theorem oC:SlR X (kPA X.K):=sl_tup.or kIJ
end
end L2
namespace Cyc
def Adj:List Nat->Nat->Nat->Prop
 | x::y::r,a,b=>(a=x/\b=y)\/Adj (y::r) a b
 | _,_,_=>False
def Nx (row:List Nat) (a b:Nat):Prop:=Adj (row++row.head?.toList) a b
theorem kCG (x a b:Nat):¬ Adj [x] a b:=id
theorem uQ (x y:Nat) (r:List Nat) (a b:Nat):Adj (x::y::r) a b↔(a=x/\b=y)\/Adj (y::r) a b:=Ao
theorem qY:∀ (l:List Nat) (x:Nat) (r:List Nat) (a b:Nat),Adj (l++x::r) a b↔Adj (l++[x]) a b\/Adj (x::r) a b
 | [],x,r,a,b=>⟨.inr,λ h=>h.elim (λ z=>(kCG x a b z).elim) id⟩
 | [y],x,r,a,b=>by
  show (a=y/\b=x)\/Adj (x::r) a b↔((a=y/\b=x)\/Adj [x] a b)\/Adj (x::r) a b;have:=kCG x a b;exact ⟨λ h=>h.elim (λ z=>.inl (.inl z)) .inr,λ h=>h.elim (λ z=>z.elim .inl λ q=>(this q).elim) .inr⟩
 | y::z::l,x,r,a,b=>by
  have ih:=qY (z::l) x r a b;show (a=y/\b=z)\/Adj (z::l++x::r) a b↔((a=y/\b=z)\/Adj (z::l++[x]) a b)\/Adj (x::r) a b;rw [ih];exact ⟨λ h=>h.elim (λ q=>.inl (.inl q)) λ q=>q.elim (λ q=>.inl (.inr q)) .inr,λ h=>h.elim (λ q=>q.elim .inl λ q=>.inr (.inl q)) λ q=>.inr (.inr q)⟩
theorem vN:∀ {l:List Nat} {a b:Nat},Adj l a b->a∈l/\b∈l.tail
 | [],_,_,h=>h.elim
 | [_],_,_,h=>h.elim
 | x::y::r,a,b,h=>by
  rcases h with ⟨rfl,rfl⟩ | h
  ·exact ⟨eQ,eQ⟩
  ·have:=vN h
   exact ⟨dj _ this.1,dj _ this.2⟩
theorem kBJ (x:Nat) (r:List Nat) (a b:Nat):Nx (x::r) a b↔Adj (x::r++[x]) a b:=Ao
theorem xJ (A C:List Nat) (a b:Nat):Nx (A++C) a b↔Nx (C++A) a b:=by
 cases A with
 | nil=>rw [jr,iN]
 | cons a0 A' =>
  cases C with
  | nil=>rw [jr,iN]
  | cons c0 C' =>
   have e1:Nx (a0::A'++c0::C') a b↔Adj ((a0::A')++c0::(C'++[a0])) a b:=by
    show Adj ((a0::A'++c0::C')++[a0]) a b↔_;rw [cv];exact Ao
   have e2:Nx (c0::C'++a0::A') a b↔Adj ((c0::C')++a0::(A'++[c0])) a b:=by
    show Adj ((c0::C'++a0::A')++[c0]) a b↔_;rw [cv];exact Ao
   rw [e1,e2,qY (a0::A') c0,qY (c0::C') a0];exact Or.comm
theorem bL (v:Nat) (R:List Nat) (a b:Nat):Nx (v::R) a b↔(a=v/\b=(R++[v]).headD 0)\/Adj (R++[v]) a b:=by
 rw [kBJ]
 cases R with
 | nil=>exact Ao
 | cons y r=>exact Ao
theorem jP:∀ {R:List Nat} {v a b:Nat},v∉R->Adj (R++[v]) a b->a≠v
 | [],_,_,_,_,h=>h.elim
 | x::r,v,a,b,hv,h=>by
  have hv':v∉r:=λ z=>hv (dj _ z);have hx:x≠v:=λ z=>hv (by rw [z];exact eQ)
  cases r with
  | nil =>
   rcases h with ⟨rfl,_⟩ | h
   ·exact hx
   ·exact h.elim
  | cons y r' =>
   rcases h with ⟨rfl,_⟩ | h
   ·exact hx
   ·exact jP hv' h
theorem kLX {A B:List Nat} {v w:Nat} (nd:(A++v::B).Nodup) (hw:w∉A++v::B) (a b:Nat) :
  Nx (A++v::w::B) a b↔(a=v/\b=w)\/(a=w/\Nx (A++v::B) v b)\/(a≠v/\Nx (A++v::B) a b):=by
 rw [xJ A (v::w::B),xJ A (v::B),xJ A (v::B)];simp only [iC]
 have nv:v∉B++A:=λ z=>by
  rw [be] at nd;rcases bz.mp z with z | z
  ·exact (fc.mp nd.2.1).1 z
  ·exact nd.2.2 v z v eQ rfl
 have nw:w≠v:=λ z=>hw (by rw [z];simp);generalize hR:B++A=R at nv;rw [bL,bL,bL];have e1:(w::R++[v]).headD 0=w:=rfl
 have e2:Adj (w::R++[v]) a b↔(a=w/\b=(R++[v]).headD 0)\/Adj (R++[v]) a b:=by
  cases R with
  | nil=>exact Ao
  | cons y r=>exact Ao
 rw [e1,e2];constructor
 ·rintro (h | h | h)
  ·exact .inl h
  ·exact .inr (.inl ⟨h.1,.inl ⟨rfl,h.2⟩⟩)
  ·exact .inr (.inr ⟨jP nv h,.inr h⟩)
 ·rintro (h | ⟨h,h'⟩ | ⟨h,h'⟩)
  ·exact .inl h
  ·rcases h' with ⟨_,z⟩ | z
   ·exact .inr (.inl ⟨h,z⟩)
   ·exact (jP nv z rfl).elim
  ·rcases h' with ⟨z,_⟩ | z
   ·exact (h z).elim
   ·exact .inr (.inr z)
theorem dY:∀ {l:List Nat} {a a' b:Nat},l.tail.Nodup->Adj l a b->Adj l a' b->a=a'
 | [],_,_,_,_,h,_=>h.elim
 | [_],_,_,_,_,h,_=>h.elim
 | x::y::r,a,a',b,nd,h,h'=>by
  have nd':(y::r).Nodup:=nd;rcases h with ⟨rfl,rfl⟩ | h
  ·rcases h' with ⟨rfl,_⟩ | h'
   ·rfl
   ·exact ((fc.mp nd').1 (vN h').2).elim
  ·rcases h' with ⟨rfl,rfl⟩ | h'
   ·exact ((fc.mp nd').1 (vN h).2).elim
   ·exact dY (l:=y::r) (fc.mp nd').2 h h'
theorem vW {row:List Nat} {v:Nat} (h:v∈row):∃ A B,row=A++v::B:=ux h
theorem cV {A B:List Nat} {v:Nat} (nd:(A++v::B).Nodup):v∉B++A/\(B++A).Nodup:=by
 rw [be] at nd;obtain ⟨n1,n2,n3⟩:=nd;obtain ⟨n4,n5⟩:=fc.mp n2;refine ⟨λ z=>?_,?_⟩
 ·rcases bz.mp z with z | z
  ·exact n4 z
  ·exact n3 v z v eQ rfl
 ·rw [be]
  exact ⟨n5,n1,λ a ha b hb e=>n3 b hb a (dj _ ha) e.symm⟩
theorem qC {row:List Nat} {a b:Nat} (h:Nx row a b):a∈row/\b∈row:=by
 cases row with
 | nil=>exact h.elim
 | cons x r =>
  have q:=vN h;constructor
  ·rcases bz.mp q.1 with z | z
   ·exact z
   ·exact du.mpr (.inl (by simpa using z))
  ·rcases bz.mp q.2 with z | z
   ·exact dj _ z
   ·exact du.mpr (.inl (by simpa using z))
theorem jU {row:List Nat} {a b b':Nat} (nd:row.Nodup) (h:Nx row a b) (h':Nx row a b'):b=b':=by
 obtain ⟨A,B,rfl⟩:=vW (qC h).1;rw [xJ] at h h';simp only [iC] at h h';obtain ⟨n1,n2⟩:=cV nd;rw [bL] at h h';rcases h with ⟨_,rfl⟩ | h
 ·rcases h' with ⟨_,rfl⟩ | h'
  ·rfl
  ·exact (jP n1 h' rfl).elim
 ·exact (jP n1 h rfl).elim
theorem xC {row:List Nat} {a a' b:Nat} (nd:row.Nodup) (h:Nx row a b) (h':Nx row a' b):a=a':=by
 obtain ⟨A,B,rfl⟩:=vW (qC h).2;rw [xJ] at h h';simp only [iC] at h h';obtain ⟨n1,n2⟩:=cV nd;rw [kBJ] at h h';refine dY ?_ h h';show (B++A++[b]).Nodup;rw [be];exact ⟨n2,by simp,λ x hx y hy e=>n1 (by simp at hy;rw [<-hy,<-e];exact hx)⟩
end Cyc
namespace Tri
open Cyc
abbrev Rows:=List (List Nat)
def R (L:Rows) (q a b:Nat):Prop:=∃ row,L[q]?=some row/\Nx row a b
def E (L:Rows) (a b:Nat):Prop:=∃ row,L[a]?=some row/\b∈row
inductive Reach (L:Rows):Nat->Nat->Prop
 | here (a:Nat):Reach L a a
 | more {a b c:Nat}:Reach L a b->E L b c->Reach L a c
theorem Reach.trans {L:Rows} {a b c:Nat} (h:Reach L a b) (h':Reach L b c):Reach L a c:=by
 induction h' with
 | here=>exact h
 | more _ e ih=>exact .more ih e
theorem Reach.by {L L':Rows} (h:∀ a b,E L a b->Reach L' a b) {a b:Nat} (r:Reach L a b):Reach L' a b:=by
 induction r with
 | here=>exact .here _
 | more _ e ih=>exact ih.trans (h _ _ e)
structure Good (L:Rows):Prop where
 three:3<=L.length
 ne:∀ (p:Nat) (row:List Nat),L[p]?=some row->row≠[]
 nd:∀ (p:Nat) (row:List Nat),L[p]?=some row->row.Nodup
 rng:∀ (p:Nat) (row:List Nat) (a:Nat),L[p]?=some row->a∈row->a<L.length/\a≠p
 tri:∀ q a b,R L q a b->R L a b q
 con:∀ p,p<L.length->Reach L 0 p
 tot:(L.map fz).sum+12=6*L.length
theorem kNH {L:Rows} {row:List Nat} (x a b:Nat):R (L++[row]) x a b↔R L x a b\/(x=L.length/\Nx row a b):=by
 unfold R;rcases yk x L.length with h | h | h
 ·rw [bg h]
  constructor
  ·exact .inl
  ·rintro (z | ⟨z,_⟩)
   ·exact z
   ·omega
 ·subst h
  rw [bb (bq _),qv (bq _)];simp
 ·rw [qv (by simp;omega),qv (by omega)]
  constructor
  ·rintro ⟨_,z,_⟩;cases z
  ·rintro (⟨_,z,_⟩ | ⟨z,_⟩)
   ·cases z
   ·omega
theorem kAS {L:Rows} {q a b:Nat} (h:R L q a b):E L q a/\E L q b:=by
 obtain ⟨row,e,n⟩:=h;exact ⟨⟨row,e,(qC n).1⟩,⟨row,e,(qC n).2⟩⟩
theorem kFU {L:Rows} (G:Good L) {q a b:Nat} (h:R L q a b):q<L.length/\a<L.length/\b<L.length/\a≠q/\b≠q:=by
 obtain ⟨row,e,n⟩:=h;have m:=qC n;have:=G.rng q row a e m.1;have:=G.rng q row b e m.2;have:q<L.length:=(aq.mp e).1;omega
theorem mN {row:List Nat} {b:Nat} (h:b∈row):∃ a,Nx row a b:=by
 obtain ⟨A,B,rfl⟩:=vW h
 have key:∀ (R:List Nat),∃ a,Nx (b::R) a b:=by
  intro R
  cases R with
  | nil=>exact ⟨b,.inl ⟨rfl,rfl⟩⟩
  | cons y r =>
   have:∀ (r:List Nat) (y:Nat),∃ a,Adj (y::r++[b]) a b:=by
    intro r
    induction r with
    | nil=>intro y;exact ⟨y,.inl ⟨rfl,rfl⟩⟩
    | cons z r ih=>intro y;obtain ⟨a,q⟩:=ih z;exact ⟨a,.inr q⟩
   obtain ⟨a,q⟩:=this r y;exact ⟨a,.inr q⟩
 obtain ⟨a,q⟩:=key (B++A);exact ⟨a,(xJ A (b::B) a b).mpr q⟩
theorem vF {row:List Nat} {a:Nat} (h:a∈row):∃ b,Nx row a b:=by
 obtain ⟨A,B,rfl⟩:=vW h;refine ⟨(B++A++[a]).headD 0,(xJ A (a::B) _ _).mpr ?_⟩;exact (bL a (B++A) a _).mpr (.inl ⟨rfl,rfl⟩)
theorem Good.sym {L:Rows} (G:Good L) {a b:Nat} (h:E L a b):E L b a:=by
 obtain ⟨row,e,m⟩:=h;obtain ⟨c,n⟩:=vF m;have:=G.tri a b c ⟨row,e,n⟩;exact (kAS this).2
def vU (row:List Nat) (v w:Nat):List Nat:=row.take (row.idxOf v+1)++w::row.drop (row.idxOf v+1)
theorem dG {A B:List Nat} {v:Nat} (h:v∉A):(A++v::B).idxOf v=A.length:=by
 rw [List.idxOf_append,if_neg h];simp
theorem vX {row:List Nat} {v:Nat} (h:v∈row) (nd:row.Nodup):∃ A B,row=A++v::B/\v∉A/\v∉B:=by
 obtain ⟨A,B,rfl⟩:=vW h;have q:=cV nd;exact ⟨A,B,rfl,λ z=>q.1 (bu _ z),λ z=>q.1 (az _ z)⟩
theorem oZ {A B:List Nat} {v w:Nat} (h:v∉A):vU (A++v::B) v w=A++v::w::B:=by
 unfold vU;rw [dG h];have e:A++v::B=(A++[v])++B:=by simp
 rw [e,qt (by simp),uf (by simp)];simp
theorem kJG {row:List Nat} {v w:Nat} (h:v∈row) (nd:row.Nodup) (hw:w∉row) (a b:Nat):Nx (vU row v w) a b↔(a=v/\b=w)\/(a=w/\Nx row v b)\/(a≠v/\Nx row a b):=by
 obtain ⟨A,B,rfl,hA,hB⟩:=vX h nd;rw [oZ hA];exact kLX nd hw a b
theorem aZ:∀ (L:Rows) (p:Nat) (row new:List Nat),L[p]?=some row->((L.set p new).map fz).sum+row.length=(L.map fz).sum+new.length
 | [],p,row,new,h=>by simp at h
 | x::r,0,row,new,h=>by
  simp at h;subst h;simp;omega
 | x::r,p+1,row,new,h=>by
  simp at h;have q:=aZ r p row new h;simp only [List.set_cons_succ,ft,Az];omega
theorem nx3 (p q r a b:Nat):Nx [p,q,r] a b↔(a=p/\b=q)\/(a=q/\b=r)\/(a=r/\b=p):=by
 show ((a=p/\b=q)\/(a=q/\b=r)\/(a=r/\b=p)\/False)↔_;simp
theorem kJI {L:Rows} {p:Nat} {new:List Nat} (hp:p<L.length) {x:Nat} {row:List Nat} (h:(L.set p new)[x]?=some row):(x=p/\row=new)\/(x≠p/\L[x]?=some row):=by
 by_cases e:x=p
 ·subst e
  rw [je hp] at h;exact .inl ⟨rfl,(bj h).symm⟩
 ·rw [ja (uq e)] at h
  exact .inr ⟨e,h⟩
theorem kHM {L:Rows} {row:List Nat} {x b:Nat} (h:E L x b):E (L++[row]) x b:=by
 obtain ⟨r,e,m⟩:=h;exact ⟨r,by rw [bg (aq.mp e).1];exact e,m⟩
section
variable {L:Rows} {p q r:Nat} {rp rq rr:List Nat}
end
section
variable {L:Rows} {p q r s:Nat} {rp rq rr rs:List Nat}
end
def xV (row:List Nat) (p:Nat):Option Nat:=if row.idxOf p=0 then row.getLast? else row[row.idxOf p-1]?
theorem uL {row:List Nat} {p v:Nat} (nd:row.Nodup) (hp:p∈row) (h:xV row p=some v):Nx row v p:=by
 obtain ⟨A,B,rfl,hA,hB⟩:=vX hp nd;unfold xV at h;rw [dG hA] at h;by_cases h0:A.length=0
 ·have:A=[]:=iY.mp h0
  subst this;rw [if_pos h0,jr] at h;show Adj (p::B++[p]) v p
  have e:p::B=(p::B).dropLast++[v]:=by
   rw [eN (wm p B)] at h;rw [<-bj h];exact (eR (wm p B)).symm
  rw [e,cv];exact (qY _ v [p] v p).mpr (.inr (.inl ⟨rfl,rfl⟩))
 ·rw [if_neg h0] at h
  rw [bg (by omega)] at h;have ne:A≠[]:=λ z=>h0 (by rw [z];rfl)
  have e:A=A.dropLast++[v]:=by
   have z:A.getLast?=some v:=by rw [eh];exact h
   rw [eN ne] at z;rw [<-bj z];exact (eR ne).symm
  rw [e,cv];rw [xJ];show Nx (v::(p::B)++A.dropLast) v p;exact .inl ⟨rfl,rfl⟩
theorem oJ {row:List Nat} {p:Nat} (hp:p∈row):∃ v,xV row p=some v:=by
 have hl:=gh hp;unfold xV
 split
 ·have ne:row≠[]:=λ z=>by rw [z] at hp;cases hp
  exact ⟨_,eN ne⟩
 ·exact ⟨_,aa (show row.idxOf p-1<row.length by omega)⟩
end Tri
namespace Rnd
open Cyc Tri
section
variable {α:Type} [DecidableEq α]
def it (f:α->α):Nat->α->α
 | 0,x=>x
 | n+1,x=>f (it f n x)
theorem uC (f:α->α) (m n:Nat) (x:α):it f (m+n) x=it f m (it f n x):=by
 induction m with
 | zero=>rw [BR];rfl
 | succ m ih=>rw [Nat.succ_add];show f _=f _;rw [ih]
structure Perm (f:α->α) (S:List α):Prop where
 to:∀ x,x∈S->f x∈S
 one:∀ x y,x∈S->y∈S->f x=f y->x=y
theorem Perm.it {f:α->α} {S:List α} (h:Perm f S) (n:Nat) {x:α} (hx:x∈S):it f n x∈S:=by
 induction n with
 | zero=>exact hx
 | succ n ih=>exact h.to _ ih
theorem Perm.back {f:α->α} {S:List α} (h:Perm f S) (n:Nat) {x y:α} (hx:x∈S) (hy:y∈S) (e:Rnd.it f n x=Rnd.it f n y):x=y:=by
 induction n with
 | zero=>exact e
 | succ n ih=>exact ih (h.one _ _ (h.it n hx) (h.it n hy) e)
theorem dB {f:Nat->α}:∀ (n:Nat),(∀ i j,i<j->j<n->f i≠f j)->((cu n).map f).Nodup
 | 0,_=>by simp
 | n+1,h=>by
  rw [yv,eI,be];refine ⟨dB n λ i j a b=>h i j a (by omega),by simp,λ a ha b hb=>?_⟩;obtain ⟨i,hi,rfl⟩:=iO.mp ha;have:b=f n:=by simpa using hb
  subst this;exact h i n (gw.mp hi) (by omega)
theorem Perm.comes {f:α->α} {S:List α} (h:Perm f S) {x:α} (hx:x∈S):∃ k,0<k/\k<=S.length/\Rnd.it f k x=x/\∀ j,0<j->j<k->Rnd.it f j x≠x:=by
 have some:∃ k,0<k/\k<=S.length/\Rnd.it f k x=x:=by
  refine iV λ no=>?_
  have nd:((cu (S.length+1)).map λ i=>Rnd.it f i x).Nodup:=dB _ λ i j hij hj e=>by
   refine no ⟨j-i,by omega,by omega,?_⟩
   have e2:Rnd.it f i (Rnd.it f (j-i) x)=Rnd.it f i x:=by
    rw [<-uC,show i+(j-i)=j by omega];exact e.symm
   exact h.back i (h.it _ hx) hx e2
  have le:=de nd (l₂:=S) λ y hy=>by
   obtain ⟨i,_,rfl⟩:=iO.mp hy;exact h.it i hx
  rw [ao,fv] at le;omega
 obtain ⟨k0,p0,l0,e0⟩:=some
 have kBM:∀ n,(∃ k,0<k/\k<=n/\Rnd.it f k x=x)->∃ k,0<k/\k<=n/\Rnd.it f k x=x/\∀ j,0<j->j<k->Rnd.it f j x≠x:=λ n=>by
  induction n with
  | zero=>rintro ⟨k,a,b,_⟩;omega
  | succ n ih =>
   intro hk;by_cases c:∃ k,0<k/\k<=n/\Rnd.it f k x=x
   ·obtain ⟨k,a,b,e,m⟩:=ih c
    exact ⟨k,a,by omega,e,m⟩
   ·obtain ⟨k,a,b,e⟩:=hk
    refine ⟨k,a,b,e,λ j j0 jk ej=>c ⟨j,j0,by omega,ej⟩⟩
 exact kBM S.length ⟨k0,p0,l0,e0⟩
theorem Perm.round_nodup {f:α->α} {S:List α} (h:Perm f S) {x:α} (hx:x∈S) {k:Nat} (m:∀ j,0<j->j<k->Rnd.it f j x≠x):((cu k).map λ i=>Rnd.it f i x).Nodup:=dB _ λ i j hij hj e=>by
 refine m (j-i) (by omega) (by omega) ?_
 have e2:Rnd.it f i (Rnd.it f (j-i) x)=Rnd.it f i x:=by
  rw [<-uC,show i+(j-i)=j by omega];exact e.symm
 exact h.back i (h.it _ hx) hx e2
end
def kP (W:Rows):List (Nat×Nat):=(cu W.length).flatMap λ p=>(W.getD p []).map λ q=>(p,q)
theorem mem_steps {W:Rows} {p q:Nat}:(p,q)∈kP W↔E W p q:=by
 unfold kP E;rw [yw];constructor
 ·rintro ⟨p',hp,h⟩
  obtain ⟨q',hq,e⟩:=iO.mp h;cases e
  have hl:=gw.mp hp;refine ⟨W[p],aa hl,?_⟩;simpa [ai,hl] using hq
 ·rintro ⟨row,e,h⟩
  have hl:=(aq.mp e).1;refine ⟨p,gw.mpr hl,iO.mpr ⟨q,?_,rfl⟩⟩;rw [ai,e];exact h
def nxt (W:Rows) (s:Nat×Nat):Nat×Nat:=(s.2,(xV (W.getD s.2 []) s.1).getD 0)
theorem gQ {W:Rows} (nd:∀ (p:Nat) (row:List Nat),W[p]?=some row->row.Nodup) (sym:∀ a b,E W a b->E W b a):Perm (nxt W) (kP W):=by
 have look:∀ p q,(p,q)∈kP W->∃ row v,W[q]?=some row/\p∈row/\xV row p=some v/\nxt W (p,q)=(q,v)/\Nx row v p:=λ p q h=>by
  obtain ⟨row,e,m⟩:=sym p q (mem_steps.mp h);obtain ⟨v,hv⟩:=oJ m;refine ⟨row,v,e,m,hv,?_,uL (nd q row e) m hv⟩;unfold nxt;rw [ai,e];show (q,(xV row p).getD 0)=(q,v);rw [hv]
  rfl
 refine ⟨λ s h=>?_,λ s t hs ht e=>?_⟩
 ·obtain ⟨p,q⟩:=s
  obtain ⟨row,v,e1,e2,e3,e4,e5⟩:=look p q h;rw [e4];exact mem_steps.mpr ⟨row,e1,(qC e5).1⟩
 ·obtain ⟨p,q⟩:=s
  obtain ⟨p',q'⟩:=t;obtain ⟨row,v,e1,e2,e3,e4,e5⟩:=look p q hs;obtain ⟨row',v',f1,f2,f3,f4,f5⟩:=look p' q' ht;rw [e4,f4] at e;have eq:q=q':=congrArg Ab e;have ev:v=v':=congrArg BH e;subst eq ev;rw [e1] at f1;cases f1
  rw [jU (nd q row e1) e5 f5]
end Rnd
namespace Tri
section
variable {R R':Nat->Nat->Nat->Prop} {N N' K:Nat->Nat->Prop} {inP:Nat->Prop} {f l w:Nat}
structure Put (R R':Nat->Nat->Nat->Prop) (N N' K:Nat->Nat->Prop) (inP:Nat->Prop) (f l w:Nat):Prop where
 n':∀ a b,N' a b↔(a=f/\b=w)\/(a=w/\b=l)\/(N a b/\(¬ inP a\/a=l))
 r':∀ q a b,R' q a b↔(q=w/\(K a b\/(a=l/\b=f)))\/(inP q/\N q a/\b=w)\/(inP q/\a=w/\N b q)\/(R q a b/\¬ (inP q/\N q a))
 fl:f≠l
 pf:inP f
 pl:inP l
 k:∀ a b,K a b->N a b/\inP a/\inP b/\a≠l/\b≠f
 ka:∀ a b,inP a->a≠l->N a b->K a b
 kb:∀ a b,inP b->b≠f->N a b->K a b
 nf:∀ a b,N a b->a≠w/\b≠w
 rf:∀ q a b,R q a b->q≠w/\a≠w/\b≠w
 wP:¬ inP w
 n1:∀ a b b',N a b->N a b'->b=b'
 n2:∀ a a' b,N a b->N a' b->a=a'
 ex:∀ a,inP a->∃ b,N b a
theorem Put.out (h:Put R R' N N' K inP f l w) (out:∀ q a b,N q a->N b q->R q a b):∀ q a b,N' q a->N' b q->R' q a b:=by
 intro q a b h1 h2;rw [h.n'] at h1 h2;rw [h.r'];rcases h1 with ⟨rfl,rfl⟩ | ⟨rfl,rfl⟩ | ⟨h1,h3⟩
 ·rcases h2 with ⟨_,e⟩ | ⟨_,e⟩ | ⟨h2,_⟩
  ·exact absurd (e ▸ h.pf) h.wP
  ·exact absurd e h.fl
  ·exact .inr (.inr (.inl ⟨h.pf,rfl,h2⟩))
 ·rcases h2 with ⟨rfl,_⟩ | ⟨_,e⟩ | ⟨h2,_⟩
  ·exact .inl ⟨rfl,.inr ⟨rfl,rfl⟩⟩
  ·exact absurd (e ▸ h.pl) h.wP
  ·exact absurd rfl (h.nf _ _ h2).2
 ·rcases h2 with ⟨_,e⟩ | ⟨rfl,rfl⟩ | ⟨h2,h4⟩
  ·exact absurd e (h.nf _ _ h1).1
  ·exact .inr (.inl ⟨h.pl,h1,rfl⟩)
  ·rcases h3 with h3 | rfl
   ·exact .inr (.inr (.inr ⟨out _ _ _ h1 h2,λ z=>h3 z.1⟩))
   ·obtain ⟨_,k1,_,k2,_⟩:=h.k _ _ (h.kb _ _ h.pl h.fl.symm h2)
    rcases h4 with h4 | h4
    ·exact absurd k1 h4
    ·exact absurd h4 k2
theorem Put.tri (h:Put R R' N N' K inP f l w) (tri:∀ q a b,R q a b->¬ N q a->R a b q/\¬ N a b):∀ q a b,R' q a b->¬ N' q a->R' a b q/\¬ N' a b:=by
 intro q a b h1 h2;rw [h.n'] at h2 ⊢;rw [h.r'] at h1 ⊢;have fw:f≠w:=λ e=>h.wP (e ▸ h.pf);have lw:l≠w:=λ e=>h.wP (e ▸ h.pl);rcases h1 with ⟨rfl,h1 | ⟨rfl,rfl⟩⟩ | ⟨h1,h3,rfl⟩ | ⟨h1,rfl,h3⟩ | ⟨h1,h3⟩
 ·obtain ⟨k1,k2,k3,k4,k5⟩:=h.k _ _ h1
  refine ⟨.inr (.inl ⟨k2,k1,rfl⟩),?_⟩;rintro (⟨rfl,e⟩ | ⟨e,_⟩ | ⟨_,e | e⟩)
  ·exact (h.nf _ _ k1).2 e
  ·exact (h.nf _ _ k1).1 e
  ·exact e k2
  ·exact k4 e
 ·exact absurd (.inr (.inl ⟨rfl,rfl⟩)) h2
 ·have ql:q≠l:=λ e=>h2 (.inr (.inr ⟨h3,.inr e⟩))
  obtain ⟨k1,k2,k3,k4,k5⟩:=h.k _ _ (h.ka _ _ h1 ql h3);refine ⟨.inr (.inr (.inl ⟨k3,rfl,h3⟩)),?_⟩;rintro (⟨e,_⟩ | ⟨e,_⟩ | ⟨e,_⟩)
  ·exact k5 e
  ·exact (h.nf _ _ h3).2 e
  ·exact (h.nf _ _ e).2 rfl
 ·have qf:q≠f:=λ e=>h2 (.inl ⟨e,rfl⟩)
  have kk:=h.kb _ _ h1 qf h3;obtain ⟨k1,k2,k3,k4,k5⟩:=h.k _ _ kk;refine ⟨.inl ⟨rfl,.inl kk⟩,?_⟩;rintro (⟨e,_⟩ | ⟨_,e⟩ | ⟨e,_⟩)
  ·exact fw e.symm
  ·exact k4 e
  ·exact (h.nf _ _ e).1 rfl
 ·obtain ⟨r1,r2,r3⟩:=h.rf _ _ _ h1
  have nn:¬ N q a:=λ e=>by
   by_cases p:inP q
   ·exact h3 ⟨p,e⟩
   ·exact h2 (.inr (.inr ⟨e,.inl p⟩))
  obtain ⟨t1,t2⟩:=tri _ _ _ h1 nn;refine ⟨.inr (.inr (.inr ⟨t1,λ z=>t2 z.2⟩)),?_⟩;rintro (⟨_,e⟩ | ⟨e,_⟩ | ⟨e,_⟩)
  ·exact r3 e
  ·exact r2 e
  ·exact t2 e
end
open Cyc
section
variable {A M C:List Nat} {f l w:Nat}
theorem nxP (M:List Nat) (f l a b:Nat):Nx (f::M++[l]) a b↔Adj (f::M++[l]) a b\/(a=l/\b=f):=by
 show Adj (f::M++[l]++[f]) a b↔_;rw [show f::M++[l]++[f]=(f::M)++l::[f] by simp,qY];simp only [Adj,or_false]
theorem nxO (a b:Nat):Nx (A++(f::M++[l])++C) a b↔Adj (f::M++[l]) a b\/Adj (l::(C++A)++[f]) a b:=by
 rw [show A++(f::M++[l])++C=A++(f::M++l::C) by simp,xJ];show Adj (f::M++l::C++A++[f]) a b↔_;rw [show f::M++l::C++A++[f]=(f::M)++l::(C++A++[f]) by simp,qY];rw [show l::(C++A)++[f]=l::(C++A++[f]) by simp]
theorem kLY (a b:Nat):Nx (A++[f,w,l]++C) a b↔(a=f/\b=w)\/(a=w/\b=l)\/Adj (l::(C++A)++[f]) a b:=by
 rw [show A++[f,w,l]++C=A++(f::w::l::C) by simp,xJ];show Adj (f::w::l::C++A++[f]) a b↔_;rw [show f::w::l::C++A++[f]=f::w::l::(C++A++[f]) by simp,uQ,uQ];rw [show l::(C++A)++[f]=l::(C++A++[f]) by simp]
structure Str (A M C:List Nat) (f l w:Nat):Prop where
 nd:(A++(f::M++[l])++C).Nodup
 fr:w∉A++(f::M++[l])++C
theorem Str.facts (h:Str A M C f l w):f≠l/\f∉M/\l∉M/\(∀ x,x∈C++A->x≠f/\x≠l/\x∉M)/\f≠w/\l≠w/\w∉M/\w∉C++A:=by
 have n1:=(be.mp h.nd).1;have d1:=(be.mp h.nd).2.2;have n2:=(be.mp n1).2.1;have d2:=(be.mp n1).2.2;have n3:=(be.mp n2).1;have d3:=(be.mp n2).2.2;have fr:=h.fr;have mf:f∈f::M++[l]:=az _ eQ;have ml:l∈f::M++[l]:=bu _ (cy.mpr rfl);have mM:∀ {x},x∈M->x∈f::M++[l]:=λ z=>az _ (dj _ z);have up:∀ {x},x∈f::M++[l]->x∈A++(f::M++[l]):=λ z=>bu _ z;have no:∀ {x},x∈f::M++[l]->x≠w:=λ z e=>fr (e ▸ az _ (up z));have ap:∀ {x y},x∈C++A->y∈f::M++[l]->x≠y:=λ hx hy e=>(bz.mp hx).elim (λ c=>d1 _ (up hy) _ c e.symm) λ a=>d2 _ a _ hy e
 exact ⟨d3 _ eQ _ (cy.mpr rfl),(fc.mp n3).1,λ z=>d3 _ (dj _ z) _ (cy.mpr rfl) rfl,
  λ x hx=>⟨ap hx mf,ap hx ml,λ z=>ap hx (mM z) rfl⟩,no mf,no ml,λ z=>no (mM z) rfl,
  λ z=>fr ((bz.mp z).elim (λ c=>bu _ c) λ a=>az _ (az _ a))⟩
theorem Str.j (h:Str A M C f l w) {a b:Nat} (j:Adj (l::(C++A)++[f]) a b):(a=l\/a∈C++A)/\(b=f\/b∈C++A):=by
 obtain ⟨h1,h2,h3,h4,h5,h6,h7,h8⟩:=h.facts;have m:=vN j;have ne:=jP (R:=l::(C++A)) (v:=f) (by simp only [du,not_or];exact ⟨h1,λ z=>(h4 _ z).1 rfl⟩) j;simp only [iC,du,bz,cy,Bo,kh,or_false] at m ⊢
 grind
theorem Str.kk (h:Str A M C f l w) {a b:Nat} (k:Adj (f::M++[l]) a b):a∈f::M++[l]/\b∈f::M++[l]/\a≠l/\b≠f:=by
 obtain ⟨h1,h2,h3,h4,h5,h6,h7,h8⟩:=h.facts;have m:=vN k;have ne:=jP (R:=f::M) (v:=l) (by simp only [du,not_or];exact ⟨λ e=>h1 e.symm,h3⟩) k;refine ⟨m.1,wc m.2,ne,λ e=>?_⟩;have:=m.2;simp only [iC,Bo,bz,cy] at this
 grind
theorem Str.put {R R':Nat->Nat->Nat->Prop} (h:Str A M C f l w) (rf:∀ q a b,R q a b->q≠w/\a≠w/\b≠w)
  (r':∀ q a b,R' q a b↔(q=w/\(Adj (f::M++[l]) a b\/(a=l/\b=f)))\/(q∈f::M++[l]/\Nx (A++(f::M++[l])++C) q a/\b=w)\/(q∈f::M++[l]/\a=w/\Nx (A++(f::M++[l])++C) b q)\/(R q a b/\¬ (q∈f::M++[l]/\Nx (A++(f::M++[l])++C) q a))) :
  Put R R' (Nx (A++(f::M++[l])++C)) (Nx (A++[f,w,l]++C)) (Adj (f::M++[l])) (·∈f::M++[l]) f l w:=by
 obtain ⟨h1,h2,h3,h4,h5,h6,h7,h8⟩:=h.facts
 have inB:∀ x,x∈C++A->x∉f::M++[l]:=λ x hx z=>by
  obtain ⟨z1,z2,z3⟩:=h4 x hx;simp only [iC,du,bz,cy,kh,or_false] at z
  grind
 refine ⟨λ a b=>?_,r',h1,by simp,by simp,λ a b k=>?_,λ a b pa al n=>?_,λ a b pb bf n=>?_,λ a b n=>?_,rf,λ z=>h.fr (az _ (bu _ z)),λ a b b' n n'=>jU h.nd n n',λ a a' b n n'=>xC h.nd n n',λ a pa=>mN (az _ (bu _ pa))⟩
 ·rw [kLY,nxO]
  constructor
  ·rintro (z | z | z)
   ·exact .inl z
   ·exact .inr (.inl z)
   ·refine .inr (.inr ⟨.inr z,?_⟩)
    rcases (h.j z).1 with e | e
    ·exact .inr e
    ·exact .inl (inB _ e)
  ·rintro (z | z | ⟨z | z,e⟩)
   ·exact .inl z
   ·exact .inr (.inl z)
   ·obtain ⟨k1,k2,k3,k4⟩:=h.kk z
    rcases e with e | e
    ·exact absurd k1 e
    ·exact absurd e k3
   ·exact .inr (.inr z)
 ·obtain ⟨k1,k2,k3,k4⟩:=h.kk k
  exact ⟨(nxO a b).mpr (.inl k),k1,k2,k3,k4⟩
 ·rcases (nxO a b).mp n with z | z
  ·exact z
  ·rcases (h.j z).1 with e | e
   ·exact absurd e al
   ·exact absurd pa (inB _ e)
 ·rcases (nxO a b).mp n with z | z
  ·exact z
  ·rcases (h.j z).2 with e | e
   ·exact absurd e bf
   ·exact absurd pb (inB _ e)
 ·have m:=qC n
  exact ⟨λ e=>h.fr (e ▸ m.1),λ e=>h.fr (e ▸ m.2)⟩
end
structure Half (L:Rows) (O:List Nat):Prop where
 ne:∀ (p:Nat) (row:List Nat),L[p]?=some row->row≠[]
 nd:∀ (p:Nat) (row:List Nat),L[p]?=some row->row.Nodup
 rng:∀ (p:Nat) (row:List Nat) (a:Nat),L[p]?=some row->a∈row->a<L.length/\a≠p
 ond:O.Nodup
 orng:∀ x,x∈O->x<L.length
 tri:∀ q a b,R L q a b->¬ Nx O q a->R L a b q/\¬ Nx O a b
 out:∀ q a b,Nx O q a->Nx O b q->R L q a b
 con:∀ p,p<L.length->Reach L 0 p
 tot:(L.map fz).sum+2*O.length+6=6*L.length
structure NewRows (L L2:Rows) (O P:List Nat) (w:Nat):Prop where
 len:L2.length=L.length
 off:∀ x,x∉P->L2[x]?=L[x]?
 on:∀ x,x∈P->∃ row row2 y,L[x]?=some row/\L2[x]?=some row2/\Nx O x y/\row2.Perm (w::row)/\∀ a b,Nx row2 a b↔Nx (vU row y w) a b
 sum:(L2.map fz).sum=(L.map fz).sum+P.length
section
variable {L L2:Rows} {A M C:List Nat} {f l:Nat}
theorem kJW {O:List Nat} (H:Half L O) {q a b b':Nat} (h:R L q a b) (h':R L q a b'):b=b':=by
 obtain ⟨row,e,n⟩:=h;obtain ⟨row',e',n'⟩:=h';rw [e] at e';cases e';exact jU (H.nd _ _ e) n n'
theorem bR (H:Half L (A++(f::M++[l])++C)):Str A M C f l L.length :=
 ⟨H.ond,λ z=>jv _ (H.orng _ z)⟩
theorem pE {O:List Nat} (H:Half L O) (q a b:Nat) (h:R L q a b):q≠L.length/\a≠L.length/\b≠L.length:=by
 obtain ⟨row,e,n⟩:=h;have m:=qC n;have h1:=(H.rng _ _ _ e m.1).1;have h2:=(H.rng _ _ _ e m.2).1;have h3:=(aq.mp e).1;omega
theorem kGO (H:Half L (A++(f::M++[l])++C)) (W:NewRows L L2 (A++(f::M++[l])++C) (f::M++[l]) L.length) (q a b:Nat) :
  R (L2++[f::M++[l]]) q a b↔(q=L.length/\(Adj (f::M++[l]) a b\/(a=l/\b=f)))\/(q∈f::M++[l]/\Nx (A++(f::M++[l])++C) q a/\b=L.length)\/(q∈f::M++[l]/\a=L.length/\Nx (A++(f::M++[l])++C) b q)\/(R L q a b/\¬ (q∈f::M++[l]/\Nx (A++(f::M++[l])++C) q a)):=by
 rw [kNH,W.len,nxP];have hlt:∀ x,x∈f::M++[l]->x<L.length:=λ x hx=>H.orng x (az _ (bu _ hx));by_cases hq:q∈f::M++[l]
 ·obtain ⟨row,row2,y,e,e2,ny,pm,hn⟩:=W.on q hq
  have qw:q≠L.length:=dc (hlt q hq);obtain ⟨z,nz⟩:=mN (row:=A++(f::M++[l])++C) (b:=q) (az _ (bu _ hq));obtain ⟨row',e',nyz⟩:=H.out q y z ny nz;rw [e] at e';cases e';have hw:L.length∉row:=λ m=>jv _ (H.rng _ _ _ e m).1;have hR:R L2 q a b↔Nx row2 a b:=⟨λ ⟨r,x,n⟩=>by rw [e2] at x;cases x;exact n,λ n=>⟨row2,e2,n⟩⟩;have hR0:R L q a b↔Nx row a b:=⟨λ ⟨r,x,n⟩=>by rw [e] at x;cases x;exact n,λ n=>⟨row,e,n⟩⟩;rw [hR,hn,kJG (qC nyz).1 (H.nd _ _ e) hw,hR0];have c1:Nx (A++(f::M++[l])++C) q a↔a=y:=⟨λ n=>jU H.ond n ny,λ e=>e ▸ ny⟩;have c2:Nx (A++(f::M++[l])++C) b q↔b=z:=⟨λ n=>xC H.ond n nz,λ e=>e ▸ nz⟩;have c3:Nx row y b↔b=z:=⟨λ n=>jU (H.nd _ _ e) n nyz,λ e=>e ▸ nyz⟩;rw [c1,c2,c3]
  grind
 ·have hR:R L2 q a b↔R L q a b:=by unfold R;rw [W.off q hq]
  rw [hR];constructor
  ·rintro (h | h)
   ·exact .inr (.inr (.inr ⟨h,λ z=>hq z.1⟩))
   ·exact .inl h
  ·rintro (h | ⟨h,_⟩ | ⟨h,_⟩ | ⟨h,_⟩)
   ·exact .inr h
   ·exact absurd h hq
   ·exact absurd h hq
   ·exact .inl h
theorem kGP (W:NewRows L L2 (A++(f::M++[l])++C) (f::M++[l]) L.length) (x b:Nat) (h:E L x b):E (L2++[f::M++[l]]) x b:=by
 obtain ⟨row,e,m⟩:=h;refine kHM ?_;by_cases hq:x∈f::M++[l]
 ·obtain ⟨row',row2,y,e',e2,ny,pm,hn⟩:=W.on x hq
  rw [e] at e';cases e';exact ⟨row2,e2,pm.mem_iff.mpr (dj _ m)⟩
 ·exact ⟨row,by rw [W.off x hq];exact e,m⟩
theorem rL (H:Half L (A++(f::M++[l])++C)) (W:NewRows L L2 (A++(f::M++[l])++C) (f::M++[l]) L.length) :
  Half (L2++[f::M++[l]]) (A++[f,L.length,l]++C):=by
 have S:=bR H;have P:=S.put (pE H) (kGO H W);have hlt:∀ x,x∈f::M++[l]->x<L.length:=λ x hx=>H.orng x (az _ (bu _ hx));obtain ⟨h1,h2,h3,h4,h5,h6,h7,h8⟩:=S.facts;have nd:=H.ond
 have get:∀ p row,(L2++[f::M++[l]])[p]?=some row->(p=L.length/\row=f::M++[l])\/(p<L.length/\L2[p]?=some row):=λ p row e=>by
  rcases fe p L2.length with h | h
  ·rw [bg h] at e
   exact .inr ⟨W.len ▸ h,e⟩
  ·rw [bb h] at e
   rcases Nat.eq_zero_or_pos (p-L2.length) with z | z
   ·rw [z] at e
    simp at e;exact .inl ⟨by have:=W.len;omega,by rw [<-e];simp⟩
   ·rw [qv (by simp;omega)] at e
    cases e
 have old:∀ p row,L2[p]?=some row->∃ r0,L[p]?=some r0/\(row=r0\/(p∈f::M++[l]/\row.Perm (L.length::r0))):=λ p row e=>by
  by_cases hq:p∈f::M++[l]
  ·obtain ⟨r0,row2,y,e',e2,ny,pm,hn⟩:=W.on p hq
   rw [e] at e2;cases e2;exact ⟨r0,e',.inr ⟨hq,pm⟩⟩
  ·rw [W.off p hq] at e
   exact ⟨row,e,.inl rfl⟩
 have pnd:(f::M++[l]).Nodup:=(be.mp (be.mp nd).1).2.1;have len:(L2++[f::M++[l]]).length=L.length+1:=by simp [W.len]
 refine ⟨λ p row e=>?_,λ p row e=>?_,λ p row a e m=>?_,?_,λ x hx=>?_,P.tri H.tri,P.out H.out,λ p hp=>?_,?_⟩
 ·rcases get p row e with ⟨_,rfl⟩ | ⟨_,e⟩
  ·simp
  ·obtain ⟨r0,e0,rfl | ⟨_,pm⟩⟩:=old p row e
   ·exact H.ne _ _ e0
   ·intro z;subst z;exact absurd pm.length_eq (by simp)
 ·rcases get p row e with ⟨_,rfl⟩ | ⟨_,e⟩
  ·exact pnd
  ·obtain ⟨r0,e0,rfl | ⟨_,pm⟩⟩:=old p row e
   ·exact H.nd _ _ e0
   ·exact pm.nodup_iff.mpr (fc.mpr ⟨λ m=>jv _ (H.rng _ _ _ e0 m).1,H.nd _ _ e0⟩)
 ·rw [len]
  rcases get p row e with ⟨rfl,rfl⟩ | ⟨hp,e⟩
  ·have:=hlt a m;omega
  ·obtain ⟨r0,e0,rfl | ⟨_,pm⟩⟩:=old p row e
   ·have:=H.rng _ _ _ e0 m;omega
   ·rcases du.mp (pm.mem_iff.mp m) with rfl | m
    ·omega
    ·have:=H.rng _ _ _ e0 m;omega
 ·have fr:=S.fr
  simp only [be,fc,bz,du,cy,kh,or_false,iC,not_or,jr] at nd fr ⊢
  grind
 ·rw [len]
  have:x=L.length\/x∈A++(f::M++[l])++C:=by
   simp only [bz,du,cy,kh,or_false,iC] at hx ⊢
   grind
  rcases this with rfl | z
  ·omega
  ·have:=H.orng _ z;omega
 ·rw [len] at hp
  by_cases z:p<L.length
  ·exact (H.con p z).by λ a b e=>.more (.here _) (kGP W a b e)
  ·have e:p=L.length:=by omega
   subst e;have r1:=(H.con f (hlt f (by simp))).by (L':=L2++[f::M++[l]]) λ a b e=>.more (.here _) (kGP W a b e);refine .more r1 ?_;have:=(kGO H W f (P.ex f (by simp)).choose L.length);obtain ⟨row,row2,y,e,e2,ny,pm,hn⟩:=W.on f (by simp);exact kHM ⟨row2,e2,pm.mem_iff.mpr eQ⟩
 ·have t:=H.tot
  have s:=W.sum;simp only [eI,Dg,ft,Bw,Az,List.sum_nil,cg,eX,ir,W.len,iC] at t s ⊢;omega
theorem kEB {m:Nat} (H:Half L [f,m,l]) (h3:3<=L.length):Good L:=by
 refine ⟨h3,H.ne,H.nd,H.rng,λ q a b h=>?_,H.con,?_⟩
 ·by_cases n:Nx [f,m,l] q a
  ·have mm:=(qC n).1
   have hb:∃ b',Nx [f,m,l] b' q:=mN mm;obtain ⟨b',nb⟩:=hb;have e:=kJW H h (H.out _ _ _ n nb);subst e;refine H.out _ _ _ ?_ n;rw [nx3] at n nb ⊢;have nd:=H.ond;simp only [fc,du,kh,or_false,not_or] at nd
   grind
  ·exact (H.tri _ _ _ h n).1
 ·have:=H.tot
  simp only [eX,ir] at this;omega
end
def dF (row:List Nat) (u w:Nat):List Nat:=row.take (row.idxOf u)++w::row.drop (row.idxOf u)
theorem kJU {A B:List Nat} {u w:Nat} (h:u∉A):dF (A++u::B) u w=A++w::u::B:=by
 unfold dF;rw [dG h,qt rfl,uf rfl]
theorem mU (row:List Nat) (u w:Nat):(dF row u w).Perm (w::row):=by
 unfold dF;have:=yy (a:=w) (l₁:=row.take (row.idxOf u)) (l₂:=row.drop (row.idxOf u));rwa [eW] at this
theorem mV (row:List Nat) (v w:Nat):(vU row v w).Perm (w::row):=by
 unfold vU;have:=yy (a:=w) (l₁:=row.take (row.idxOf v+1)) (l₂:=row.drop (row.idxOf v+1));rwa [eW] at this
theorem kJF {row:List Nat} {u v w:Nat} (nd:row.Nodup) (h:Nx row v u) (a b:Nat):Nx (dF row u w) a b↔Nx (vU row v w) a b:=by
 obtain ⟨A,B,rfl,hA,hB⟩:=vX (qC h).2 nd;rw [kJU hA];rcases qi A with rfl | ⟨A',v',rfl⟩
 ·rcases qi (u::B) with e | ⟨D,v',e⟩
  ·cases e
  ·have e':u::B=D++[v']:=by rw [e];simp
   simp only [jr] at h nd ⊢
   have n:Nx (u::B) v' u:=by
    show Adj (u::B++[u]) v' u;rw [e',show D++[v']++[u]=D++v'::[u] by simp,qY];exact .inr (.inl ⟨rfl,rfl⟩)
   have ev:=xC nd h n;subst ev
   have hv:v∉D:=λ z=>by
    rw [e'] at nd;exact (be.mp nd).2.2 v z v (by simp) rfl
   have ei:vU (u::B) v w=u::B++[w]:=by rw [e',oZ hv];simp
   rw [ei];exact xJ [w] (u::B) a b
 ·have e1:A'.concat v'++u::B=A'++v'::(u::B):=by simp
  have e2:A'.concat v'++w::u::B=A'++v'::w::(u::B):=by simp
  rw [e1] at nd h ⊢;rw [e2]
  have n:Nx (A'++v'::(u::B)) v' u:=by
   rw [xJ];exact .inl ⟨rfl,rfl⟩
  have ev:=xC nd h n;subst ev;have hv:v∉A':=λ z=>(be.mp nd).2.2 v z v (by simp) rfl;rw [oZ hv]
def zP (w:Nat):Rows->List Nat->Rows
 | L,x::y::r=>zP w (L.set x (vU (L.getD x []) y w)) (y::r)
 | L,_=>L
theorem bH (w:Nat):∀ (P:List Nat) (L:Rows),P.Nodup->(∀ x,x∈P->x<L.length) ->
  (zP w L P).length=L.length/\(∀ x y,Adj P x y->(zP w L P)[x]?=some (vU (L.getD x []) y w))/\(∀ x,(∀ y,¬ Adj P x y)->(zP w L P)[x]?=L[x]?) /\
  ((zP w L P).map fz).sum=(L.map fz).sum+(P.length-1)
 | [],L,_,_=>⟨rfl,λ _ _ h=>h.elim,λ _ _=>rfl,rfl⟩
 | [x],L,_,_=>⟨rfl,λ _ _ h=>h.elim,λ _ _=>rfl,rfl⟩
 | x::y::r,L,nd,rng=>by
  obtain ⟨nx,nd'⟩:=fc.mp nd;have hx:x<L.length:=rng x eQ;obtain ⟨h1,h2,h3,h4⟩:=bH w (y::r) (L.set x (vU (L.getD x []) y w)) nd' (λ z hz=>by rw [ya];exact rng z (dj _ hz));have ne:∀ z,Adj (y::r) x z->False:=λ z h=>nx (vN h).1;refine ⟨by show (zP w _ (y::r)).length=_;rw [h1,ya],λ a b h=>?_,λ a h=>?_,?_⟩
  ·show (zP w _ (y::r))[a]?=_
   rcases h with ⟨rfl,rfl⟩ | h
   ·rw [h3 _ (λ z hz=>ne z hz),je hx]
   ·have ax:a≠x:=λ e=>ne b (e ▸ h)
    rw [h2 a b h];simp only [ai];rw [ja (uq ax)]
  ·show (zP w _ (y::r))[a]?=_
   have ax:a≠x:=λ e=>h y (.inl ⟨e,rfl⟩);rw [h3 a (λ z hz=>h z (.inr hz)),ja (uq ax)]
  ·show ((zP w _ (y::r)).map fz).sum=_
   rw [h4];have g:L[x]?=some (L.getD x []):=by rw [ai,aa hx];rfl
   have s:=aZ L x (L.getD x []) (vU (L.getD x []) y w) g;have p:=(mV (L.getD x []) y w).length_eq;simp only [eX] at p ⊢;omega
def kDB (L:Rows) (P:List Nat) (w u l:Nat):Rows:=(zP w L P).set l (dF ((zP w L P).getD l []) u w)
section
variable {L:Rows} {A M C:List Nat} {f l u:Nat}
theorem sT:∀ {P:List Nat} {l x:Nat},x∈P->∃ y,Adj (P++[l]) x y
 | [z],l,x,h=>⟨l,.inl ⟨by simpa using h,rfl⟩⟩
 | z::z'::r,l,x,h=>by
  rcases du.mp h with e | h
  ·exact ⟨z',.inl ⟨e,rfl⟩⟩
  ·obtain ⟨y,hy⟩:=sT (l:=l) h
   exact ⟨y,.inr hy⟩
theorem kBF (H:Half L (A++(f::M++[l])++C)) (hu:Adj (f::M++[l]) u l) :
  NewRows L (kDB L (f::M++[l]) L.length u l) (A++(f::M++[l])++C) (f::M++[l]) L.length:=by
 have S:=bR H;have nd:=H.ond;have pnd:(f::M++[l]).Nodup:=(be.mp (be.mp nd).1).2.1;have hO:∀ x,x∈f::M++[l]->x∈A++(f::M++[l])++C:=λ x hx=>az _ (bu _ hx);have hlt:∀ x,x∈f::M++[l]->x<L.length:=λ x hx=>H.orng x (hO x hx);obtain ⟨h1,h2,h3,h4⟩:=bH L.length (f::M++[l]) L pnd hlt;have hl:l<L.length:=hlt l (by simp);have nl:∀ y,¬ Adj (f::M++[l]) l y:=λ y h=>(S.kk h).2.2.1 rfl;have gl:=h3 l nl;have g:∀ x,x<L.length->L[x]?=some (L.getD x []):=λ x hx=>by rw [ai,aa hx];rfl
 have el:(zP L.length L (f::M++[l])).getD l []=L.getD l []:=by rw [ai,gl,<-ai]
 unfold kDB;rw [el];refine ⟨by rw [ya,h1],λ x hx=>?_,λ x hx=>?_,?_⟩
 ·have xl:x≠l:=λ e=>hx (e ▸ by simp)
  rw [ja (uq xl)];exact h3 x λ y h=>hx (S.kk h).1
 ·by_cases xl:x=l
  ·subst xl
   obtain ⟨y,ny⟩:=vF (row:=A++(f::M++[x])++C) (hO x hx);obtain ⟨row,e,n⟩:=H.out x y u ny ((nxO u x).mpr (.inl hu));rw [g x hl] at e;injection e with e
   rw [<-e] at n;refine ⟨_,_,y,g x hl,je (by rw [h1];exact hl),ny,mU _ _ _,λ a b=>kJF (H.nd _ _ (g x hl)) n a b⟩
  ·have hx':x∈f::M:=by
    rcases bz.mp hx with z | z
    ·exact z
    ·exact absurd (by simpa using z) xl
   obtain ⟨y,hy⟩:=sT (l:=l) hx';exact ⟨_,_,y,g x (hlt x hx),by rw [ja (uq xl)];exact h2 x y hy,(nxO x y).mpr (.inl hy),mV _ _ _,λ a b=>Ao⟩
 ·have s:=aZ (zP L.length L (f::M++[l])) l (L.getD l []) (dF (L.getD l []) u L.length) (by rw [gl];exact g l hl)
  have p:=(mU (L.getD l []) u L.length).length_eq;have pl:(f::M++[l]).length=M.length+2:=by simp
  rw [pl] at h4 ⊢;rw [eX] at p;omega
theorem kDA (H:Half L (A++(f::M++[l])++C)) (hu:Adj (f::M++[l]) u l):Half (kDB L (f::M++[l]) L.length u l++[f::M++[l]]) (A++[f,L.length,l]++C):=rL H (kBF H hu)
theorem kAP:Half [[1],[0]] [0,1]:=by
 have g:∀ p row,([[1],[0]]:Rows)[p]?=some row->(p=0/\row=[1])\/(p=1/\row=[0]):=λ p row e=>by
  match p with
  | 0=>simp at e;exact .inl ⟨rfl,e.symm⟩
  | 1=>simp at e;exact .inr ⟨rfl,e.symm⟩
  | p+2=>simp at e
 have nx1:∀ x a b,Nx [x] a b↔a=x/\b=x:=λ x a b=>by show ((a=x/\b=x)\/False)↔_;simp
 have nx2:∀ a b,Nx [0,1] a b↔(a=0/\b=1)\/(a=1/\b=0):=λ a b=>by show ((a=0/\b=1)\/(a=1/\b=0)\/False)↔_;simp
 refine ⟨λ p row e=>?_,λ p row e=>?_,λ p row a e m=>?_,by decide,λ x hx=>?_,λ q a b h n=>?_,λ q a b h h'=>?_,λ p hp=>?_,by decide⟩
 ·rcases g p row e with ⟨_,rfl⟩ | ⟨_,rfl⟩<;>simp
 ·rcases g p row e with ⟨_,rfl⟩ | ⟨_,rfl⟩<;>simp
 ·rcases g p row e with ⟨rfl,rfl⟩ | ⟨rfl,rfl⟩<;>simp at m<;>subst m<;>simp
 ·simp at hx ⊢;omega
 ·obtain ⟨row,e,h⟩:=h
  rw [nx2] at n;rcases g q row e with ⟨rfl,rfl⟩ | ⟨rfl,rfl⟩<;>rw [nx1] at h<;>exact absurd (by simp [h.1]) n
 ·rw [nx2] at h h'
  rcases h with ⟨rfl,rfl⟩ | ⟨rfl,rfl⟩
  ·exact ⟨[1],rfl,(nx1 _ _ _).mpr ⟨rfl,by omega⟩⟩
  ·exact ⟨[0],rfl,(nx1 _ _ _).mpr ⟨rfl,by omega⟩⟩
 ·match p,hp with
  | 0,_=>exact .here _
  | 1,_=>exact .more (.here _) ⟨[1],rfl,by simp⟩
  | p+2,hp=>simp at hp;omega
end
end Tri
namespace Tri
open Cyc Rnd
section
variable {W:Rows}
theorem oI {row:List Nat} {p v:Nat} (nd:row.Nodup) (h:Nx row v p):xV row p=some v:=by
 obtain ⟨u,hu⟩:=oJ (qC h).2;rw [hu,xC nd h (uL nd (qC h).2 hu)]
theorem oX (nd:∀ (p:Nat) (row:List Nat),W[p]?=some row->row.Nodup) {p q v:Nat} (h:R W q v p):nxt W (p,q)=(q,v):=by
 obtain ⟨row,e,n⟩:=h;unfold nxt;rw [ai,e];show (q,(xV row p).getD 0)=(q,v);rw [oI (nd q row e) n]
 rfl
theorem dQ (nd:∀ (p:Nat) (row:List Nat),W[p]?=some row->row.Nodup):(kP W).Nodup:=by
 unfold kP;rw [Ac,Bh];refine ⟨λ p hp=>?_,?_⟩
 ·have hl:=gw.mp hp
  have e:W[p]?=some (W.getD p []):=by rw [ai,aa hl];rfl
  have n:=nd p _ e;refine Fj _ (λ x y (z:x≠y) e=>z (congrArg BH e)) n
 ·refine si.imp λ {p q} hpq=>?_
  intro x hx y hy e;obtain ⟨_,_,rfl⟩:=iO.mp hx;obtain ⟨_,_,rfl⟩:=iO.mp hy;exact hpq (congrArg Ab e)
theorem yW:∀ (W:Rows) ,(kP W).length=(W.map fz).sum:=by
 intro W;unfold kP;rw [By]
 congr 1
 refine BI (by simp) λ i h1 h2=>?_;simp at h1 h2;simp [ai,h1]
end
theorem pR (f:Nat->Nat):∀ (l:List Nat) (a b:Nat),Adj (l.map f) a b↔∃ x y,Adj l x y/\a=f x/\b=f y
 | [],a,b=>⟨λ h=>h.elim,λ ⟨_,_,h,_⟩=>h.elim⟩
 | [z],a,b=>⟨λ h=>h.elim,λ ⟨_,_,h,_⟩=>h.elim⟩
 | z::z'::r,a,b=>by
  have ih:=pR f (z'::r) a b;constructor
  ·rintro (⟨rfl,rfl⟩ | h)
   ·exact ⟨z,z',.inl ⟨rfl,rfl⟩,rfl,rfl⟩
   ·obtain ⟨x,y,h,e⟩:=ih.mp h
    exact ⟨x,y,.inr h,e⟩
  ·rintro ⟨x,y,⟨rfl,rfl⟩ | h,rfl,rfl⟩
   ·exact .inl ⟨rfl,rfl⟩
   ·exact .inr (ih.mpr ⟨x,y,h,rfl,rfl⟩)
theorem kGK (f:Nat->Nat) (l:List Nat) (a b:Nat):Nx (l.map f) a b↔∃ x y,Nx l x y/\a=f x/\b=f y:=by
 unfold Nx;rw [show l.map f++(l.map f).head?.toList=(l++l.head?.toList).map f by cases l<;>simp];exact pR f _ a b
theorem Reach.symm {W:Rows} (sym:∀ a b,E W a b->E W b a) {a b:Nat} (h:Reach W a b):Reach W b a:=by
 induction h with
 | here=>exact .here _
 | more _ e ih=>exact (Reach.more (.here _) (sym _ _ e)).trans ih
structure Ren (L W:Rows) (ns:List Nat):Prop where
 perm:ns.Perm (cu L.length)
 len:W.length=L.length
 at':∀ (p:Nat) (row:List Nat),L[p]?=some row->∃ n A B,ns[p]?=some n/\row.map (λ q=>ns.getD q 0)=A++B/\W[n]?=some (B++A)
section
variable {L W:Rows} {ns:List Nat}
theorem Ren.nlen (h:Ren L W ns):ns.length=L.length:=by rw [h.perm.length_eq,fv]
theorem Ren.get (h:Ren L W ns) {p:Nat} (hp:p<L.length):ns[p]?=some (ns.getD p 0):=by
 rw [ai,aa (by rw [h.nlen];exact hp)]
 rfl
theorem Ren.lt (h:Ren L W ns) {p:Nat} (hp:p<L.length):ns.getD p 0<L.length:=gw.mp (h.perm.mem_iff.mp (eg (h.get hp)))
theorem Ren.inj (h:Ren L W ns) {p q:Nat} (hp:p<L.length) (hq:q<L.length) (e:ns.getD p 0=ns.getD q 0):p=q:=by
 have nd:ns.Nodup:=h.perm.nodup_iff.mpr si;have h1:=h.get hp;have h2:=h.get hq;rw [e,<-h2] at h1;exact (yl (by rw [h.nlen];exact hp) nd).mp h1
theorem Ren.sur (h:Ren L W ns) {x:Nat} (hx:x<L.length):∃ p,p<L.length/\ns.getD p 0=x:=by
 obtain ⟨p,hp,e⟩:=List.getElem_of_mem (h.perm.mem_iff.mpr (gw.mpr hx));rw [h.nlen] at hp;refine ⟨p,hp,?_⟩;rw [ai,aa (by rw [h.nlen];exact hp),e]
 rfl
theorem Ren.row (h:Ren L W ns) {x:Nat} {row':List Nat} (e:W[x]?=some row'):∃ p row,p<L.length/\L[p]?=some row/\x=ns.getD p 0/\row'.Perm (row.map λ q=>ns.getD q 0)/\∀ a b,Nx row' a b↔Nx (row.map λ q=>ns.getD q 0) a b:=by
 have hx:x<L.length:=by rw [<-h.len];exact (aq.mp e).1
 obtain ⟨p,hp,rfl⟩:=h.sur hx;obtain ⟨n,A,B,e1,e2,e3⟩:=h.at' p _ (aa hp);rw [h.get hp] at e1;cases e1
 rw [e] at e3;cases e3
 refine ⟨p,_,hp,aa hp,rfl,?_,λ a b=>?_⟩
 ·rw [e2];exact jg
 ·rw [e2];exact xJ B A a b
theorem Ren.to (h:Ren L W ns) {p:Nat} {row:List Nat} (e:L[p]?=some row):∃ row',W[ns.getD p 0]?=some row'/\row'.Perm (row.map λ q=>ns.getD q 0)/\∀ a b,Nx row' a b↔Nx (row.map λ q=>ns.getD q 0) a b:=by
 have hp:=(aq.mp e).1;obtain ⟨n,A,B,e1,e2,e3⟩:=h.at' p _ e;rw [h.get hp] at e1;cases e1
 exact ⟨_,e3,by rw [e2];exact jg,λ a b=>by rw [e2];exact xJ B A a b⟩
theorem Ren.r_to (h:Ren L W ns) {q a b:Nat} (r:R L q a b):R W (ns.getD q 0) (ns.getD a 0) (ns.getD b 0):=by
 obtain ⟨row,e,n⟩:=r;obtain ⟨row',e',_,hn⟩:=h.to e;exact ⟨row',e',(hn _ _).mpr ((kGK _ _ _ _).mpr ⟨a,b,n,rfl,rfl⟩)⟩
theorem Ren.r_of (h:Ren L W ns) {q a b:Nat} (r:R W q a b):∃ q' a' b',R L q' a' b'/\q=ns.getD q' 0/\a=ns.getD a' 0/\b=ns.getD b' 0:=by
 obtain ⟨row',e',n⟩:=r;obtain ⟨p,row,hp,e,rfl,_,hn⟩:=h.row e';obtain ⟨x,y,n',rfl,rfl⟩:=(kGK _ _ _ _).mp ((hn _ _).mp n);exact ⟨p,x,y,⟨row,e,n'⟩,rfl,rfl,rfl⟩
theorem Ren.e_to (h:Ren L W ns) {a b:Nat} (r:E L a b):E W (ns.getD a 0) (ns.getD b 0):=by
 obtain ⟨row,e,m⟩:=r;obtain ⟨row',e',pm,_⟩:=h.to e;exact ⟨row',e',pm.mem_iff.mpr (iO.mpr ⟨b,m,rfl⟩)⟩
theorem Ren.e_of (h:Ren L W ns) {a b:Nat} (r:E W a b):∃ x y,E L x y/\a=ns.getD x 0/\b=ns.getD y 0:=by
 obtain ⟨row',e',m⟩:=r;obtain ⟨p,row,hp,e,rfl,pm,_⟩:=h.row e';obtain ⟨y,my,rfl⟩:=iO.mp (pm.mem_iff.mp m);exact ⟨p,y,⟨row,e,my⟩,rfl,rfl⟩
theorem kFT (G:Good L) (h:Ren L W ns):Good W:=by
 have sym:∀ a b,E W a b->E W b a:=λ a b r=>by
  obtain ⟨x,y,r',rfl,rfl⟩:=h.e_of r;exact h.e_to (G.sym r')
 have reach:∀ {x y:Nat},Reach L x y->Reach W (ns.getD x 0) (ns.getD y 0):=λ r=>by
  induction r with
  | here=>exact .here _
  | more _ e ih=>exact .more ih (h.e_to e)
 have from0:∀ x,x<L.length->Reach W (ns.getD 0 0) x:=λ x hx=>by
  obtain ⟨p,hp,rfl⟩:=h.sur hx;exact reach (G.con p hp)
 refine ⟨by rw [h.len];exact G.three,λ p row' e=>?_,λ p row' e=>?_,λ p row' a e m=>?_,λ q a b r=>?_,λ p hp=>?_,?_⟩
 ·obtain ⟨x,row,hx,e1,rfl,pm,_⟩:=h.row e
  intro z;subst z;have:=pm.length_eq;rw [ao] at this;exact G.ne _ _ e1 (iY.mp this.symm)
 ·obtain ⟨x,row,hx,e1,rfl,pm,_⟩:=h.row e
  refine pm.nodup_iff.mpr ?_;rw [Ac,ke];exact Es (λ {u v} hu hv z e=>z (h.inj (G.rng _ _ _ e1 hu).1 (G.rng _ _ _ e1 hv).1 e)) (G.nd _ _ e1)
 ·obtain ⟨x,row,hx,e1,rfl,pm,_⟩:=h.row e
  obtain ⟨y,my,rfl⟩:=iO.mp (pm.mem_iff.mp m);obtain ⟨y1,y2⟩:=G.rng _ _ _ e1 my;exact ⟨by rw [h.len];exact h.lt y1,λ e=>y2 (h.inj y1 hx e)⟩
 ·obtain ⟨q',a',b',r',rfl,rfl,rfl⟩:=h.r_of r
  exact h.r_to (G.tri _ _ _ r')
 ·rw [h.len] at hp
  have three:=G.three;exact (from0 0 (by omega)).symm sym |>.trans (from0 p hp)
 ·have g:∀ (V:Rows),V.map fz=(cu V.length).map λ x=>(V.getD x []).length:=λ V=>by
   refine BI (by simp) λ i h1 h2=>?_;simp at h1 h2;simp [ai,h1]
  have e1:(W.map fz).sum=(ns.map λ x=>(W.getD x []).length).sum:=by
   rw [g W,h.len];exact (h.perm.symm.map _).sum_nat
  have e2:(ns.map λ x=>(W.getD x []).length)=L.map fz:=by
   refine BI (by simp [h.nlen]) λ i h1 h2=>?_;simp at h1 h2;obtain ⟨row',w1,pm,_⟩:=h.to (aa h2);have hn:ns[i]=ns.getD i 0:=by simp [ai,h1]
   have:=pm.length_eq;rw [ao] at this;simp only [List.getElem_map];rw [hn,ai,w1];exact this
  rw [e1,e2,h.len];exact G.tot
end
def Ro (r r':List Nat):Prop:=∃ A B,r=A++B/\r'=B++A
theorem Ro.trans {r r' r'':List Nat}:Ro r r'->Ro r' r''->Ro r r'':=by
 rintro ⟨A,B,rfl,rfl⟩ ⟨C,D,h1,rfl⟩;rcases List.append_eq_append_iff.mp h1 with ⟨a,rfl,rfl⟩ | ⟨c,rfl,rfl⟩
 ·exact ⟨a,D++B,by simp,by simp⟩
 ·exact ⟨A++C,c,by simp,by simp⟩
theorem Ro.perm {r r':List Nat}:Ro r r'->r.Perm r':=by
 rintro ⟨A,B,rfl,rfl⟩;exact jg
theorem Ro.mem {r r':List Nat} (h:Ro r r') (x:Nat):x∈r↔x∈r':=h.perm.mem_iff
theorem Ro.nd {r r':List Nat} (h:Ro r r'):r.Nodup↔r'.Nodup:=h.perm.nodup_iff
theorem Ro.nx {r r':List Nat} (h:Ro r r') (a b:Nat):Nx r a b↔Nx r' a b:=by
 obtain ⟨A,B,rfl,rfl⟩:=h;exact xJ A B a b
def rot (row:List Nat) (M:Nat):List Nat:=row.drop (row.idxOf M)++row.take (row.idxOf M)
theorem kFQ (row:List Nat) (M:Nat):Ro row (rot row M):=⟨row.take (row.idxOf M),row.drop (row.idxOf M),(eW _ _).symm,rfl⟩
structure Nb (L:Rows):Prop where
 nd:∀ (p:Nat) (row:List Nat),L[p]?=some row->row.Nodup
 rng:∀ (p:Nat) (row:List Nat) (a:Nat),L[p]?=some row->a∈row->a<L.length/\a≠p
 sym:∀ a b,E L a b->E L b a
structure Wb (L:Rows):Prop extends Nb L where
 three:3<=L.length
 con:∀ p,p<L.length->Reach L 0 p
theorem Nb.e {L:Rows} (S:Nb L) {p q:Nat} (h:E L p q):p<L.length/\q<L.length/\q≠p:=by
 obtain ⟨row,e,m⟩:=h;exact ⟨(aq.mp e).1,(S.rng p row q e m).1,(S.rng p row q e m).2⟩
theorem Nb.len {L:Rows} (S:Nb L) {p:Nat} {row:List Nat} (h:L[p]?=some row):row.length<=L.length:=by
 have:=de (S.nd p row h) (l₂:=cu L.length) λ x hx=>gw.mpr (S.rng p row x h hx).1;rwa [fv] at this
theorem Wb.of {L:Rows} (G:Good L):Wb L:=⟨⟨G.nd,G.rng,λ a b h=>G.sym h⟩,G.three,G.con⟩
theorem yJ {W:Rows} (S:Nb W) {x y:Nat} (h:E W x y):∃ z,R W y z x/\nxt W (x,y)=(y,z)/\E W y z:=by
 obtain ⟨row,e,m⟩:=S.sym _ _ h;obtain ⟨z,n⟩:=mN m;exact ⟨z,⟨row,e,n⟩,oX S.nd ⟨row,e,n⟩,⟨row,e,(qC n).1⟩⟩
theorem kBS {W:Rows} (S:Nb W) {x y:Nat} (h:E W x y) (n:Nat):E W (it (nxt W) n (x,y)).1 (it (nxt W) n (x,y)).2:=by
 have:=(gQ S.nd S.sym).it n (mem_steps.mpr h);exact mem_steps.mp this
theorem kMK {α:Type} [DecidableEq α] (f:α->α) (x:α) {k:Nat} (h:it f k x=x) (n:Nat):it f (k*n) x=x:=by
 induction n with
 | zero=>rfl
 | succ n ih=>rw [Nat.mul_succ,uC,h,ih]
theorem kAN {α:Type} [DecidableEq α] (f:α->α) (x:α) {k:Nat} (h:it f k x=x) (n:Nat):it f n x=it f (n % k) x:=by
 conv=>lhs;rw [<-Nat.mod_add_div n k]
 rw [uC,kMK f x h]
end Tri
local macro_rules | `(tactic| walk_at "sort_open gallop")=>`(tactic| delta $(Lean.mkIdent (Lean.mkPrivateNameCore `PySem.Builtin.List.W1All `PySem.Builtin.gallop)):ident)
namespace Srt
set_option autoImplicit false
open PySem PyProof.Rows
def vL:Bool->bp->Array bp->Nat->Nat->Nat->StateT eF Sem (Option Nat):=sortPriv% PySem.Builtin.gallop
def cF (left:Bool) (key:bp) (arr:Array bp) (base:Nat) (i:Nat):StateT eF Sem (Option Bool):=do
 let x <-elem' arr (base+i)
 if left then lt' x key else return (<-lt' key x).map (!·)
section
variable {M:wq} {A:fb} {E:ar->ay->Prop} {s:ay}
def kKO (left:Bool) (key:bp) (arr:Array bp) (base n lo0 hi0:Nat):StateT eF Sem (Option Nat):=do
 let mut lo:=lo0
 let mut hi:=hi0
 for _ in [0:n] do
  if lo >= hi then break
  let m:=lo+(hi-lo) / 2
  let some more <-cF left key arr base m | return none
  if more then lo:=m+1 else hi:=m
 return some hi
variable {left:Bool} {key:bp} {arr:Array bp} {base n hint:Nat} {Q:Option Nat->eF->Prop} {st:eF}
theorem mB (b:Nat->Bool) {lo hi:Nat}
  (hb:∀ i,i<n->∀ Q:Option Bool->eF->Prop,Q (some (b i)) st->wpS M A E s (cF left key arr base i) Q st)
  (mono:∀ i j,i<=j->j<n->b j=true->b i=true) (hlh:lo<=hi) (hn:hi<=n) (h1:∀ i,i<lo->b i=true) (h2:∀ i,hi<=i->i<n->b i=false)
  (h:∀ k,k<=n->(∀ i,i<k->b i=true)->(∀ i,k<=i->i<n->b i=false)->Q (some k) st):wpS M A E s (kKO left key arr base n lo hi) Q st:=by
 unfold kKO
 refine ck (sj (ip (I:=λ x c st'=>st'=st/\∃ l r,c=(none,l,r)/\l<=r/\r<=n/\r-l<=n-x/\(∀ i,i<l->b i=true)/\∀ i,r<=i->i<n->b i=false)
  (Q:=λ c st'=>st'=st/\∃ l,c=(none,l,l)/\l<=n/\(∀ i,i<l->b i=true)/\∀ i,l<=i->i<n->b i=false) ?step ?fin ⟨rfl,lo,hi,rfl,hlh,hn,by omega,h1,h2⟩) ?post)
 case post =>
  rintro c st' ⟨rfl,l,rfl,ln,a1,a2⟩;exact df (h l ln a1 a2)
 case fin =>
  rintro c st' ⟨rfl,l,r,rfl,lr,rn,d,a1,a2⟩;have:l=r:=by omega
  subst this;exact ⟨rfl,l,rfl,rn,a1,a2⟩
 case step =>
  rintro x c st' _ hx ⟨rfl,l,r,rfl,lr,rn,d,a1,a2⟩;dsimp only;by_cases hge:l >= r
  ·rw [if_pos hge]
   have:l=r:=by omega
   subst this;exact df ⟨rfl,l,rfl,rn,a1,a2⟩
  ·rw [if_neg hge]
   refine ck (hb _ (by omega) _ ?_)
   cases e:b (l+(r-l) / 2)
   case true =>
    simp only [if_true];exact df ⟨rfl,_,r,rfl,by omega,rn,by omega,λ i hi=>mono i _ (by omega) (by omega) e,a2⟩
   case false =>
    simp only [eC,if_false];refine df ⟨rfl,l,_,rfl,by omega,by omega,by omega,a1,λ i i1 i2=>?_⟩
    cases z:b i with
    | false=>rfl
    | true=>rw [mono _ i i1 i2 z] at e;cases e
theorem sX (b:Nat->Bool)
  (hb:∀ i,i<n->∀ Q:Option Bool->eF->Prop,Q (some (b i)) st->wpS M A E s (cF left key arr base i) Q st)
  (mono:∀ i j,i<=j->j<n->b j=true->b i=true) (hh:hint<n)
  (h:∀ k,k<=n->(∀ i,i<k->b i=true)->(∀ i,k<=i->i<n->b i=false)->Q (some k) st):wpS M A E s (vL left key arr base n hint) Q st:=by
 unfold vL
 walk_at "sort_open gallop"
 dsimp only
 have nf:∀ {i j:Nat},i<=j->j<n->b i=false->b j=false:=λ {i j} h1 h2 e=>by
  cases z:b j with
  | false=>rfl
  | true=>rw [mono i j h1 h2 z] at e;cases e
 refine ck (hb hint hh _ ?_)
 cases e:b hint
 case true =>
  simp only [if_true]
  refine ck (sj (ip (I:=λ x c st'=>st'=st/\∃ l o,c=(none,l,o)/\l<o/\x+1<=o/\hint+l<n/\b (hint+l)=true)
   (Q:=λ c st'=>st'=st/\∃ l o,c=(none,l,o)/\l<o/\hint+l<n/\b (hint+l)=true/\(n-hint<=o\/(hint+o<n/\b (hint+o)=false))) ?step ?fin ⟨rfl,0,1,rfl,by omega,by omega,by omega,e⟩) ?post)
  case fin =>
   rintro c st' ⟨rfl,l,o,rfl,lo,xo,ln,bl⟩;exact ⟨rfl,l,o,rfl,lo,ln,bl,.inl (by omega)⟩
  case step =>
   rintro x c st' _ hx ⟨rfl,l,o,rfl,lo,xo,ln,bl⟩;dsimp only;by_cases hge:o >= n-hint
   ·rw [if_pos hge]
    exact df ⟨rfl,l,o,rfl,lo,ln,bl,.inl hge⟩
   ·rw [if_neg hge]
    refine ck (hb _ (by omega) _ ?_)
    cases z:b (hint+o)
    case true =>
     simp only [xf,eC,if_false];exact df ⟨rfl,o,_,rfl,by omega,by omega,by omega,z⟩
    case false =>
     simp only [EF,if_true];exact df ⟨rfl,l,o,rfl,lo,ln,bl,.inr ⟨by omega,z⟩⟩
  case post =>
   rintro c st' ⟨rfl,l,o,rfl,lo,ln,bl,bo⟩;refine mB (lo:=hint+l+1) (hi:=hint+min o (n-hint)) b hb mono (by omega) (by omega) (λ i hi=>mono i (hint+l) (by omega) ln bl) (λ i i1 i2=>?_) h;rcases bo with z | ⟨z1,z2⟩
   ·omega
   ·exact nf (i:=hint+o) (by omega) i2 z2
 case false =>
  simp only [eC,if_false]
  refine ck (sj (ip (I:=λ x c st'=>st'=st/\∃ l o,c=(none,l,o)/\l<o/\x+1<=o/\l<=hint/\b (hint-l)=false)
   (Q:=λ c st'=>st'=st/\∃ l o,c=(none,l,o)/\l<o/\l<=hint/\b (hint-l)=false/\(hint+1<=o\/(o<=hint/\b (hint-o)=true))) ?step ?fin ⟨rfl,0,1,rfl,by omega,by omega,by omega,e⟩) ?post)
  case fin =>
   rintro c st' ⟨rfl,l,o,rfl,lo,xo,ln,bl⟩;exact ⟨rfl,l,o,rfl,lo,ln,bl,.inl (by omega)⟩
  case step =>
   rintro x c st' _ hx ⟨rfl,l,o,rfl,lo,xo,ln,bl⟩;dsimp only;by_cases hge:o >= hint+1
   ·rw [if_pos hge]
    exact df ⟨rfl,l,o,rfl,lo,ln,bl,.inl hge⟩
   ·rw [if_neg hge]
    refine ck (hb _ (by omega) _ ?_)
    cases z:b (hint-o)
    case false =>
     simp only [eC,if_false];exact df ⟨rfl,o,_,rfl,by omega,by omega,by omega,z⟩
    case true =>
     simp only [if_true];exact df ⟨rfl,l,o,rfl,lo,ln,bl,.inr ⟨by omega,z⟩⟩
  case post =>
   rintro c st' ⟨rfl,l,o,rfl,lo,ln,bl,bo⟩;refine mB (lo:=hint+1-min o (hint+1)) (hi:=hint-l) b hb mono (by omega) (by omega) (λ i hi=>?_) (λ i i1 i2=>nf (i:=hint-l) i1 i2 bl) h;rcases bo with z | ⟨z1,z2⟩
   ·omega
   ·exact mono i (hint-o) (by omega) (by omega) z2
end
end Srt
namespace Srt
set_option autoImplicit false
open PySem PyProof.Rows
section
variable {α:Type}
structure Wk (lb:α->α->Bool):Prop where
 irr:∀ a,lb a a=false
 neg:∀ a b c,lb a c=true->lb a b=true\/lb b c=true
 tr:∀ a b c,lb a b=true->lb b c=true->lb a c=true
variable {lb:α->α->Bool}
def le (lb:α->α->Bool) (a b:α):Prop:=lb b a=false
theorem Wk.refl (W:Wk lb) (a:α):le lb a a:=W.irr a
theorem Wk.of_lt (W:Wk lb) {a b:α} (h:lb a b=true):le lb a b:=by
 unfold le
 cases e:lb b a with
 | false=>rfl
 | true=>have:=W.tr _ _ _ h e;rw [W.irr] at this;cases this
theorem Wk.trans (W:Wk lb) {a b c:α} (h:le lb a b) (k:le lb b c):le lb a c:=by
 unfold le at *
 cases e:lb c a with
 | false=>rfl
 | true =>
  rcases W.neg c b a e with z | z
  ·rw [k] at z;cases z
  ·rw [h] at z;cases z
def jD (lb:α->α->Bool) (l:List α):Prop:=l.Pairwise (le lb)
structure Mg (lb:α->α->Bool) (A B:List α) (out ra rb:List α):Prop where
 sa:jD lb (out++ra)
 sb:jD lb (out++rb)
 pm:(out++(ra++rb)).Perm (A++B)
theorem Mg.moveA {A B out c ra rb:List α} (h:Mg lb A B out (c++ra) rb) (hc:∀ x∈c,∀ y∈rb,le lb x y):Mg lb A B (out++c) ra rb:=by
 refine ⟨by rw [cv];exact h.sa,?_,?_⟩
 ·have h1:=dr.mp h.sa
  have h2:=dr.mp h.sb;have h3:=dr.mp h1.2.1;rw [jD,cv];refine dr.mpr ⟨h1.1,dr.mpr ⟨h3.1,h2.2.1,hc⟩,λ x hx y hy=>?_⟩;rcases bz.mp hy with z | z
  ·exact h1.2.2 x hx y (az _ z)
  ·exact h2.2.2 x hx y z
 ·refine rh ?_ h.pm
  simp only [cv];exact ym _
theorem Mg.swap {A B out ra rb:List α} (h:Mg lb A B out ra rb):Mg lb B A out rb ra :=
 ⟨h.sb,h.sa,((jg).append_left out).trans (h.pm.trans jg)⟩
theorem Mg.moveB {A B out c ra rb:List α} (h:Mg lb A B out ra (c++rb)) (hc:∀ x∈c,∀ y∈ra,le lb x y):Mg lb A B (out++c) ra rb:=(h.swap.moveA hc).swap
def Res (lb:α->α->Bool) (A B r:List α):Prop:=jD lb r/\r.Perm (A++B)
theorem Mg.endA {A B out ra:List α} (h:Mg lb A B out ra []):Res lb A B (out++ra++[]):=⟨by simpa using h.sa,by simpa using h.pm⟩
theorem Mg.endB {A B out rb:List α} (h:Mg lb A B out [] rb):Res lb A B (out++[]++rb):=⟨by simpa using h.sb,by simpa using h.pm⟩
theorem Mg.last {A B out rb:List α} {z:α} (h:Mg lb A B out [z] rb) (hz:∀ y∈rb,le lb y z):Res lb A B (out++rb++[z]):=by
 refine ⟨?_,?_⟩
 ·have h1:=dr.mp h.sa
  have h2:=dr.mp h.sb;refine dr.mpr ⟨h.sb,lh _ _,λ x hx y hy=>?_⟩;have:y=z:=by simpa using hy
  subst this;rcases bz.mp hx with w | w
  ·exact h1.2.2 x w y (by simp)
  ·exact hz x w
 ·refine rh ?_ h.pm
  rw [cv];exact jg.append_left out
end
def gX:Array bp->Array bp->StateT eF Sem (Array bp):=sortPriv% PySem.Builtin.mergeLo
def xF:Nat->StateT eF Sem Unit:=sortPriv% PySem.Builtin.setMinGallop
abbrev wM (st:eF) (g:Nat):eF:=BS (kindOf st) (cz st) (cx st) g (sk st)
theorem setMinGallop'_eq (g:Nat):xF g=modify λ s=>wM s g:=rfl
end Srt
local macro_rules | `(tactic| walk_at "sort_open mergeLo")=>`(tactic| delta $(Lean.mkIdent (Lean.mkPrivateNameCore `PySem.Builtin.List.W1All `PySem.Builtin.mergeLo)):ident)
namespace Srt
set_option autoImplicit false
open PySem PyProof.Rows
section
variable {M:wq} {A:fb} {E:ar->ay->Prop} {s:ay} {lb:bp->bp->Bool} {D:bp->Prop} {kd:ko}
def vV (M:wq) (A:fb) (E:ar->ay->Prop) (s:ay) (lb:bp->bp->Bool) (D:bp->Prop) (kd:ko):Prop :=
 ∀ x y,D x->D y->∀ (st:eF) (Q:Option Bool->eF->Prop),kindOf st=kd->Q (some (lb x y)) st->wpS M A E s (lt' x y) Q st
theorem qG {arr:Array bp} {i:Nat} {p:bp} {Q:bp->eF->Prop} {st:eF} (h:arr[i]?=some p) (q:Q p st):wpS M A E s (elem' arr i) Q st:=by
 rw [elem'_eq,h];exact df q
def Sm (st st':eF):Prop:=kindOf st'=kindOf st/\cz st'=cz st/\cx st'=cx st/\sk st'=sk st
theorem Sm.refl (st:eF):Sm st st:=⟨rfl,rfl,rfl,rfl⟩
theorem Sm.gal {st st':eF} (h:Sm st st') (g:Nat):Sm st (wM st' g):=h
theorem wQ {x:String} {Q:Unit->eF->Prop} {st:eF} (q:Q () st):wpS M A E s (liftM (rule x):StateT eF Sem Unit) Q st:=FX (vy ⟨rfl,q⟩)
theorem sZ (hL:vV M A E s lb D kd) {left:Bool} {key x:bp} {arr:Array bp} {base i:Nat} {Q:Option Bool->eF->Prop} {st:eF} (hk:kindOf st=kd) (hx:arr[base+i]?=some x) (dk:D key) (dx:D x)
  (q:Q (some (if left then lb x key else !lb key x)) st):wpS M A E s (cF left key arr base i) Q st:=by
 unfold cF;refine ck (qG hx ?_)
 cases left with
 | true =>
  simp only [if_true] at q ⊢;exact hL _ _ dx dk st _ hk q
 | false =>
  simp only [eC,if_false] at q ⊢;exact ck (hL _ _ dk dx st _ hk (df q))
theorem uI (W:Wk lb) (hL:vV M A E s lb D kd) {left:Bool} {key:bp} {arr:Array bp} {base n hint:Nat} {Q:Option Nat->eF->Prop} {st:eF} (hk:kindOf st=kd) (dk:D key) (da:∀ x∈arr.toList,D x)
  (hn:base+n<=arr.size) (hs:∀ i j (hi:i<=j) (hj:j<n),le lb (arr[base+i]'(by omega)) (arr[base+j]'(by omega))) (hh:hint<n)
  (h:∀ k,k<=n->(∀ i (hi:i<k) (hin:i<n),if left then lb (arr[base+i]'(by omega)) key=true else le lb (arr[base+i]'(by omega)) key) ->
   (∀ i (hi:k<=i) (hin:i<n),if left then le lb key (arr[base+i]'(by omega)) else lb key (arr[base+i]'(by omega))=true)->Q (some k) st):wpS M A E s (vL left key arr base n hint) Q st:=by
 have g:∀ i,i<n->arr[base+i]?=some (arr.getD (base+i) key):=λ i hi=>by
  rw [getElem?_pos arr (base+i) (by omega)]
  congr 1
  simp [Ff,show base+i<arr.size by omega]
 have ge:∀ i (hi:i<n),arr.getD (base+i) key=arr[base+i]'(by omega):=λ i hi=>by simp [Ff,show base+i<arr.size by omega]
 refine sX (λ i=>if left then lb (arr.getD (base+i) key) key else !lb key (arr.getD (base+i) key)) (λ i hi Q q=>sZ hL hk (g i hi) dk (by rw [ge i hi];exact da _ (by simp)) q) (λ i j hi hj e=>?_) hh (λ k kn h1 h2=>h k kn (λ i hi hin=>?_) (λ i hi hin=>?_))
 ·have:=hs i j hi hj
  rw [ge i (by omega)];rw [ge j hj] at e
  cases left with
  | true =>
   simp only [if_true] at e ⊢;rcases W.neg _ (arr[base+i]'(by omega)) _ e with z | z
   ·rw [show lb _ _=false from this] at z;cases z
   ·exact z
  | false =>
   simp only [eC,if_false,Cr] at e ⊢;exact W.trans (lb:=lb) this (show le lb _ _ from e)
 ·have:=h1 i hi
  rw [ge i hin] at this
  cases left with
  | true=>simpa using this
  | false=>simp only [eC,if_false,Cr] at this ⊢;exact this
 ·have:=h2 i hi hin
  rw [ge i hin] at this
  cases left with
  | true=>simp only [if_true] at this ⊢;exact this
  | false=>simp only [eC,if_false,Bool.not_eq_false'] at this ⊢;exact this
abbrev LS:=Option (Array bp)×Array bp×Nat×Nat×Nat×Nat×Nat
section
variable (a b:Array bp)
def pC (out:Array bp) (ia ib g k k1:Nat):StateT eF Sem (ForInStep LS):=do
 let x <-elem' a ia
 if (ia+1+1 == a.size)=true then pure (.done (some (out.push x++b.extract ib++a.extract (ia+1)),out.push x,ia+1,ib,g,k,k1))
 else if (decide (k<7) && decide (k1<7))=true then pure (.done (none,out.push x,ia+1,ib,g,k,k1)) else pure (.yield (none,out.push x,ia+1,ib,g,k,k1))
def pB (out:Array bp) (ia ib g k ob:Nat):StateT eF Sem (ForInStep LS):=do
 let y <-elem' b ib
 if (ib+1 == b.size)=true then pure (.done (some (out.push y++a.extract ia++b.extract (ib+1)),out.push y,ia,ib+1,g,k,ob))
 else do
  let x <-elem' a ia
  let r <-vL true x b (ib+1) (b.size-(ib+1)) 0
  match r with
  | some k1 =>
   if k1>0 then
    if (ib+1+k1 == b.size)=true then pure (.done (some (out.push y++b.extract (ib+1) (ib+1+k1)++a.extract ia++b.extract (ib+1+k1)),out.push y++b.extract (ib+1) (ib+1+k1),ia,ib+1+k1,g,k,k1))
    else pC a b (out.push y++b.extract (ib+1) (ib+1+k1)) ia (ib+1+k1) g k k1
   else pC a b (out.push y) ia (ib+1) g k k1
  | x=>pure (.done (some (out.push y++a.extract ia++b.extract (ib+1)),out.push y,ia,ib+1,g,k,ob))
def pA (out:Array bp) (ia ib g oa ob:Nat):StateT eF Sem (ForInStep LS):=do
 xF g
 let y <-elem' b ib
 let r <-vL false y a ia (a.size-ia) 0
 match r with
 | some k =>
  if k>0 then
   if (ia+k+1 == a.size)=true then pure (.done (some (out++a.extract ia (ia+k)++b.extract ib++a.extract (ia+k)),out++a.extract ia (ia+k),ia+k,ib,g,k,ob))
   else if (ia+k == a.size)=true then pure (.done (some (out++a.extract ia (ia+k)++a.extract (ia+k)++b.extract ib),out++a.extract ia (ia+k),ia+k,ib,g,k,ob))
   else pB a b (out++a.extract ia (ia+k)) (ia+k) ib g k ob
  else pB a b out ia ib g k ob
 | x=>pure (.done (some (out++a.extract ia++b.extract ib),out,ia,ib,g,oa,ob))
abbrev LS1:=Option (Array bp)×Array bp×Nat×Nat×Nat×Nat
def p1 (mg:Nat) (c:LS1):StateT eF Sem (ForInStep LS1):=do
 let y <-elem' b c.2.2.2.1
 let x <-elem' a c.2.2.1
 let r <-lt' y x
 match r with
 | some bw =>
  if bw=true then do
   let y <-elem' b c.2.2.2.1
   if (c.2.2.2.1+1 == b.size)=true then pure (.done (some (c.2.1.push y++a.extract c.2.2.1++b.extract (c.2.2.2.1+1)),c.2.1.push y,c.2.2.1,c.2.2.2.1+1,0,c.2.2.2.2.2+1))
   else if c.2.2.2.2.2+1 >= mg then pure (.done (none,c.2.1.push y,c.2.2.1,c.2.2.2.1+1,0,c.2.2.2.2.2+1))
   else pure (.yield (none,c.2.1.push y,c.2.2.1,c.2.2.2.1+1,0,c.2.2.2.2.2+1))
  else do
   let x <-elem' a c.2.2.1
   if (c.2.2.1+1+1 == a.size)=true then pure (.done (some (c.2.1.push x++b.extract c.2.2.2.1++a.extract (c.2.2.1+1)),c.2.1.push x,c.2.2.1+1,c.2.2.2.1,c.2.2.2.2.1+1,0))
   else if c.2.2.2.2.1+1 >= mg then pure (.done (none,c.2.1.push x,c.2.2.1+1,c.2.2.2.1,c.2.2.2.2.1+1,0))
   else pure (.yield (none,c.2.1.push x,c.2.2.1+1,c.2.2.2.1,c.2.2.2.2.1+1,0))
 | x=>pure (.done (some (c.2.1++a.extract c.2.2.1++b.extract c.2.2.2.1),c.2.1,c.2.2.1,c.2.2.2.1,c.2.2.2.2.1,c.2.2.2.2.2))
abbrev LS0:=Option (Array bp)×Array bp×Nat×Nat×Nat
def p0 (c:LS0):StateT eF Sem (ForInStep LS0):=do
 let d <-forIn [:a.size+b.size] ((none,c.2.1,c.2.2.1,c.2.2.2.1,0,0):LS1) λ x d=>p1 a b c.2.2.2.2 d
 match d.1 with
 | some r=>pure (.done (some r,d.2.1,d.2.2.1,d.2.2.2.1,c.2.2.2.2))
 | none=>do
  liftM (rule "list.sort.gallop")
  let f <-forIn [:a.size+b.size] ((none,d.2.1,d.2.2.1,d.2.2.2.1,c.2.2.2.2+1,d.2.2.2.2.1,d.2.2.2.2.2):LS) λ x f =>
   if f.2.2.2.2.1>1 then pA a b f.2.1 f.2.2.1 f.2.2.2.1 (f.2.2.2.2.1-1) f.2.2.2.2.2.1 f.2.2.2.2.2.2 else pA a b f.2.1 f.2.2.1 f.2.2.2.1 f.2.2.2.2.1 f.2.2.2.2.2.1 f.2.2.2.2.2.2
  match f.1 with
  | some r=>pure (.done (some r,f.2.1,f.2.2.1,f.2.2.2.1,f.2.2.2.2.1))
  | none=>do
   xF (f.2.2.2.2.1+1)
   pure (.yield (none,f.2.1,f.2.2.1,f.2.2.2.1,f.2.2.2.2.1+1))
theorem mergeLo'_parts:gX a b=(do
  liftM (rule "list.sort.merge-lo")
  let y <-elem' b 0
  if (1 == b.size)=true then pure (#[y]++a.extract 0++b.extract 1)
  else if (0+1 == a.size)=true then pure (#[y]++b.extract 1++a.extract 0)
  else do
   let st <-get
   let c <-forIn [:a.size+b.size] ((none,#[y],0,1,gallopOf st):LS0) λ x c=>p0 a b c
   match c.1 with
   | some r=>pure r
   | none=>unsupported "internal:list.sort.merge-bound"):=by
 unfold gX
 walk_at "sort_open mergeLo"
 dsimp only;refine congrArg _ (funext λ _=>?_);refine congrArg _ (funext λ y=>?_);refine congrArg _ ?_;refine congrArg _ ?_;refine congrArg _ (funext λ st=>?_);refine congr (congrArg _ (congrArg _ (funext λ x=>funext λ c=>?_))) (funext λ c=>by cases c.1<;>rfl);unfold p0;refine congr (congrArg _ (congrArg _ (funext λ x=>funext λ d=>?_))) (funext λ d=>?_)
 ·unfold p1
  refine congrArg _ (funext λ _=>?_);refine congrArg _ (funext λ _=>?_);refine congrArg _ (funext λ r=>?_);cases r<;>rfl
 ·cases d.1 with
  | some r=>rfl
  | none =>
   dsimp only;refine congrArg _ (funext λ _=>?_);refine congr (congrArg _ (congrArg _ (funext λ x=>funext λ f=>?_))) (funext λ f=>by cases f.1<;>rfl);have tail:∀ (out:Array bp) (ia ib g k ob:Nat),True:=λ _ _ _ _ _ _=>trivial;refine ite_congr rfl (λ _=>?_) (λ _=>?_)
   all_goals
    unfold pA;refine congrArg _ (funext λ _=>?_);refine congrArg _ (funext λ y=>?_);refine congrArg _ (funext λ r=>?_)
    cases r with
    | none=>rfl
    | some k =>
     dsimp only;refine ite_congr rfl (λ _=>ite_congr rfl (λ _=>rfl) (λ _=>ite_congr rfl (λ _=>rfl) (λ _=>?_))) (λ _=>?_)
     all_goals
      unfold pB;refine congrArg _ (funext λ y=>?_);refine ite_congr rfl (λ _=>rfl) (λ _=>?_);refine congrArg _ (funext λ x=>?_);refine congrArg _ (funext λ r=>?_);cases r<;>rfl
end
end
end Srt
namespace Srt
set_option autoImplicit false
open PySem PyProof.Rows
section
variable {α:Type}
theorem wX (a:Array α) (i:Nat):(a.extract i).toList=a.toList.drop i:=by
 rw [so,mv];exact gn (by simp)
theorem xD (a:Array α) (i k:Nat):(a.extract i (i+k)).toList=(a.toList.drop i).take k:=by
 rw [so,mv]
 congr 1
 omega
theorem drop_one {a:Array α} {i:Nat} (h:i<a.size):a.toList.drop i=[a[i]]++a.toList.drop (i+1):=by
 rw [md (by simpa using h)]
 rfl
theorem kAT (l:List α) (i k:Nat):l.drop i=(l.drop i).take k++l.drop (i+k):=by
 conv=>lhs;rw [<-eW k (l.drop i)]
 rw [BJ]
end
section
variable {M:wq} {A:fb} {E:ar->ay->Prop} {s:ay} {lb:bp->bp->Bool} {D:bp->Prop} {kd:ko} {a b:Array bp}
structure Hy (M:wq) (A:fb) (E:ar->ay->Prop) (s:ay) (lb:bp->bp->Bool) (D:bp->Prop) (kd:ko) (a b:Array bp):Prop where
 W:Wk lb
 L:vV M A E s lb D kd
 da:∀ x∈a.toList,D x
 db:∀ x∈b.toList,D x
 sa:jD lb a.toList
 sb:jD lb b.toList
 last:∀ (h:0<a.size),∀ y∈b.toList,le lb y a[a.size-1]
def MI (lb:bp->bp->Bool) (a b:Array bp) (out:Array bp) (ia ib:Nat):Prop :=
 Mg lb a.toList b.toList out.toList (a.toList.drop ia) (b.toList.drop ib)/\ia+1<a.size/\ib<b.size/\out.size=ia+ib
def Yd (lb:bp->bp->Bool) (a b:Array bp) (n:Nat) {γ:Type} (c:Option (Array bp)×Array bp×Nat×Nat×γ):Prop:=c.1=none/\MI lb a b c.2.1 c.2.2.1 c.2.2.2.1/\n<=c.2.1.size
def Dn (lb:bp->bp->Bool) (a b:Array bp) (n:Nat) {γ:Type} (c:Option (Array bp)×Array bp×Nat×Nat×γ):Prop:=(∃ r,c.1=some r/\Res lb a.toList b.toList r.toList)\/Yd lb a b n c
def RR (lb:bp->bp->Bool) (a b:Array bp) (n:Nat) {γ:Type}:ForInStep (Option (Array bp)×Array bp×Nat×Nat×γ)->Prop
 | .done c=>Dn lb a b n c
 | .yield c=>Yd lb a b n c
theorem wL (W:Wk lb) {a:Array bp} (h:jD lb a.toList) {i j:Nat} (hij:i<=j) (hj:j<a.size):le lb (a[i]'(by omega)) a[j]:=by
 by_cases e:i=j
 ·subst e;exact W.refl _
 ·have:=jc.mp h i j (by simp;omega) (by simp;omega) (by omega)
  simpa using this
theorem zA {a:Array bp} {i:Nat} {x:bp} (h:x∈a.toList.drop i):∃ j,∃ hj:j<a.size,i<=j/\x=a[j]:=by
 obtain ⟨k,hk,e⟩:=eU.mp h;rw [iP] at hk;refine ⟨i+k,by simp at hk;omega,by omega,?_⟩;rw [<-e,Ap];simp
theorem kBV {out:Array bp} {ia ib:Nat} (h:Mg lb a.toList b.toList out.toList (a.toList.drop ia) (b.toList.drop ib)) (e:ib=b.size):Res lb a.toList b.toList (out++a.extract ia++b.extract ib).toList:=by
 rw [fq,fq,wX,wX];have z:b.toList.drop ib=[]:=jl (by simp;omega);rw [z] at h ⊢;exact h.endA
theorem kOA {out:Array bp} {ia ib:Nat} (h:Mg lb a.toList b.toList out.toList (a.toList.drop ia) (b.toList.drop ib)) (e:ia=a.size):Res lb a.toList b.toList (out++a.extract ia++b.extract ib).toList:=by
 rw [fq,fq,wX,wX];have z:a.toList.drop ia=[]:=jl (by simp;omega);rw [z] at h ⊢;exact h.endB
theorem cC (H:Hy M A E s lb D kd a b) {out:Array bp} {ia ib:Nat} (h:Mg lb a.toList b.toList out.toList (a.toList.drop ia) (b.toList.drop ib)) (e:ia+1=a.size):Res lb a.toList b.toList (out++b.extract ib++a.extract ia).toList:=by
 rw [fq,fq,wX,wX]
 have z:a.toList.drop ia=[a[a.size-1]'(by omega)]:=by
  rw [drop_one (show ia<a.size by omega),jl (by simp;omega)];simp only [iN]
  congr 2
  omega
 rw [z] at h ⊢;exact h.last λ y hy=>H.last (by omega) y (List.mem_of_mem_drop hy)
theorem tI (H:Hy M A E s lb D kd a b) {out:Array bp} {ia ib:Nat} (ha:ia<a.size) (hb:ib<b.size) (h:Mg lb a.toList b.toList out.toList (a.toList.drop ia) (b.toList.drop ib)) (c:le lb b[ib] a[ia]):Mg lb a.toList b.toList (out.push b[ib]).toList (a.toList.drop ia) (b.toList.drop (ib+1)):=by
 rw [drop_one hb] at h;rw [tu];refine h.moveB λ x hx y hy=>?_;have:x=b[ib]:=by simpa using hx
 subst this;obtain ⟨j,hj,ij,rfl⟩:=zA hy;exact H.W.trans c (wL H.W H.sa ij hj)
theorem kFG (H:Hy M A E s lb D kd a b) {out:Array bp} {ia ib:Nat} (ha:ia<a.size) (h:Mg lb a.toList b.toList out.toList (a.toList.drop ia) (b.toList.drop ib)) (c:∀ y∈b.toList.drop ib,le lb a[ia] y):Mg lb a.toList b.toList (out.push a[ia]).toList (a.toList.drop (ia+1)) (b.toList.drop ib):=by
 rw [drop_one ha] at h;rw [tu];refine h.moveA λ x hx y hy=>?_;have:x=a[ia]:=by simpa using hx
 subst this;exact c y hy
theorem kOK (H:Hy M A E s lb D kd a b) {ib:Nat} {x:bp} (hb:ib<b.size) (c:le lb x b[ib]):∀ y∈b.toList.drop ib,le lb x y:=λ y hy=>by
 obtain ⟨j,hj,ij,rfl⟩:=zA hy;exact H.W.trans c (wL H.W H.sb ij hj)
theorem kKT (H:Hy M A E s lb D kd a b) {st:eF} (hk:kindOf st=kd) {out:Array bp} {ia ib u v mg:Nat} (h:MI lb a b out ia ib) {Q:ForInStep LS1->eF->Prop}
  (q:∀ r,RR lb a b (out.size+1) r->Q r st):wpS M A E s (p1 a b mg (none,out,ia,ib,u,v)) Q st:=by
 obtain ⟨m,h1,h2,h3⟩:=h;have ha:ia<a.size:=by omega
 unfold p1;dsimp only;refine ck (qG (getElem?_pos b ib h2) ?_);refine ck (qG (getElem?_pos a ia ha) ?_);refine ck (H.L _ _ (H.db _ (by simp)) (H.da _ (by simp)) st _ hk ?_)
 cases e:lb b[ib] a[ia]
 case true =>
  simp only [if_true];refine ck (qG (getElem?_pos b ib h2) ?_);have m':=tI H ha h2 m (H.W.of_lt e);by_cases c:ib+1=b.size
  ·rw [if_pos (by simpa using c)]
   exact df (q _ (.inl ⟨_,rfl,kBV m' c⟩))
  ·rw [if_neg (by simpa using c)]
   have y:Yd lb a b (out.size+1) (none,out.push b[ib],ia,ib+1,(0,v+1)):=⟨rfl,⟨m',h1,by show ib+1<b.size;omega,by show (out.push b[ib]).size=ia+(ib+1);rw [iK];omega⟩,by show out.size+1<=(out.push b[ib]).size;rw [iK];omega⟩
   split
   ·exact df (q _ (.inr y))
   ·exact df (q _ y)
 case false =>
  simp only [eC,if_false];refine ck (qG (getElem?_pos a ia ha) ?_);have m':=kFG H ha m (kOK H h2 e);by_cases c:ia+1+1=a.size
  ·rw [if_pos (by simpa using c)]
   exact df (q _ (.inl ⟨_,rfl,cC H m' c⟩))
  ·rw [if_neg (by simpa using c)]
   have y:Yd lb a b (out.size+1) (none,out.push a[ia],ia+1,ib,(u+1,0)):=⟨rfl,⟨m',by show ia+1+1<a.size;omega,h2,by show (out.push a[ia]).size=ia+1+ib;rw [iK];omega⟩,by show out.size+1<=(out.push a[ia]).size;rw [iK];omega⟩
   split
   ·exact df (q _ (.inr y))
   ·exact df (q _ y)
end
end Srt
namespace Srt
set_option autoImplicit false
open PySem PyProof.Rows
section
variable {M:wq} {A:fb} {E:ar->ay->Prop} {s:ay} {lb:bp->bp->Bool} {D:bp->Prop} {kd:ko} {a b:Array bp}
theorem wF {a:Array bp} {i k:Nat} {x:bp} (h:x∈(a.toList.drop i).take k):∃ j,∃ hj:i+j<a.size,j<k/\x=a[i+j]:=by
 obtain ⟨j,hj,e⟩:=eU.mp h;rw [eK,iP] at hj;refine ⟨j,by simp at hj;omega,by omega,?_⟩;rw [<-e,yn,Ap];simp
theorem kKC {out:Array bp} {ia ib k:Nat} (h:Mg lb a.toList b.toList out.toList (a.toList.drop ia) (b.toList.drop ib)) (c:∀ x∈(b.toList.drop ib).take k,∀ y∈a.toList.drop ia,le lb x y):Mg lb a.toList b.toList (out++b.extract ib (ib+k)).toList (a.toList.drop ia) (b.toList.drop (ib+k)):=by
 rw [fq,xD];rw [kAT b.toList ib k] at h;exact h.moveB c
theorem kKD {out:Array bp} {ia ib k:Nat} (h:Mg lb a.toList b.toList out.toList (a.toList.drop ia) (b.toList.drop ib)) (c:∀ x∈(a.toList.drop ia).take k,∀ y∈b.toList.drop ib,le lb x y):Mg lb a.toList b.toList (out++a.extract ia (ia+k)).toList (a.toList.drop (ia+k)) (b.toList.drop ib):=by
 rw [fq,xD];rw [kAT a.toList ia k] at h;exact h.moveA c
theorem kEQ (H:Hy M A E s lb D kd a b) {st:eF} {out:Array bp} {ia ib g k k1 n:Nat} (h:MI lb a b out ia ib) (hn:n<=out.size+1) (c:∀ (hh:ia<a.size),∀ y∈b.toList.drop ib,le lb a[ia] y) {Q:ForInStep LS->eF->Prop}
  (q:∀ r,RR lb a b n r->Q r st):wpS M A E s (pC a b out ia ib g k k1) Q st:=by
 obtain ⟨m,h1,h2,h3⟩:=h;have ha:ia<a.size:=by omega
 unfold pC;refine ck (qG (getElem?_pos a ia ha) ?_);have m':=kFG H ha m (c ha);by_cases e:ia+1+1=a.size
 ·rw [if_pos (by simpa using e)]
  exact df (q _ (.inl ⟨_,rfl,cC H m' e⟩))
 ·rw [if_neg (by simpa using e)]
  have y:Yd lb a b n (none,out.push a[ia],ia+1,ib,(g,k,k1)):=⟨rfl,⟨m',by show ia+1+1<a.size;omega,h2,by show (out.push a[ia]).size=ia+1+ib;rw [iK];omega⟩,by show n<=(out.push a[ia]).size;rw [iK];omega⟩
  split
  ·exact df (q _ (.inr y))
  ·exact df (q _ y)
theorem kER (H:Hy M A E s lb D kd a b) {st:eF} (hk:kindOf st=kd) {out:Array bp} {ia ib g k ob n:Nat} (h:MI lb a b out ia ib) (hn:n<=out.size+1) (c:∀ (ha:ia<a.size) (hb:ib<b.size),le lb b[ib] a[ia]) {Q:ForInStep LS->eF->Prop}
  (q:∀ r,RR lb a b n r->Q r st):wpS M A E s (pB a b out ia ib g k ob) Q st:=by
 obtain ⟨m,h1,h2,h3⟩:=h;have ha:ia<a.size:=by omega
 unfold pB;refine ck (qG (getElem?_pos b ib h2) ?_);have m':=tI H ha h2 m (c ha h2);have sz:(out.push b[ib]).size=ia+(ib+1):=by rw [iK];omega
 by_cases e:ib+1=b.size
 ·rw [if_pos (by simpa using e)]
  exact df (q _ (.inl ⟨_,rfl,kBV m' e⟩))
 ·rw [if_neg (by simpa using e)]
  refine ck (qG (getElem?_pos a ia ha) ?_);refine ck (uI H.W H.L hk (H.da _ (by simp)) H.db (by omega) (λ i j hi hj=>wL H.W H.sb (by omega) (by omega)) (by omega) λ k1 kn g1 g2=>?_);simp only [if_true] at g1 g2
  have rest:∀ y∈b.toList.drop (ib+1+k1),le lb a[ia] y:=λ y hy=>by
   obtain ⟨j,hj,ij,rfl⟩:=zA hy;have:=g2 (j-(ib+1)) (by omega) (by omega);simp only [show ib+1+(j-(ib+1))=j by omega] at this;exact this
  dsimp only;by_cases k0:k1>0
  ·rw [if_pos k0]
   have m2:=kKC (k:=k1) m' λ x hx y hy=>by
    obtain ⟨j,hj,jk,rfl⟩:=wF hx;obtain ⟨i,hi,ii,rfl⟩:=zA hy;exact H.W.trans (H.W.of_lt (g1 j jk (by omega))) (wL H.W H.sa ii hi)
   have sz2:(out.push b[ib]++b.extract (ib+1) (ib+1+k1)).size=ia+(ib+1+k1):=by
    rw [vm,sz,jf];omega
   by_cases e2:ib+1+k1=b.size
   ·rw [if_pos (by simpa using e2)]
    exact df (q _ (.inl ⟨_,rfl,kBV m2 e2⟩))
   ·rw [if_neg (by simpa using e2)]
    exact kEQ H ⟨m2,h1,by omega,sz2⟩ (by omega) (λ _=>rest) q
  ·rw [if_neg k0]
   have:k1=0:=by omega
   subst this;exact kEQ H ⟨m',h1,by omega,sz⟩ (by omega) (λ _=>rest) q
theorem kKS (H:Hy M A E s lb D kd a b) {st:eF} (hk:kindOf st=kd) {out:Array bp} {ia ib g oa ob n:Nat} (h:MI lb a b out ia ib) (hn:n<=out.size+1) {Q:ForInStep LS->eF->Prop}
  (q:∀ r,RR lb a b n r->Q r (wM st g)):wpS M A E s (pA a b out ia ib g oa ob) Q st:=by
 obtain ⟨m,h1,h2,h3⟩:=id h;have ha:ia<a.size:=by omega
 unfold pA;rw [setMinGallop'_eq];refine ck (lj ?_);refine ck (qG (getElem?_pos b ib h2) ?_);refine ck (uI (st:=wM st g) H.W H.L hk (H.db _ (by simp)) H.da (by omega) (λ i j hi hj=>wL H.W H.sa (by omega) (by omega)) (by omega) λ k kn g1 g2=>?_);simp only [eC,if_false] at g1 g2;dsimp only;by_cases k0:k>0
 ·rw [if_pos k0]
  have m2:=kKD (k:=k) m λ x hx y hy=>by
   obtain ⟨j,hj,jk,rfl⟩:=wF hx;obtain ⟨i,hi,ii,rfl⟩:=zA hy;exact H.W.trans (g1 j jk (by omega)) (wL H.W H.sb ii hi)
  have sz2:(out++a.extract ia (ia+k)).size=ia+k+ib:=by
   rw [vm,jf];omega
  by_cases e1:ia+k+1=a.size
  ·rw [if_pos (by simpa using e1)]
   exact df (q _ (.inl ⟨_,rfl,cC H m2 e1⟩))
  ·rw [if_neg (by simpa using e1)]
   by_cases e2:ia+k=a.size
   ·rw [if_pos (by simpa using e2)]
    exact df (q _ (.inl ⟨_,rfl,kOA m2 e2⟩))
   ·rw [if_neg (by simpa using e2)]
    exact kER (st:=wM st g) H hk ⟨m2,by omega,h2,sz2⟩ (by omega) (λ _ _=>H.W.of_lt (g2 k (by omega) (by omega))) q
 ·rw [if_neg k0]
  have:k=0:=by omega
  subst this;exact kER (st:=wM st g) H hk h hn (λ _ _=>H.W.of_lt (g2 0 (by omega) (by omega))) q
end
end Srt
namespace Srt
set_option autoImplicit false
open PySem PyProof.Rows
section
variable {M:wq} {A:fb} {E:ar->ay->Prop} {s:ay} {lb:bp->bp->Bool} {D:bp->Prop} {kd:ko} {a b:Array bp}
theorem Yd.mono {n n':Nat} {γ:Type} {c:Option (Array bp)×Array bp×Nat×Nat×γ} (h:Yd lb a b n c) (k:n'<=n):Yd lb a b n' c:=⟨h.1,h.2.1,iA k h.2.2⟩
theorem Dn.mono {n n':Nat} {γ:Type} {c:Option (Array bp)×Array bp×Nat×Nat×γ} (h:Dn lb a b n c) (k:n'<=n):Dn lb a b n' c:=h.imp id λ z=>z.mono k
theorem kKU (H:Hy M A E s lb D kd a b) {st:eF} (hk:kindOf st=kd) {out:Array bp} {ia ib g:Nat} (h:MI lb a b out ia ib) {Q:ForInStep LS0->eF->Prop}
  (qd:∀ r c st',Sm st st'->Res lb a.toList b.toList r.toList->Q (.done (some r,c)) st') (qy:∀ c st',Sm st st'->Yd lb a b (out.size+1) c->Q (.yield c) st'):wpS M A E s (p0 a b (none,out,ia,ib,g)) Q st:=by
 unfold p0;dsimp only;have tot:0<a.size+b.size:=by have:=h.2.2.1;omega
 refine ck (sj (ip (I:=λ x d st'=>st'=st/\Yd lb a b (out.size+x) d) (Q:=λ d st'=>st'=st/\Dn lb a b (out.size+1) d) ?step ?fin ⟨rfl,rfl,h,bq _⟩) ?post)
 case fin =>
  rintro d st' ⟨rfl,y⟩;exact ⟨rfl,.inr (y.mono (by omega))⟩
 case step =>
  rintro x ⟨r,o,i,j,u,v⟩ st' _ _ ⟨rfl,e,mi,le⟩
  cases (show r=none from e)
  have le:out.size+x<=o.size:=le;refine kKT H hk mi λ r hr=>?_
  cases r with
  | done c=>exact ⟨rfl,Dn.mono hr (by omega)⟩
  | yield c=>exact ⟨rfl,Yd.mono hr (by omega)⟩
 case post =>
  rintro ⟨r,o,i,j,u,v⟩ st' ⟨rfl,hd⟩
  cases r with
  | some r =>
   dsimp only;rcases hd with ⟨r',e,res⟩ | ⟨e,_⟩
   ·cases e
    exact df (qd _ _ _ (Sm.refl _) res)
   ·cases e
  | none =>
   dsimp only
   have y:Yd lb a b (out.size+1) (none,o,i,j,(u,v)):=by
    rcases hd with ⟨r',e,res⟩ | y
    ·cases e
    ·exact y
   refine ck (wQ ?_);refine ck (sj (ip (I:=λ x f st2=>Sm st' st2/\Yd lb a b (out.size+1) f) (Q:=λ f st2=>Sm st' st2/\Dn lb a b (out.size+1) f) ?step2 ?fin2 ⟨Sm.refl _,y⟩) ?post2)
   case fin2 =>
    rintro f st2 ⟨sm,y⟩;exact ⟨sm,.inr y⟩
   case step2 =>
    rintro x ⟨r,o,i,j,g2,u,v⟩ st2 _ _ ⟨sm,e,mi,le⟩
    cases (show r=none from e)
    have le:out.size+1<=o.size:=le;dsimp only
    split
    all_goals
     refine kKS (n:=out.size+1) H (sm.1.trans hk) mi (by omega) λ r hr=>?_
     cases r with
     | done c=>exact ⟨sm.gal _,hr⟩
     | yield c=>exact ⟨sm.gal _,hr⟩
   case post2 =>
    rintro ⟨r,o,i,j,g2,u,v⟩ st2 ⟨sm,hd⟩
    cases r with
    | some r =>
     dsimp only;rcases hd with ⟨r',e,res⟩ | ⟨e,_⟩
     ·cases e
      exact df (qd _ _ _ sm res)
     ·cases e
    | none =>
     dsimp only;rcases hd with ⟨r',e,res⟩ | y
     ·cases e
     ·rw [setMinGallop'_eq]
      exact ck (lj (df (qy _ _ (sm.gal _) y)))
theorem pU (H:Hy M A E s lb D kd a b) {st:eF} (hk:kindOf st=kd) (a0:0<a.size) (b0:0<b.size) (first:le lb b[0] a[0]) {Q:Array bp->eF->Prop}
  (q:∀ r st',Sm st st'->Res lb a.toList b.toList r.toList->Q r st'):wpS M A E s (gX a b) Q st:=by
 rw [mergeLo'_parts];refine ck (wQ ?_);refine ck (qG (getElem?_pos b 0 b0) ?_);have m0:Mg lb a.toList b.toList (#[]:Array bp).toList (a.toList.drop 0) (b.toList.drop 0):=⟨H.sa,H.sb,ym _⟩;have m1:Mg lb a.toList b.toList (#[b[0]]:Array bp).toList (a.toList.drop 0) (b.toList.drop 1):=tI H a0 b0 m0 first;by_cases e1:1=b.size
 ·rw [if_pos (by simpa using e1)]
  exact df (q _ _ (Sm.refl _) (kBV m1 e1))
 rw [if_neg (by simpa using e1)];by_cases e2:0+1=a.size
 ·rw [if_pos (by simpa using e2)]
  exact df (q _ _ (Sm.refl _) (cC H m1 e2))
 rw [if_neg (by simpa using e2)];refine ck (xp ?_);refine ck (sj (ip (I:=λ x c st'=>Sm st st'/\Yd lb a b (1+x) c) (Q:=λ c st'=>Sm st st'/\∃ r,c.1=some r/\Res lb a.toList b.toList r.toList) ?step ?fin ⟨Sm.refl _,rfl,⟨m1,by show 0+1<a.size;omega,by show 1<b.size;omega,rfl⟩,bq _⟩) ?post)
 case post =>
  rintro ⟨r,c⟩ st' ⟨sm,r',e,res⟩;cases e
  exact df (q _ _ sm res)
 case fin =>
  rintro ⟨r,o,i,j,g⟩ st' ⟨sm,e,⟨_,h1,h2,h3⟩,le⟩;have h3:o.size=i+j:=h3;have le:1+max 0 (a.size+b.size)<=o.size:=le;have h1:i+1<a.size:=h1;have h2:j<b.size:=h2;omega
 case step =>
  rintro x ⟨r,o,i,j,g⟩ st' _ _ ⟨sm,e,mi,le⟩
  cases (show r=none from e)
  have le:1+x<=o.size:=le;exact kKU H (sm.1.trans hk) mi (λ r c st2 sm2 res=>⟨⟨sm2.1.trans sm.1,sm2.2.1.trans sm.2.1,sm2.2.2.1.trans sm.2.2.1,sm2.2.2.2.trans sm.2.2.2⟩,r,rfl,res⟩) λ c st2 sm2 y=>⟨⟨sm2.1.trans sm.1,sm2.2.1.trans sm.2.1,sm2.2.2.1.trans sm.2.2.1,sm2.2.2.2.trans sm.2.2.2⟩,y.mono (by omega)⟩
end
end Srt
local macro_rules | `(tactic| walk_at "sort_open mergeHi")=>`(tactic| delta $(Lean.mkIdent (Lean.mkPrivateNameCore `PySem.Builtin.List.W1All `PySem.Builtin.mergeHi)):ident)
namespace Srt
set_option autoImplicit false
open PySem PyProof.Rows
def gY:Array bp->Array bp->StateT eF Sem (Array bp):=sortPriv% PySem.Builtin.mergeHi
abbrev KS:=Option (Array bp)×Nat×Nat×Array bp×Nat×Nat×Nat
abbrev KS1:=Option (Array bp)×Nat×Nat×Array bp×Nat×Nat
abbrev KS0:=Option (Array bp)×Nat×Nat×Array bp×Nat
section
variable (a b:Array bp)
def hDn (na nb:Nat) (out:Array bp):Array bp:=a.extract 0 na++b.extract 0 nb++out.reverse
def hFb (na nb:Nat) (out:Array bp):Array bp:=b.extract 0 nb++a.extract 0 na++out.reverse
def hC (na nb:Nat) (out:Array bp) (g k k1:Nat):StateT eF Sem (ForInStep KS):=do
 let x <-elem' a (na-1)
 if (na-1 == 0)=true then pure (.done (some (hDn a b (na-1) nb (out.push x)),na-1,nb,out.push x,g,k,k1))
 else if (decide (k<7) && decide (k1<7))=true then pure (.done (none,na-1,nb,out.push x,g,k,k1)) else pure (.yield (none,na-1,nb,out.push x,g,k,k1))
def hB (na nb:Nat) (out:Array bp) (g k ob:Nat):StateT eF Sem (ForInStep KS):=do
 let y <-elem' b (nb-1)
 if (nb-1 == 1)=true then pure (.done (some (hFb a b na (nb-1) (out.push y)),na,nb-1,out.push y,g,k,ob))
 else do
  let x <-elem' a (na-1)
  let r <-vL true x b 0 (nb-1) (nb-1-1)
  match r with
  | some p =>
   if nb-1-p>0 then
    if (p == 1)=true then pure (.done (some (hFb a b na p (out.push y++(b.extract p (nb-1)).reverse)),na,p,out.push y++(b.extract p (nb-1)).reverse,g,k,nb-1-p))
    else if (p == 0)=true then pure (.done (some (hDn a b na p (out.push y++(b.extract p (nb-1)).reverse)),na,p,out.push y++(b.extract p (nb-1)).reverse,g,k,nb-1-p))
    else hC a b na p (out.push y++(b.extract p (nb-1)).reverse) g k (nb-1-p)
   else hC a b na (nb-1) (out.push y) g k (nb-1-p)
  | x=>pure (.done (some (hDn a b na (nb-1) (out.push y)),na,nb-1,out.push y,g,k,ob))
def hA (na nb:Nat) (out:Array bp) (g oa ob:Nat):StateT eF Sem (ForInStep KS):=do
 xF g
 let y <-elem' b (nb-1)
 let r <-vL false y a 0 na (na-1)
 match r with
 | some p =>
  if na-p>0 then
   if (p == 0)=true then pure (.done (some (hDn a b p nb (out++(a.extract p na).reverse)),p,nb,out++(a.extract p na).reverse,g,na-p,ob))
   else hB a b p nb (out++(a.extract p na).reverse) g (na-p) ob
  else hB a b na nb out g (na-p) ob
 | x=>pure (.done (some (hDn a b na nb out),na,nb,out,g,oa,ob))
def h1 (mg:Nat) (c:KS1):StateT eF Sem (ForInStep KS1):=do
 let y <-elem' b (c.2.2.1-1)
 let x <-elem' a (c.2.1-1)
 let r <-lt' y x
 match r with
 | some aw =>
  if aw=true then do
   let x <-elem' a (c.2.1-1)
   if (c.2.1-1 == 0)=true then pure (.done (some (hDn a b (c.2.1-1) c.2.2.1 (c.2.2.2.1.push x)),c.2.1-1,c.2.2.1,c.2.2.2.1.push x,c.2.2.2.2.1+1,0))
   else if c.2.2.2.2.1+1 >= mg then pure (.done (none,c.2.1-1,c.2.2.1,c.2.2.2.1.push x,c.2.2.2.2.1+1,0))
   else pure (.yield (none,c.2.1-1,c.2.2.1,c.2.2.2.1.push x,c.2.2.2.2.1+1,0))
  else do
   let y <-elem' b (c.2.2.1-1)
   if (c.2.2.1-1 == 1)=true then pure (.done (some (hFb a b c.2.1 (c.2.2.1-1) (c.2.2.2.1.push y)),c.2.1,c.2.2.1-1,c.2.2.2.1.push y,0,c.2.2.2.2.2+1))
   else if c.2.2.2.2.2+1 >= mg then pure (.done (none,c.2.1,c.2.2.1-1,c.2.2.2.1.push y,0,c.2.2.2.2.2+1))
   else pure (.yield (none,c.2.1,c.2.2.1-1,c.2.2.2.1.push y,0,c.2.2.2.2.2+1))
 | x=>pure (.done (some (hDn a b c.2.1 c.2.2.1 c.2.2.2.1),c.2.1,c.2.2.1,c.2.2.2.1,c.2.2.2.2.1,c.2.2.2.2.2))
def h0 (c:KS0):StateT eF Sem (ForInStep KS0):=do
 let d <-forIn [:a.size+b.size] ((none,c.2.1,c.2.2.1,c.2.2.2.1,0,0):KS1) λ x d=>h1 a b c.2.2.2.2 d
 match d.1 with
 | some r=>pure (.done (some r,d.2.1,d.2.2.1,d.2.2.2.1,c.2.2.2.2))
 | none=>do
  liftM (rule "list.sort.gallop")
  let f <-forIn [:a.size+b.size] ((none,d.2.1,d.2.2.1,d.2.2.2.1,c.2.2.2.2+1,d.2.2.2.2.1,d.2.2.2.2.2):KS) λ x f =>
   if f.2.2.2.2.1>1 then hA a b f.2.1 f.2.2.1 f.2.2.2.1 (f.2.2.2.2.1-1) f.2.2.2.2.2.1 f.2.2.2.2.2.2 else hA a b f.2.1 f.2.2.1 f.2.2.2.1 f.2.2.2.2.1 f.2.2.2.2.2.1 f.2.2.2.2.2.2
  match f.1 with
  | some r=>pure (.done (some r,f.2.1,f.2.2.1,f.2.2.2.1,f.2.2.2.2.1))
  | none=>do
   xF (f.2.2.2.2.1+1)
   pure (.yield (none,f.2.1,f.2.2.1,f.2.2.2.1,f.2.2.2.2.1+1))
theorem mergeHi'_parts:gY a b=(do
  liftM (rule "list.sort.merge-hi")
  let y <-elem' a (a.size-1)
  if (a.size-1 == 0)=true then pure (hDn a b (a.size-1) b.size #[y])
  else if (b.size == 1)=true then pure (hFb a b (a.size-1) b.size #[y])
  else do
   let st <-get
   let c <-forIn [:a.size+b.size] ((none,a.size-1,b.size,#[y],gallopOf st):KS0) λ x c=>h0 a b c
   match c.1 with
   | some r=>pure r
   | none=>unsupported "internal:list.sort.merge-bound"):=by
 unfold gY
 walk_at "sort_open mergeHi"
 dsimp only;refine congrArg _ (funext λ _=>?_);refine congrArg _ (funext λ y=>?_);refine ite_congr rfl (λ _=>rfl) (λ _=>ite_congr rfl (λ _=>rfl) (λ _=>?_));refine congrArg _ (funext λ st=>?_);refine congr (congrArg _ (congrArg _ (funext λ x=>funext λ c=>?_))) (funext λ c=>by cases c.1<;>rfl);unfold h0;refine congr (congrArg _ (congrArg _ (funext λ x=>funext λ d=>?_))) (funext λ d=>?_)
 ·unfold h1
  refine congrArg _ (funext λ _=>?_);refine congrArg _ (funext λ _=>?_);refine congrArg _ (funext λ r=>?_);cases r<;>rfl
 ·cases d.1 with
  | some r=>rfl
  | none =>
   dsimp only;refine congrArg _ (funext λ _=>?_);refine congr (congrArg _ (congrArg _ (funext λ x=>funext λ f=>?_))) (funext λ f=>by cases f.1<;>rfl);refine ite_congr rfl (λ _=>?_) (λ _=>?_)
   all_goals
    unfold hA;refine congrArg _ (funext λ _=>?_);refine congrArg _ (funext λ y=>?_);refine congrArg _ (funext λ r=>?_)
    cases r with
    | none=>rfl
    | some k =>
     dsimp only;refine ite_congr rfl (λ _=>ite_congr rfl (λ _=>rfl) (λ _=>?_)) (λ _=>?_)
     all_goals
      unfold hB;refine congrArg _ (funext λ y=>?_);refine ite_congr rfl (λ _=>rfl) (λ _=>?_);refine congrArg _ (funext λ x=>?_);refine congrArg _ (funext λ r=>?_);cases r<;>rfl
end
end Srt
namespace Srt
set_option autoImplicit false
open PySem PyProof.Rows
section
variable {α:Type} {lb:α->α->Bool}
structure Mh (lb:α->α->Bool) (A B:List α) (w ra rb:List α):Prop where
 sa:jD lb (ra++w)
 sb:jD lb (rb++w)
 pm:(ra++(rb++w)).Perm (A++B)
theorem Mh.moveA {A B w c ra rb:List α} (h:Mh lb A B w (ra++c) rb) (hc:∀ x∈rb,∀ y∈c,le lb x y):Mh lb A B (c++w) ra rb:=by
 refine ⟨by rw [<-cv];exact h.sa,?_,?_⟩
 ·have h1:=dr.mp h.sa
  have h2:=dr.mp h.sb;have h3:=dr.mp h1.1;refine dr.mpr ⟨h2.1,dr.mpr ⟨h3.2.1,h1.2.1,λ x hx y hy=>h1.2.2 x (bu _ hx) y hy⟩,λ x hx y hy=>?_⟩;rcases bz.mp hy with z | z
  ·exact hc x hx y z
  ·exact h2.2.2 x hx y z
 ·refine rh ?_ h.pm
  rw [cv];refine vj ra ?_;rw [<-cv,<-cv];exact uy w jg
theorem Mh.swap {A B w ra rb:List α} (h:Mh lb A B w ra rb):Mh lb B A w rb ra:=by
 refine ⟨h.sb,h.sa,?_⟩;refine rh ?_ (h.pm.trans jg);rw [<-cv,<-cv];exact uy w jg
theorem Mh.moveB {A B w c ra rb:List α} (h:Mh lb A B w ra (rb++c)) (hc:∀ x∈ra,∀ y∈c,le lb x y):Mh lb A B (c++w) ra rb:=(h.swap.moveA hc).swap
theorem fT {a:Array α} {n:Nat} (h0:0<n) (h:n<=a.size):a.toList.take n=a.toList.take (n-1)++[a[n-1]'(by omega)]:=by
 obtain ⟨m,rfl⟩ : ∃ m,n=m+1:=⟨n-1,by omega⟩;rw [List.take_succ_eq_append_getElem (by simp;omega)];simp
theorem cB (a:Array α) (n:Nat):(a.extract 0 n).toList=a.toList.take n:=by
 rw [so,mv];simp
theorem tG (a:Array α) {p n:Nat} (h:p<=n):a.toList.take n=a.toList.take p++(a.extract p n).toList:=by
 rw [so,mv,<-EG]
 conv=>lhs;rw [<-eW p (a.toList.take n)]
 rw [EH,iq h]
end
section
variable {M:wq} {A:fb} {E:ar->ay->Prop} {s:ay} {lb:bp->bp->Bool} {D:bp->Prop} {kd:ko} {a b:Array bp}
structure Hz (M:wq) (A:fb) (E:ar->ay->Prop) (s:ay) (lb:bp->bp->Bool) (D:bp->Prop) (kd:ko) (a b:Array bp):Prop where
 W:Wk lb
 L:vV M A E s lb D kd
 da:∀ x∈a.toList,D x
 db:∀ x∈b.toList,D x
 sa:jD lb a.toList
 sb:jD lb b.toList
 first:∀ (h:0<b.size),∀ y∈a.toList,le lb b[0] y
abbrev MM (lb:bp->bp->Bool) (a b:Array bp) (na nb:Nat) (out:Array bp):Prop:=Mh lb a.toList b.toList out.toList.reverse (a.toList.take na) (b.toList.take nb)
def MH (lb:bp->bp->Bool) (a b:Array bp) (na nb:Nat) (out:Array bp):Prop:=MM lb a b na nb out/\0<na/\na<=a.size/\1<nb/\nb<=b.size/\out.size+na+nb=a.size+b.size
def Zd (lb:bp->bp->Bool) (a b:Array bp) (n:Nat) {γ:Type} (c:Option (Array bp)×Nat×Nat×Array bp×γ):Prop:=c.1=none/\MH lb a b c.2.1 c.2.2.1 c.2.2.2.1/\n<=c.2.2.2.1.size
def En (lb:bp->bp->Bool) (a b:Array bp) (n:Nat) {γ:Type} (c:Option (Array bp)×Nat×Nat×Array bp×γ):Prop:=(∃ r,c.1=some r/\Res lb a.toList b.toList r.toList)\/Zd lb a b n c
def TT (lb:bp->bp->Bool) (a b:Array bp) (n:Nat) {γ:Type}:ForInStep (Option (Array bp)×Nat×Nat×Array bp×γ)->Prop
 | .done c=>En lb a b n c
 | .yield c=>Zd lb a b n c
theorem Zd.mono {n n':Nat} {γ:Type} {c:Option (Array bp)×Nat×Nat×Array bp×γ} (h:Zd lb a b n c) (k:n'<=n):Zd lb a b n' c:=⟨h.1,h.2.1,iA k h.2.2⟩
theorem En.mono {n n':Nat} {γ:Type} {c:Option (Array bp)×Nat×Nat×Array bp×γ} (h:En lb a b n c) (k:n'<=n):En lb a b n' c:=h.imp id λ z=>z.mono k
theorem bM {a:Array bp} {n:Nat} {x:bp} (h:x∈a.toList.take n):∃ j,∃ hj:j<a.size,j<n/\x=a[j]:=by
 have:=wF (a:=a) (i:=0) (k:=n) (x:=x) (by simpa using h);obtain ⟨j,hj,jk,e⟩:=this;exact ⟨j,by omega,jk,by simpa using e⟩
theorem jC {a:Array bp} {p n:Nat} {x:bp} (h:x∈(a.extract p n).toList):∃ j,∃ hj:j<a.size,p<=j/\j<n/\x=a[j]:=by
 rw [so,mv] at h;obtain ⟨j,hj,jk,e⟩:=wF h;exact ⟨p+j,hj,by omega,by omega,e⟩
theorem sE (na nb:Nat) (out:Array bp):(hDn a b na nb out).toList=a.toList.take na++(b.toList.take nb++out.toList.reverse):=by
 unfold hDn;rw [fq,fq,cB,cB,wd,cv]
theorem kHD (na nb:Nat) (out:Array bp):(hFb a b na nb out).toList=b.toList.take nb++(a.toList.take na++out.toList.reverse):=by
 unfold hFb;rw [fq,fq,cB,cB,wd,cv]
theorem pJ {na nb:Nat} {out:Array bp} (m:MM lb a b na nb out) (e:na=0):Res lb a.toList b.toList (hDn a b na nb out).toList:=by
 subst e;rw [sE];exact ⟨by simpa using m.sb,m.pm⟩
theorem kMM {na nb:Nat} {out:Array bp} (m:MM lb a b na nb out) (e:nb=0):Res lb a.toList b.toList (hDn a b na nb out).toList:=by
 subst e;rw [sE];exact ⟨by simpa using m.sa,m.pm⟩
theorem pG (H:Hz M A E s lb D kd a b) {na nb:Nat} {out:Array bp} (m:MM lb a b na nb out) (e:nb=1) (hb:0<b.size):Res lb a.toList b.toList (hFb a b na nb out).toList:=by
 subst e;rw [kHD];have t:b.toList.take 1=[b[0]]:=by rw [fT (by decide) hb];simp
 have sb:=m.sb;rw [t] at sb ⊢;refine ⟨?_,?_⟩
 ·refine dr.mpr ⟨lh _ _,m.sa,λ x hx y hy=>?_⟩
  have:x=b[0]:=by simpa using hx
  subst this;rcases bz.mp hy with z | z
  ·exact H.first hb y (rj z)
  ·exact (dr.mp sb).2.2 _ (by simp) y z
 ·have pm:=m.pm
  rw [t] at pm;refine rh ?_ pm;rw [<-cv,<-cv];exact uy _ jg
theorem kFF (H:Hz M A E s lb D kd a b) {na nb:Nat} {out:Array bp} (m:MM lb a b na nb out) (n0:0<na) (hn:na<=a.size) (c:∀ x∈b.toList.take nb,le lb x (a[na-1]'(by omega))):MM lb a b (na-1) nb (out.push (a[na-1]'(by omega))):=by
 have m:Mh lb a.toList b.toList out.toList.reverse (a.toList.take na) (b.toList.take nb):=m;rw [fT n0 hn] at m;show Mh lb _ _ (out.push _).toList.reverse _ _;rw [tu,we];refine m.moveA λ x hx y hy=>?_;have:y=a[na-1]'(by omega):=by simpa using hy
 rw [this];exact c x hx
theorem kKK (H:Hz M A E s lb D kd a b) {na nb:Nat} {out:Array bp} (m:MM lb a b na nb out) (n0:0<nb) (hn:nb<=b.size) (c:∀ x∈a.toList.take na,le lb x (b[nb-1]'(by omega))):MM lb a b na (nb-1) (out.push (b[nb-1]'(by omega))):=by
 have m:Mh lb a.toList b.toList out.toList.reverse (a.toList.take na) (b.toList.take nb):=m;rw [fT n0 hn] at m;show Mh lb _ _ (out.push _).toList.reverse _ _;rw [tu,we];refine m.moveB λ x hx y hy=>?_;have:y=b[nb-1]'(by omega):=by simpa using hy
 rw [this];exact c x hx
theorem kOG {na nb p:Nat} {out:Array bp} (m:MM lb a b na nb out) (hp:p<=na) (c:∀ x∈b.toList.take nb,∀ y∈(a.extract p na).toList,le lb x y):MM lb a b p nb (out++(a.extract p na).reverse):=by
 have m:Mh lb a.toList b.toList out.toList.reverse (a.toList.take na) (b.toList.take nb):=m;rw [tG a hp] at m;show Mh lb _ _ (out++_).toList.reverse _ _;rw [fq,wd,we,Bp];exact m.moveA c
theorem kOF {na nb p:Nat} {out:Array bp} (m:MM lb a b na nb out) (hp:p<=nb) (c:∀ x∈a.toList.take na,∀ y∈(b.extract p nb).toList,le lb x y):MM lb a b na p (out++(b.extract p nb).reverse):=by
 have m:Mh lb a.toList b.toList out.toList.reverse (a.toList.take na) (b.toList.take nb):=m;rw [tG b hp] at m;show Mh lb _ _ (out++_).toList.reverse _ _;rw [fq,wd,we,Bp];exact m.moveB c
theorem kCM (W:Wk lb) {a:Array bp} (sa:jD lb a.toList) {n:Nat} {y:bp} (n0:0<n) (hn:n<=a.size) (c:le lb (a[n-1]'(by omega)) y):∀ x∈a.toList.take n,le lb x y:=λ x hx=>by
 obtain ⟨j,hj,jn,rfl⟩:=bM hx;exact W.trans (wL W sa (show j<=n-1 by omega) (by omega)) c
theorem kKW (H:Hz M A E s lb D kd a b) {st:eF} (hk:kindOf st=kd) {out:Array bp} {na nb u v mg:Nat} (h:MH lb a b na nb out) {Q:ForInStep KS1->eF->Prop}
  (q:∀ r,TT lb a b (out.size+1) r->Q r st):wpS M A E s (h1 a b mg (none,na,nb,out,u,v)) Q st:=by
 obtain ⟨m,a1,a2,b1,b2,sz⟩:=h;unfold h1;dsimp only;refine ck (qG (getElem?_pos b (nb-1) (by omega)) ?_);refine ck (qG (getElem?_pos a (na-1) (by omega)) ?_);refine ck (H.L _ _ (H.db _ (by simp)) (H.da _ (by simp)) st _ hk ?_)
 cases e:lb (b[nb-1]'(by omega)) (a[na-1]'(by omega))
 case true =>
  simp only [if_true];refine ck (qG (getElem?_pos a (na-1) (by omega)) ?_);have m':=kFF H m a1 a2 (kCM H.W H.sb (by omega) b2 (H.W.of_lt e));by_cases c:na-1=0
  ·rw [if_pos (by simpa using c)]
   exact df (q _ (.inl ⟨_,rfl,pJ m' c⟩))
  ·rw [if_neg (by simpa using c)]
   have z:Zd lb a b (out.size+1) (none,na-1,nb,out.push (a[na-1]'(by omega)),(u+1,0)):=⟨rfl,⟨m',by show 0<na-1;omega,by show na-1<=a.size;omega,b1,b2,by show (out.push _).size+(na-1)+nb=_;rw [iK];omega⟩,by show out.size+1<=(out.push _).size;rw [iK];omega⟩
   split
   ·exact df (q _ (.inr z))
   ·exact df (q _ z)
 case false =>
  simp only [eC,if_false];refine ck (qG (getElem?_pos b (nb-1) (by omega)) ?_);have m':=kKK H m (by omega) b2 (kCM H.W H.sa a1 a2 e);by_cases c:nb-1=1
  ·rw [if_pos (by simpa using c)]
   exact df (q _ (.inl ⟨_,rfl,pG H m' c (by omega)⟩))
  ·rw [if_neg (by simpa using c)]
   have z:Zd lb a b (out.size+1) (none,na,nb-1,out.push (b[nb-1]'(by omega)),(0,v+1)):=⟨rfl,⟨m',a1,a2,by show 1<nb-1;omega,by show nb-1<=b.size;omega,by show (out.push _).size+na+(nb-1)=_;rw [iK];omega⟩,by show out.size+1<=(out.push _).size;rw [iK];omega⟩
   split
   ·exact df (q _ (.inr z))
   ·exact df (q _ z)
end
end Srt
namespace Srt
set_option autoImplicit false
open PySem PyProof.Rows
section
variable {M:wq} {A:fb} {E:ar->ay->Prop} {s:ay} {lb:bp->bp->Bool} {D:bp->Prop} {kd:ko} {a b:Array bp}
theorem kES (H:Hz M A E s lb D kd a b) {st:eF} {out:Array bp} {na nb g k k1 n:Nat} (m:MM lb a b na nb out) (a1:0<na) (a2:na<=a.size) (b1:1<nb) (b2:nb<=b.size) (sz:out.size+na+nb=a.size+b.size) (hn:n<=out.size+1)
  (c:∀ x∈b.toList.take nb,le lb x (a[na-1]'(by omega))) {Q:ForInStep KS->eF->Prop} (q:∀ r,TT lb a b n r->Q r st):wpS M A E s (hC a b na nb out g k k1) Q st:=by
 unfold hC;refine ck (qG (getElem?_pos a (na-1) (by omega)) ?_);have m':=kFF H m a1 a2 c;by_cases e:na-1=0
 ·rw [if_pos (by simpa using e)]
  exact df (q _ (.inl ⟨_,rfl,pJ m' e⟩))
 ·rw [if_neg (by simpa using e)]
  have z:Zd lb a b n (none,na-1,nb,out.push (a[na-1]'(by omega)),(g,k,k1)):=⟨rfl,⟨m',by show 0<na-1;omega,by show na-1<=a.size;omega,b1,b2,by show (out.push _).size+(na-1)+nb=_;rw [iK];omega⟩,by show n<=(out.push _).size;rw [iK];omega⟩
  split
  ·exact df (q _ (.inr z))
  ·exact df (q _ z)
theorem kET (H:Hz M A E s lb D kd a b) {st:eF} (hk:kindOf st=kd) {out:Array bp} {na nb g k ob n:Nat} (h:MH lb a b na nb out) (hn:n<=out.size+1)
  (c:∀ (ha:na-1<a.size) (hb:nb-1<b.size),le lb a[na-1] b[nb-1]) {Q:ForInStep KS->eF->Prop} (q:∀ r,TT lb a b n r->Q r st):wpS M A E s (hB a b na nb out g k ob) Q st:=by
 obtain ⟨m,a1,a2,b1,b2,sz⟩:=h;unfold hB;refine ck (qG (getElem?_pos b (nb-1) (by omega)) ?_);have m':=kKK H m (by omega) b2 (kCM H.W H.sa a1 a2 (c (by omega) (by omega)));have sz':(out.push (b[nb-1]'(by omega))).size+na+(nb-1)=a.size+b.size:=by rw [iK];omega
 have gr:out.size+1=(out.push (b[nb-1]'(by omega))).size:=by rw [iK]
 by_cases e:nb-1=1
 ·rw [if_pos (by simpa using e)]
  exact df (q _ (.inl ⟨_,rfl,pG H m' e (by omega)⟩))
 ·rw [if_neg (by simpa using e)]
  refine ck (qG (getElem?_pos a (na-1) (by omega)) ?_);refine ck (uI H.W H.L hk (H.da _ (by simp)) H.db (by omega) (λ i j hi hj=>wL H.W H.sb (by omega) (by omega)) (by omega) λ p kn g1 g2=>?_);simp only [if_true,BR] at g1 g2
  have rest:∀ x∈b.toList.take p,le lb x (a[na-1]'(by omega)):=λ x hx=>by
   obtain ⟨j,hj,jp,rfl⟩:=bM hx;exact H.W.of_lt (g1 j jp (by omega))
  dsimp only;by_cases k0:nb-1-p>0
  ·rw [if_pos k0]
   have m2:=kOF (p:=p) m' (by omega) λ x hx y hy=>by
    obtain ⟨j,hj,pj,jn,rfl⟩:=jC hy;exact kCM H.W H.sa a1 a2 (g2 j pj jn) x hx
   have sz2:(out.push (b[nb-1]'(by omega))++(b.extract p (nb-1)).reverse).size+na+p=a.size+b.size:=by
    rw [vm,CP,jf];omega
   by_cases e1:p=1
   ·rw [if_pos (by simpa using e1)]
    exact df (q _ (.inl ⟨_,rfl,pG H m2 e1 (by omega)⟩))
   ·rw [if_neg (by simpa using e1)]
    by_cases e2:p=0
    ·rw [if_pos (by simpa using e2)]
     exact df (q _ (.inl ⟨_,rfl,kMM m2 e2⟩))
    ·rw [if_neg (by simpa using e2)]
     exact kES H m2 a1 a2 (by omega) (by omega) sz2 (by omega) rest q
  ·rw [if_neg k0]
   have e3:p=nb-1:=by omega
   rw [e3] at rest;exact kES H m' a1 a2 (by omega) (by omega) sz' (by omega) rest q
theorem kKV (H:Hz M A E s lb D kd a b) {st:eF} (hk:kindOf st=kd) {out:Array bp} {na nb g oa ob n:Nat} (h:MH lb a b na nb out) (hn:n<=out.size+1) {Q:ForInStep KS->eF->Prop}
  (q:∀ r,TT lb a b n r->Q r (wM st g)):wpS M A E s (hA a b na nb out g oa ob) Q st:=by
 obtain ⟨m,a1,a2,b1,b2,sz⟩:=id h;unfold hA;rw [setMinGallop'_eq];refine ck (lj ?_);refine ck (qG (getElem?_pos b (nb-1) (by omega)) ?_);refine ck (uI (st:=wM st g) H.W H.L hk (H.db _ (by simp)) H.da (by omega) (λ i j hi hj=>wL H.W H.sa (by omega) (by omega)) (by omega) λ p kn g1 g2=>?_);simp only [eC,if_false,BR] at g1 g2;dsimp only;by_cases k0:na-p>0
 ·rw [if_pos k0]
  have m2:=kOG (p:=p) m (by omega) λ x hx y hy=>by
   obtain ⟨j,hj,pj,jn,rfl⟩:=jC hy;exact kCM H.W H.sb (by omega) b2 (H.W.of_lt (g2 j pj jn)) x hx
  have sz2:(out++(a.extract p na).reverse).size+p+nb=a.size+b.size:=by
   rw [vm,CP,jf];omega
  by_cases e1:p=0
  ·rw [if_pos (by simpa using e1)]
   exact df (q _ (.inl ⟨_,rfl,pJ m2 e1⟩))
  ·rw [if_neg (by simpa using e1)]
   exact kET (st:=wM st g) H hk ⟨m2,by omega,by omega,b1,b2,sz2⟩ (by omega) (λ _ _=>g1 (p-1) (by omega) (by omega)) q
 ·rw [if_neg k0]
  have e3:p=na:=by omega
  exact kET (st:=wM st g) H hk h hn (λ _ _=>g1 (na-1) (by omega) (by omega)) q
theorem kKX (H:Hz M A E s lb D kd a b) {st:eF} (hk:kindOf st=kd) {out:Array bp} {na nb g:Nat} (h:MH lb a b na nb out) {Q:ForInStep KS0->eF->Prop}
  (qd:∀ r c st',Sm st st'->Res lb a.toList b.toList r.toList->Q (.done (some r,c)) st') (qy:∀ c st',Sm st st'->Zd lb a b (out.size+1) c->Q (.yield c) st'):wpS M A E s (h0 a b (none,na,nb,out,g)) Q st:=by
 unfold h0;dsimp only;have tot:0<a.size+b.size:=by have:=h.2.2.1;have:=h.2.1;omega
 refine ck (sj (ip (I:=λ x d st'=>st'=st/\Zd lb a b (out.size+x) d) (Q:=λ d st'=>st'=st/\En lb a b (out.size+1) d) ?step ?fin ⟨rfl,rfl,h,bq _⟩) ?post)
 case fin =>
  rintro d st' ⟨rfl,y⟩;exact ⟨rfl,.inr (y.mono (by omega))⟩
 case step =>
  rintro x ⟨r,i,j,o,u,v⟩ st' _ _ ⟨rfl,e,mi,le⟩
  cases (show r=none from e)
  have le:out.size+x<=o.size:=le;refine kKW H hk mi λ r hr=>?_
  cases r with
  | done c=>exact ⟨rfl,En.mono hr (by omega)⟩
  | yield c=>exact ⟨rfl,Zd.mono hr (by omega)⟩
 case post =>
  rintro ⟨r,i,j,o,u,v⟩ st' ⟨rfl,hd⟩
  cases r with
  | some r =>
   dsimp only;rcases hd with ⟨r',e,res⟩ | ⟨e,_⟩
   ·cases e
    exact df (qd _ _ _ (Sm.refl _) res)
   ·cases e
  | none =>
   dsimp only
   have y:Zd lb a b (out.size+1) (none,i,j,o,(u,v)):=by
    rcases hd with ⟨r',e,res⟩ | y
    ·cases e
    ·exact y
   refine ck (wQ ?_);refine ck (sj (ip (I:=λ x f st2=>Sm st' st2/\Zd lb a b (out.size+1) f) (Q:=λ f st2=>Sm st' st2/\En lb a b (out.size+1) f) ?step2 ?fin2 ⟨Sm.refl _,y⟩) ?post2)
   case fin2 =>
    rintro f st2 ⟨sm,y⟩;exact ⟨sm,.inr y⟩
   case step2 =>
    rintro x ⟨r,i,j,o,g2,u,v⟩ st2 _ _ ⟨sm,e,mi,le⟩
    cases (show r=none from e)
    have le:out.size+1<=o.size:=le;dsimp only
    split
    all_goals
     refine kKV (n:=out.size+1) H (sm.1.trans hk) mi (by omega) λ r hr=>?_
     cases r with
     | done c=>exact ⟨sm.gal _,hr⟩
     | yield c=>exact ⟨sm.gal _,hr⟩
   case post2 =>
    rintro ⟨r,i,j,o,g2,u,v⟩ st2 ⟨sm,hd⟩
    cases r with
    | some r =>
     dsimp only;rcases hd with ⟨r',e,res⟩ | ⟨e,_⟩
     ·cases e
      exact df (qd _ _ _ sm res)
     ·cases e
    | none =>
     dsimp only;rcases hd with ⟨r',e,res⟩ | y
     ·cases e
     ·rw [setMinGallop'_eq]
      exact ck (lj (df (qy _ _ (sm.gal _) y)))
theorem pV (H:Hz M A E s lb D kd a b) {st:eF} (hk:kindOf st=kd) (a0:0<a.size) (b0:0<b.size) (last:le lb (b[b.size-1]'(by omega)) (a[a.size-1]'(by omega))) {Q:Array bp->eF->Prop}
  (q:∀ r st',Sm st st'->Res lb a.toList b.toList r.toList->Q r st'):wpS M A E s (gY a b) Q st:=by
 rw [mergeHi'_parts];refine ck (wQ ?_);refine ck (qG (getElem?_pos a (a.size-1) (by omega)) ?_);have ta:a.toList.take a.size=a.toList:=gn (by simp);have tb:b.toList.take b.size=b.toList:=gn (by simp)
 have m0:MM lb a b a.size b.size #[]:=by
  show Mh lb _ _ (#[]:Array bp).toList.reverse _ _;rw [ta,tb];exact ⟨by simpa using H.sa,by simpa using H.sb,by simp⟩
 have m1:MM lb a b (a.size-1) b.size #[a[a.size-1]'(by omega)]:=kFF H m0 a0 (bq _) (kCM H.W H.sb b0 (bq _) last);by_cases e1:a.size-1=0
 ·rw [if_pos (by simpa using e1)]
  exact df (q _ _ (Sm.refl _) (pJ m1 e1))
 rw [if_neg (by simpa using e1)];by_cases e2:b.size=1
 ·rw [if_pos (by simpa using e2)]
  exact df (q _ _ (Sm.refl _) (pG H m1 e2 b0))
 rw [if_neg (by simpa using e2)];refine ck (xp ?_);refine ck (sj (ip (I:=λ x c st'=>Sm st st'/\Zd lb a b (1+x) c) (Q:=λ c st'=>Sm st st'/\∃ r,c.1=some r/\Res lb a.toList b.toList r.toList) ?step ?fin ⟨Sm.refl _,rfl,⟨m1,by show 0<a.size-1;omega,by show a.size-1<=a.size;omega,by show 1<b.size;omega,bq _,by show 1+(a.size-1)+b.size=_;omega⟩,bq _⟩) ?post)
 case post =>
  rintro ⟨r,c⟩ st' ⟨sm,r',e,res⟩;cases e
  exact df (q _ _ sm res)
 case fin =>
  rintro ⟨r,i,j,o,g⟩ st' ⟨sm,e,⟨_,h1,h2,h3,h4,h5⟩,le⟩;have h5:o.size+i+j=a.size+b.size:=h5;have le:1+max 0 (a.size+b.size)<=o.size:=le;omega
 case step =>
  rintro x ⟨r,i,j,o,g⟩ st' _ _ ⟨sm,e,mi,le⟩
  cases (show r=none from e)
  have le:1+x<=o.size:=le;exact kKX H (sm.1.trans hk) mi (λ r c st2 sm2 res=>⟨⟨sm2.1.trans sm.1,sm2.2.1.trans sm.2.1,sm2.2.2.1.trans sm.2.2.1,sm2.2.2.2.trans sm.2.2.2⟩,r,rfl,res⟩) λ c st2 sm2 y=>⟨⟨sm2.1.trans sm.1,sm2.2.1.trans sm.2.1,sm2.2.2.1.trans sm.2.2.1,sm2.2.2.2.trans sm.2.2.2⟩,y.mono (by omega)⟩
end
end Srt
namespace Srt
set_option autoImplicit false
open PySem PyProof.Rows
section
variable {α:Type} {lb:α->α->Bool}
theorem kCT (l:List α) (i:Nat) (x:α) (h:i<l.length):l.set i x=l.take i++x::l.drop (i+1):=by
 rw [List.set_eq_take_append_cons_drop,if_pos h]
theorem wr:∀ (xs:List α) (k:Nat) (arr:Array α) (lo:Nat),lo+k+xs.length<=arr.size->((xs.zipIdx k).foldl (λ a (p:α×Nat)=>a.setIfInBounds (lo+p.2) p.1) arr).toList=arr.toList.take (lo+k)++(xs++arr.toList.drop (lo+k+xs.length))
 | [],k,arr,lo,h=>by simp
 | x::xs,k,arr,lo,h=>by
  rw [eX] at h;rw [BG,ue];have ih:=wr xs (k+1) (arr.setIfInBounds (lo+k) x) lo (by rw [BA];omega);rw [ih,Ad,kCT _ _ _ (by simp;omega)];have e:(arr.toList.take (lo+k)).length=lo+k:=by simp;omega
  have t1:(arr.toList.take (lo+k)++x::arr.toList.drop (lo+k+1)).take (lo+(k+1))=arr.toList.take (lo+k)++[x]:=by
   rw [DK,e,show lo+(k+1)-(lo+k)=1 by omega,gn (by rw [e];omega)]
   rfl
  have t2:(arr.toList.take (lo+k)++x::arr.toList.drop (lo+k+1)).drop (lo+(k+1)+xs.length)=arr.toList.drop (lo+k+(x::xs).length):=by
   rw [wo,e,jl (by rw [e];omega),jr,show lo+(k+1)+xs.length-(lo+k)=xs.length+1 by omega,List.drop_succ_cons,BJ,eX]
   congr 1
   omega
  rw [t1,t2];simp
theorem kDV (W:Wk lb) {X1 X2 Y1 Y2 Mm:List α} (sx:jD lb (X1++X2)) (sy:jD lb (Y1++Y2)) (h1:∀ x∈X1,∀ y∈Y1++Y2,le lb x y) (h2:∀ x∈X2,∀ y∈Y2,le lb x y) (r:Res lb X2 Y1 Mm) :
  jD lb (X1++(Mm++Y2))/\(X1++(Mm++Y2)).Perm ((X1++X2)++(Y1++Y2)):=by
 have a1:=dr.mp sx;have a2:=dr.mp sy;have mem:∀ z∈Mm,z∈X2\/z∈Y1:=λ z hz=>bz.mp ((r.2.mem_iff).mp hz);refine ⟨dr.mpr ⟨a1.1,dr.mpr ⟨r.1,a2.2.1,λ x hx y hy=>?_⟩,λ x hx y hy=>?_⟩,?_⟩
 ·rcases mem x hx with z | z
  ·exact h2 x z y hy
  ·exact a2.2.2 x z y hy
 ·rcases bz.mp hy with z | z
  ·rcases mem y z with w | w
   ·exact a1.2.2 x hx y w
   ·exact h1 x hx y (az _ w)
  ·exact h1 x hx y (bu _ z)
 ·rw [cv]
  refine vj X1 ?_;rw [<-cv];exact r.2.append_right Y2
end
end Srt
local macro_rules | `(tactic| walk_at "sort_open mergeAt")=>`(tactic| delta $(Lean.mkIdent (Lean.mkPrivateNameCore `PySem.Builtin.List.W1All `PySem.Builtin.mergeAt)):ident)
namespace Srt
set_option autoImplicit false
open PySem PyProof.Rows
section
variable {M:wq} {A:fb} {E:ar->ay->Prop} {s:ay} {lb:bp->bp->Bool} {D:bp->Prop} {kd:ko} {arr:Array bp}
theorem kIC {st st':eF} {Q:PUnit->eF->Prop} (h:Q ⟨⟩ st'):wpS M A E s (set st':StateT eF Sem PUnit) Q st:=by
 unfold wpS;rw [StateT.run_set];exact bx ⟨rfl,h⟩
theorem wW {i m j:Nat} (h1:i<=m) (h2:m<=j):(arr.extract i j).toList=(arr.extract i m).toList++(arr.extract m j).toList:=by
 rw [<-fq,Array.extract_append_extract,iq h1,Nat.max_eq_right h2]
theorem tP (W:Wk lb) {lo n:Nat} (h:jD lb (arr.extract lo (lo+n)).toList) (hn:lo+n<=arr.size) (i j:Nat) (hi:i<=j) (hj:j<n):le lb (arr[lo+i]'(by omega)) (arr[lo+j]'(by omega)):=by
 have:=wL W h hi (show j<(arr.extract lo (lo+n)).size by rw [jf];omega);simpa using this
def Joined (lb:bp->bp->Bool) (arr arr':Array bp) (lo n:Nat):Prop:=∃ m:List bp,arr'.toList=arr.toList.take lo++(m++arr.toList.drop (lo+n))/\jD lb m/\m.Perm (arr.extract lo (lo+n)).toList
theorem vO {lo n:Nat} (h:lo+n<=arr.size):arr.toList=arr.toList.take lo++((arr.extract lo (lo+n)).toList++arr.toList.drop (lo+n)):=by
 rw [xD,<-BJ,eW,eW]
theorem pW (W:Wk lb) (hL:vV M A E s lb D kd) {st:eF} (hk:kindOf st=kd) (hf:sk st=none) (dd:∀ x∈(cz st).toList,D x) {i sa na nb pa pb:Nat} (hi:(cx st)[i]?=some (sa,na,pa)) (hj:(cx st)[i+1]?=some (sa+na,nb,pb))
  (na0:0<na) (nb0:0<nb) (hn:sa+na+nb<=(cz st).size) (sx:jD lb ((cz st).extract sa (sa+na)).toList) (sy:jD lb ((cz st).extract (sa+na) (sa+na+nb)).toList) {Q:Bool->eF->Prop}
  (q:∀ st',kindOf st'=kd->sk st'=none->cx st'=((cx st).setIfInBounds i (sa,na+nb,pa)).eraseIdxIfInBounds (i+1)->Joined lb (cz st) (cz st') sa (na+nb)->Q true st'):wpS M A E s (mergeAt' i) Q st:=by
 unfold mergeAt'
 walk_at "sort_open mergeAt"
 dsimp only;refine ck (xp ?_);rw [hi,hj];dsimp only;refine ck (kIC ?_);generalize hP:((cx st).setIfInBounds i (sa,na+nb,pa)).eraseIdxIfInBounds (i+1)=PP at *;have dx:∀ {j:Nat} (h:j<(cz st).size),D (cz st)[j]:=λ h=>dd _ (by simp);have z1:sa+na<(cz st).size:=by omega
 have z2:sa+na-1<(cz st).size:=by omega
 have z3:sa+na<=(cz st).size:=by omega
 refine ck (qG (arr:=cz st) (getElem?_pos (cz st) (sa+na) z1) ?_);refine ck (uI (arr:=cz st) (st:=setPending st PP) W hL hk (dx z1) dd z3 (tP (arr:=cz st) W sx z3) na0 λ k kn g1 g2=>?_);simp only [eC,if_false] at g1 g2;dsimp only;have spX:=wW (arr:=cz st) (i:=sa) (m:=sa+k) (j:=sa+na) (by omega) (by omega);have spW:=wW (arr:=cz st) (i:=sa) (m:=sa+na) (j:=sa+na+nb) (by omega) (by omega);have iy:=tP W sy (by omega);have ix:=tP W sx (by omega);have same:∀ {X:List bp},X=((cz st).extract sa (sa+(na+nb))).toList->jD lb X->Joined lb (cz st) (cz st) sa (na+nb):=λ {X} e h=>⟨X,by rw [e];exact vO (by omega),h,by rw [e]⟩
 have low:∀ x∈((cz st).extract sa (sa+k)).toList,∀ y∈((cz st).extract (sa+na) (sa+na+nb)).toList,le lb x y:=λ x hx y hy=>by
  obtain ⟨j,hj,j1,j2,rfl⟩:=jC hx;obtain ⟨j',hj',j1',j2',rfl⟩:=jC hy;have e1:=g1 (j-sa) (by omega) (by omega);have e2:=iy 0 (j'-(sa+na)) (by omega) (by omega);simp only [show sa+(j-sa)=j by omega,show sa+na+(j'-(sa+na))=j' by omega,Cs] at e1 e2;exact W.trans e1 e2
 by_cases e:na-k=0
 ·rw [if_pos (by simpa using e)]
  have ek:sa+k=sa+na:=by omega
  rw [ek] at low;exact df (q _ hk hf rfl (same (by rw [<-vf];exact spW.symm) (dr.mpr ⟨sx,sy,low⟩)))
 rw [if_neg (by simpa using e)];have eL:sa+k+(na-k)-1=sa+na-1:=by omega
 rw [eL];refine ck (qG (arr:=cz st) (getElem?_pos (cz st) (sa+na-1) z2) ?_);refine ck (uI (arr:=cz st) (st:=setPending st PP) W hL hk (dx z2) dd hn iy (by omega) λ p pn f1 f2=>?_);simp only [if_true] at f1 f2;dsimp only
 have toLast:∀ x∈((cz st).extract sa (sa+na)).toList,le lb x ((cz st)[sa+na-1]'(by omega)):=λ x hx=>by
  obtain ⟨j,hj,j1,j2,rfl⟩:=jC hx;have e1:=ix (j-sa) (na-1) (by omega) (by omega);simp only [show sa+(j-sa)=j by omega,show sa+(na-1)=sa+na-1 by omega] at e1;exact e1
 have high:∀ y∈((cz st).extract (sa+na+p) (sa+na+nb)).toList,le lb ((cz st)[sa+na-1]'(by omega)) y:=λ y hy=>by
  obtain ⟨j,hj,j1,j2,rfl⟩:=jC hy;have e1:=f2 (j-(sa+na)) (by omega) (by omega);simp only [show sa+na+(j-(sa+na))=j by omega] at e1;exact e1
 by_cases e0:p=0
 ·rw [if_pos (by simpa using e0)]
  rw [e0,Cs] at high;exact df (q _ hk hf rfl (same (by rw [<-vf];exact spW.symm) (dr.mpr ⟨sx,sy,λ x hx y hy=>W.trans (toLast x hx) (high y hy)⟩)))
 rw [if_neg (by simpa using e0)];have spY:=wW (arr:=cz st) (i:=sa+na) (m:=sa+na+p) (j:=sa+na+nb) (by omega) (by omega);have sx':=sx;rw [spX] at sx';have sy':=sy;rw [spY] at sy'
 have mx:∀ {u v:Nat},∀ x∈((cz st).extract u v).toList,D x:=λ x hx=>by
  obtain ⟨j,hj,_,_,rfl⟩:=jC hx;exact dx hj
 have szx:((cz st).extract (sa+k) (sa+na)).size=na-k:=by rw [jf];omega
 have szy:((cz st).extract (sa+na) (sa+na+p)).size=p:=by rw [jf];omega
 have x0:∀ (h:0<((cz st).extract (sa+k) (sa+na)).size),((cz st).extract (sa+k) (sa+na))[0]=(cz st)[sa+k]'(by omega):=λ h=>by simp
 have xl:∀ (h:0<((cz st).extract (sa+k) (sa+na)).size),((cz st).extract (sa+k) (sa+na))[((cz st).extract (sa+k) (sa+na)).size-1]'(by omega)=(cz st)[sa+na-1]'(by omega):=λ h=>by
  rw [Array.getElem_extract]
  congr 1
  omega
 have y0:∀ (h:0<((cz st).extract (sa+na) (sa+na+p)).size),((cz st).extract (sa+na) (sa+na+p))[0]=(cz st)[sa+na]'(by omega):=λ h=>by simp
 have below:∀ y∈((cz st).extract (sa+na) (sa+na+p)).toList,le lb y ((cz st)[sa+na-1]'(by omega)):=λ y hy=>by
  obtain ⟨j,hj,j1,j2,rfl⟩:=jC hy;have e1:=f1 (j-(sa+na)) (by omega) (by omega);simp only [show sa+na+(j-(sa+na))=j by omega] at e1;exact W.of_lt e1
 have above:∀ y∈((cz st).extract (sa+k) (sa+na)).toList,le lb ((cz st)[sa+na]'(by omega)) y:=λ y hy=>by
  obtain ⟨j,hj,j1,j2,rfl⟩:=jC hy;have e1:=g2 (j-sa) (by omega) (by omega);simp only [show sa+(j-sa)=j by omega] at e1;exact W.of_lt e1
 have fin:∀ (r:Array bp) (st':eF),Sm (setPending st PP) st'->Res lb ((cz st).extract (sa+k) (sa+na)).toList ((cz st).extract (sa+na) (sa+na+p)).toList r.toList ->
   wpS M A E s (do modify λ s=>setArr s (r.toList.zipIdx.foldl (λ a (p,j)=>a.setIfInBounds (sa+k+j) p) (cz s));let __do_lift <-get;pure (sk __do_lift).isNone) Q st':=λ r st' sm res=>by
  refine ck (lj (ck (xp ?_)));have ef:sk st'=none:=sm.2.2.2.trans hf;have ea:cz st'=cz st:=sm.2.1;refine df ?_;show Q (sk st').isNone _;rw [ef];refine q _ (sm.1.trans hk) ef sm.2.2.1 ?_;show Joined lb (cz st) (r.toList.zipIdx.foldl (λ a (p:bp×Nat)=>a.setIfInBounds (sa+k+p.2) p.1) (cz st')) sa (na+nb);rw [ea];obtain ⟨j1,j2⟩:=kDV W sx' sy' (by rw [<-spY];exact low) (λ x hx y hy=>W.trans (toLast x (by rw [spX];exact bu _ hx)) (high y hy)) res;rw [<-spX,<-spY,<-spW] at j2;refine ⟨_,?_,j1,by rw [<-vf];exact j2⟩
  have len:r.toList.length=na-k+p:=by
   have:=res.2.length_eq;rw [cg] at this;simp only [fm,szx,szy] at this;simpa using this
  rw [wr r.toList 0 (cz st) (sa+k) (by rw [len];omega),len];have t1:(cz st).toList.take (sa+k+0)=(cz st).toList.take sa++((cz st).extract sa (sa+k)).toList:=tG (cz st) (by omega)
  have t2:(cz st).toList.drop (sa+k+0+(na-k+p))=((cz st).extract (sa+na+p) (sa+na+nb)).toList++(cz st).toList.drop (sa+(na+nb)):=by
   rw [show sa+k+0+(na-k+p)=sa+na+p by omega,show sa+na+nb=sa+na+p+(nb-p) by omega,xD,show sa+(na+nb)=sa+na+p+(nb-p) by omega];exact kAT _ _ _
  rw [t1,t2];simp only [cv]
 have mx0:(cz st)[sa+k]'(by omega)∈((cz st).extract (sa+k) (sa+na)).toList:=by
  rw [<-x0 (by omega),se];exact An _
 have myl:((cz st).extract (sa+na) (sa+na+p))[((cz st).extract (sa+na) (sa+na+p)).size-1]'(by omega)∈((cz st).extract (sa+na) (sa+na+p)).toList:=by
  rw [se];exact An _
 by_cases c:na-k<=p
 ·rw [if_pos c]
  refine ck ?_;exact pU (st:=setPending st PP) ⟨W,hL,mx,mx,(dr.mp sx').2.1,(dr.mp sy').1,λ h y hy=>by rw [xl h];exact below y hy⟩ hk (by omega) (by omega) (by rw [x0 (by omega),y0 (by omega)];exact above _ mx0) fin
 ·rw [if_neg c]
  refine ck ?_;exact pV (st:=setPending st PP) ⟨W,hL,mx,mx,(dr.mp sx').2.1,(dr.mp sy').1,λ h y hy=>by rw [y0 h];exact above y hy⟩ hk (by omega) (by omega) (by rw [xl (by omega)];exact below _ myl) fin
end
end Srt
namespace Srt
theorem oH {α:Type} {R:α->α->Prop}:∀ {l:List α},l.length<=1->l.Pairwise R
 | [],_=>Am
 | [_],_=>lh _ _
set_option autoImplicit false
open PySem PyProof.Rows
section
variable {α:Type}
theorem kFE (arr:Array α) {Q R:List α} {y x:α} (h:arr.toList=Q++y::x::R):(arr.swapIfInBounds (Q.length+1) Q.length).toList=Q++x::y::R:=by
 have sz:arr.size=Q.length+(R.length+2):=by
  have:=congrArg fz h;simpa using this
 have g:∀ k,arr[k]?=(Q++y::x::R)[k]?:=λ k=>by rw [<-h,kj]
 refine Aq λ k=>?_;have e:=getElem?_swapIB (xs:=arr) (i:=Q.length+1) (j:=Q.length) (by omega) (by omega) k;rw [show (arr.swapIfInBounds (Q.length+1) Q.length).toList[k]?=(arr.swapIfInBounds (Q.length+1) Q.length)[k]? by simp,e,g,g,g];rcases fe k Q.length with c | c
 ·rw [if_neg (by omega),if_neg (by omega),bg c,bg c]
 ·obtain ⟨j,rfl⟩ : ∃ j,k=Q.length+j:=⟨k-Q.length,by omega⟩
  rw [bb (by omega),bb (by omega),bb (by omega),bb (by omega)];rw [show Q.length+j-Q.length=j by omega,show Q.length+1-Q.length=1 by omega,uz]
  match j with
  | 0=>simp
  | 1=>simp
  | j+2 =>
   rw [if_neg (by omega),if_neg (by omega)];simp
theorem dX:∀ (m2 m1 T:List α) (x:α) (arr:Array α),arr.toList=m1++(m2++x::T)->(bubble arr (m1.length+m2.length) m2.length).toList=m1++(x::(m2++T))
 | [],m1,T,x,arr,h=>h
 | y::m2,m1,T,x,arr,h=>by
  have ih:=dX m2 (m1++[y]) T x arr (by rw [h];simp);rw [eX,bubble_succ];rw [cg,gi,show m1.length+1+m2.length=m1.length+(m2.length+1) by omega] at ih;have e:=kFE (bubble arr (m1.length+(m2.length+1)) m2.length) (Q:=m1) (y:=y) (x:=x) (R:=m2++T) (by rw [ih];simp);rw [show m1.length+(m2.length+1)-m2.length=m1.length+1 by omega,show m1.length+1-1=m1.length by omega];rw [e];simp
end
section
variable {M:wq} {A:fb} {E:ar->ay->Prop} {s:ay} {lb:bp->bp->Bool} {D:bp->Prop} {kd:ko}
theorem aW (hL:vV M A E s lb D kd) {st:eF} (hk:kindOf st=kd) {i j:Nat} {x y:bp} (hx:(cz st)[i]?=some x) (hy:(cz st)[j]?=some y) (dx:D x) (dy:D y) {Q:Option Bool->eF->Prop} (q:Q (some (lb x y)) st):wpS M A E s (ltAt' i j) Q st:=by
 rw [ltAt'_eq];refine ck (xp ?_);exact ck (qG hx (ck (qG hy (hL _ _ dx dy st _ hk q))))
def Sa (st st':eF):Prop:=kindOf st'=kindOf st/\cx st'=cx st/\sk st'=sk st
theorem kJS (W:Wk lb) {m1 m2:List bp} {x:bp} (h:jD lb (m1++m2)) (h1:∀ y∈m1,le lb y x) (h2:∀ y∈m2,le lb x y):jD lb (m1++x::m2):=by
 have a:=dr.mp h;refine dr.mpr ⟨a.1,Ae.mpr ⟨h2,a.2.1⟩,λ y hy z hz=>?_⟩;rcases du.mp hz with rfl | w
 ·exact h1 y hy
 ·exact a.2.2 y hy z w
theorem sY (W:Wk lb) (hL:vV M A E s lb D kd) {st:eF} (hk:kindOf st=kd) (dd:∀ x∈(cz st).toList,D x) {lo n ok:Nat} (hok:ok<=n) (hn:lo+n<=(cz st).size) (hs:jD lb ((cz st).extract lo (lo+ok)).toList) {Q:Bool->eF->Prop}
  (q:∀ st',Sa st st'->Joined lb (cz st) (cz st') lo n->Q true st'):wpS M A E s (binarySort' lo n ok) Q st:=by
 rw [binarySort'_eq];refine ck (sj (ip (I:=λ k c st'=>c=(none,())/\Sa st st'/\Joined lb (cz st) (cz st') lo (min k n)) (Q:=λ c st'=>c=(none,())/\Sa st st'/\Joined lb (cz st) (cz st') lo n) ?step ?fin ?init) ?post)
 case post =>
  rintro c st' ⟨rfl,sm,j⟩;exact df (q st' sm j)
 case fin =>
  rintro c st' ⟨rfl,sm,j⟩;refine ⟨rfl,sm,?_⟩;rwa [show min (max (max ok 1) n) n=n by omega] at j
 case init =>
  refine ⟨rfl,⟨rfl,rfl,rfl⟩,_,vO (by omega),?_,ym _⟩;by_cases o:ok=0
  ·have:((cz st).extract lo (lo+min (max ok 1) n)).toList.length<=1:=by
    rw [fm,jf];omega
   generalize ((cz st).extract lo (lo+min (max ok 1) n)).toList=l at *;exact oH this
  ·rwa [show min (max ok 1) n=ok by omega]
 case step =>
  rintro k c st' _ hkn ⟨rfl,sm,m,e,sr,pm⟩;rw [show min k n=k by omega] at e pm;have lm:m.length=k:=by rw [pm.length_eq,fm,jf];omega
  have lp:((cz st).toList.take lo).length=lo:=by simp;omega
  have kz:lo+k<(cz st).size:=by omega
  rw [drop_one kz] at e
  have ax:(cz st')[lo+k]?=some ((cz st)[lo+k]):=by
   rw [<-kj,e,bb (by omega),lp,bb (by omega),lm,show lo+k-lo-k=0 by omega]
   rfl
  have am:∀ j (h:j<m.length),(cz st')[lo+j]?=some m[j]:=λ j h=>by
   rw [<-kj,e,bb (by omega),lp,bg (by omega),show lo+j-lo=j by omega];exact aa h
  have dx:D (cz st)[lo+k]:=dd _ (by simp)
  have dm:∀ j (h:j<m.length),D m[j]:=λ j h=>by
   obtain ⟨i,hi,_,_,ei⟩:=jC (pm.mem_iff.mp (gk h));rw [ei];exact dd _ (by simp)
  have mono:∀ i j (h:i<=j) (hj:j<m.length),le lb (m[i]'(by omega)) m[j]:=λ i j h hj=>by
   by_cases z:i=j
   ·subst z;exact W.refl _
   ·exact jc.mp sr i j (by omega) hj (by omega)
  refine ck (sj (ip (I:=λ x c st2=>st2=st'/\∃ l r,c=(none,l,r)/\l<=r/\r<=k/\r-l<=k-x/\(∀ i (h:i<m.length),i<l->le lb m[i] (cz st)[lo+k])/\(∀ i (h:i<m.length),r<=i->le lb (cz st)[lo+k] m[i]))
   (Q:=λ c st2=>st2=st'/\∃ l r,c=(none,l,r)/\l<=k/\(∀ i (h:i<m.length),i<l->le lb m[i] (cz st)[lo+k])/\(∀ i (h:i<m.length),l<=i->le lb (cz st)[lo+k] m[i])) ?istep ?ifin ?iinit) ?ipost)
  case iinit=>exact ⟨rfl,0,k,rfl,by omega,by omega,by omega,λ i _ hi=>by omega,λ i h1 h2=>by omega⟩
  case ifin =>
   rintro c st2 ⟨rfl,l,r,rfl,lr,rk,d,a1,a2⟩;have:l=r:=by omega
   subst this;exact ⟨rfl,l,l,rfl,rk,a1,a2⟩
  case istep =>
   rintro x c st2 _ _ ⟨rfl,l,r,rfl,lr,rk,d,a1,a2⟩;dsimp only;by_cases hge:l >= r
   ·rw [if_pos hge]
    have:l=r:=by omega
    subst this;exact df ⟨rfl,l,l,rfl,rk,a1,a2⟩
   ·rw [if_neg hge]
    have hm:(l+r) / 2<m.length:=by omega
    refine ck (aW hL (sm.1.trans hk) ax (am _ hm) dx (dm _ hm) ?_)
    cases z:lb (cz st)[lo+k] m[(l+r) / 2]
    case true =>
     simp only [if_true];exact df ⟨rfl,l,_,rfl,by omega,by omega,by omega,a1,λ i h hi=>W.trans (W.of_lt z) (mono _ i hi h)⟩
    case false =>
     simp only [eC,if_false];exact df ⟨rfl,_,r,rfl,by omega,by omega,by omega,λ i h hi=>W.trans (mono i _ (by omega) hm) z,a2⟩
  case ipost =>
   rintro c st2 ⟨rfl,l,r,rfl,lk,a1,a2⟩;show wpS _ _ _ _ (do moveDown' (lo+k) (lo+l);pure (iW (none,()))) _ _;rw [moveDown'_eq];refine ck (lj (df ⟨rfl,sm,?_⟩));rw [show min (k+1) n=k+1 by omega];show Joined lb (cz st) (bubble (cz st2) (lo+k) (lo+k-(lo+l))) lo (k+1)
   have b:=dX (m.drop l) ((cz st).toList.take lo++m.take l) ((cz st).toList.drop (lo+k+1)) ((cz st)[lo+k]) (cz st2) (by
    rw [e]
    conv=>lhs;rw [<-eW l m]
    simp only [cv,List.singleton_append])
   have l1:((cz st).toList.take lo++m.take l).length+(m.drop l).length=lo+k:=by
    rw [cg,lp,eK,iP];omega
   have l2:(m.drop l).length=lo+k-(lo+l):=by rw [iP];omega
   rw [l1,l2] at b;refine ⟨m.take l++(cz st)[lo+k]::m.drop l,?_,kJS W (by rw [eW];exact sr) (λ y hy=>?_) (λ y hy=>?_),?_⟩
   ·rw [b,<-vf]
    simp only [cv,iC]
   ·obtain ⟨i,hi,rfl⟩:=eU.mp hy
    rw [eK] at hi;rw [yn];exact a1 i (by omega) (by omega)
   ·obtain ⟨i,hi,rfl⟩:=eU.mp hy
    rw [iP] at hi;rw [Ap];exact a2 _ (by omega) (by omega)
   ·refine rh yy ?_
    rw [eW,wW (i:=lo) (m:=lo+k) (j:=lo+(k+1)) (by omega) (by omega)]
    have:((cz st).extract (lo+k) (lo+(k+1))).toList=[(cz st)[lo+k]]:=by
     rw [<-vf,xD,drop_one kz]
     rfl
    rw [this];exact (jg (l₁:=[(cz st)[lo+k]]) (l₂:=m)).trans (pm.append_right _)
end
end Srt
namespace Srt
set_option autoImplicit false
open PySem PyProof.Rows
section
variable {α:Type}
theorem rZ (arr:Array α) {P m T:List α} {i j:Nat} (h:arr.toList=P++(m++T)) (hi:i=P.length) (hj:j=P.length+m.length):(mirror arr i j ((j-i) / 2)).toList=P++(m.reverse++T):=by
 subst hi hj
 have sz:arr.size=P.length+(m.length+T.length):=by
  have:=congrArg fz h;simpa using this
 have g:∀ k,arr[k]?=(P++(m++T))[k]?:=λ k=>by rw [<-h,kj]
 refine Aq λ k=>?_;rw [kj,getElem?_mirror_all (by omega),g,g];rcases fe k P.length with c | c
 ·rw [if_neg (by omega),bg c,bg c]
 ·rcases fe k (P.length+m.length) with c2 | c2
  ·rw [if_pos ⟨c,c2⟩,bb (by omega),bb c,bg (by omega),bg (by rw [wg];omega),Bi (by omega)]
   congr 1
   omega
  ·rw [if_neg (by omega),bb c,bb c,bb (by omega),bb (by rw [wg];omega),wg]
end
section
variable {α:Type} {lb:α->α->Bool}
def Fal (lb:α->α->Bool) (l:List α):Prop:=l.Pairwise λ a b=>le lb b a
theorem Fal.rev {l:List α} (h:Fal lb l):jD lb l.reverse:=yq.mpr h
theorem Fal.tail {u t:List α} (h:Fal lb (u++t)) (e:jD lb t):Fal lb (u++t.reverse):=by
 have a:=dr.mp h;refine dr.mpr ⟨a.1,yq.mpr e,λ x hx y hy=>a.2.2 x hx y (qe.mp hy)⟩
end
end Srt
namespace Srt
set_option autoImplicit false
open PySem PyProof.Rows
section
variable {M:wq} {A:fb} {E:ar->ay->Prop} {s:ay} {lb:bp->bp->Bool} {D:bp->Prop} {kd:ko}
structure Rn (arr0 arr:Array bp) (lo n:Nat) (m:List bp):Prop where
 eq:arr.toList=arr0.toList.take lo++(m++arr0.toList.drop (lo+n))
 pm:m.Perm (arr0.extract lo (lo+n)).toList
 hn:lo+n<=arr0.size
variable {arr0 arr:Array bp} {lo n:Nat} {m:List bp}
theorem Rn.len (h:Rn arr0 arr lo n m):m.length=n:=by
 have:=h.hn;rw [h.pm.length_eq,fm,jf];omega
theorem Rn.joined (h:Rn arr0 arr lo n m) (sr:jD lb m):Joined lb arr0 arr lo n:=⟨m,h.eq,sr,h.pm⟩
theorem Rn.start (h:lo+n<=arr0.size):Rn arr0 arr0 lo n (arr0.extract lo (lo+n)).toList:=⟨vO h,ym _,h⟩
theorem Rn.lp (h:Rn arr0 arr lo n m):(arr0.toList.take lo).length=lo:=by have:=h.hn;simp;omega
theorem Rn.at (h:Rn arr0 arr lo n m) {j:Nat} (hj:j<m.length):arr[lo+j]?=some m[j]:=by
 rw [<-kj,h.eq,bb (by rw [h.lp];omega),h.lp,bg (by omega),show lo+j-lo=j by omega];exact aa hj
theorem Rn.next (h:Rn arr0 arr lo n m) (hk:lo+n<arr0.size):arr[lo+n]?=some arr0[lo+n]:=by
 rw [<-kj,h.eq,bb (by rw [h.lp];omega),h.lp,bb (by rw [h.len];omega),h.len,drop_one hk,show lo+n-lo-n=0 by omega]
 rfl
theorem Rn.more (h:Rn arr0 arr lo n m) (hk:lo+n<arr0.size):Rn arr0 arr lo (n+1) (m++[arr0[lo+n]]):=by
 refine ⟨?_,?_,by omega⟩
 ·rw [h.eq,drop_one hk,cv]
  rfl
 ·rw [wW (i:=lo) (m:=lo+n) (j:=lo+(n+1)) (by omega) (by omega)]
  have:(arr0.extract (lo+n) (lo+(n+1))).toList=[arr0[lo+n]]:=by
   rw [<-vf,xD,drop_one hk]
   rfl
  rw [this];exact h.pm.append_right _
theorem Rn.dom (h:Rn arr0 arr lo n m) (dd:∀ x∈arr0.toList,D x):∀ x∈m,D x:=λ x hx=>by
 obtain ⟨i,hi,_,_,ei⟩:=jC (h.pm.mem_iff.mp hx);rw [ei];exact dd _ (by simp)
theorem Rn.turn {u v t:List bp} (h:Rn arr0 arr lo n (u++(v++t))) {i j:Nat} (hi:i=lo+u.length) (hj:j=lo+u.length+v.length):Rn arr0 (mirror arr i j ((j-i) / 2)) lo n (u++(v.reverse++t)):=by
 have lp:=h.lp;refine ⟨?_,rh (vj u (uy t (Ar v))) h.pm,h.hn⟩;have e:=rZ arr (P:=arr0.toList.take lo++u) (m:=v) (T:=t++arr0.toList.drop (lo+n)) (i:=i) (j:=j) (by rw [h.eq];simp only [cv]) (by rw [cg,lp];exact hi) (by rw [cg,lp];exact hj);rw [e];simp only [cv]
theorem kBO (W:Wk lb) {m:List bp} {x:bp} (sr:jD lb m) (h:m.length-1<m.length) (c:le lb m[m.length-1] x):jD lb (m++[x]):=by
 refine dr.mpr ⟨sr,lh _ _,λ y hy z hz=>?_⟩;have:z=x:=by simpa using hz
 subst this;obtain ⟨i,hi,rfl⟩:=eU.mp hy;by_cases e:i=m.length-1
 ·subst e;exact c
 ·exact W.trans (jc.mp sr i (m.length-1) hi h (by omega)) c
abbrev AS:=Option (Option Nat)×Nat
def kAW (lo a nrem:Nat):StateT eF Sem AS :=
 forIn [a:nrem] ((none,a):AS) λ _ c=>do
  let r <-ltAt' (lo+c.2) (lo+c.2-1)
  match r with
  | some smaller=>if smaller=true then pure (wb (none,c.2)) else pure (iW (none,c.2+1))
  | _=>pure (wb (some none,c.2))
theorem pX (W:Wk lb) (hL:vV M A E s lb D kd) {st:eF} (hk:kindOf st=kd) (dd:∀ x∈arr0.toList,D x) {nrem:Nat} (hn:lo+nrem<=arr0.size) (n1:1<=n) (nn:n<=nrem) (h:Rn arr0 (cz st) lo n m) (sr:jD lb m) {Q:AS->eF->Prop}
  (q:∀ k m',n<=k->k<=nrem->Rn arr0 (cz st) lo k m'->jD lb m'->(k=nrem\/∃ (h1:lo+k<arr0.size) (h2:m'.length-1<m'.length),lb arr0[lo+k] m'[m'.length-1]=true)->Q (none,k) st):wpS M A E s (kAW lo n nrem) Q st:=by
 unfold kAW;refine ip (I:=λ x c st'=>st'=st/\c=(none,x)/\∃ m',Rn arr0 (cz st) lo x m'/\jD lb m') ?step ?fin ⟨rfl,rfl,m,h,sr⟩
 case fin =>
  rintro c st' ⟨rfl,rfl,m',h',sr'⟩;rw [show max n nrem=nrem by omega] at h' ⊢;exact q nrem m' nn (bq _) h' sr' (.inl rfl)
 case step =>
  rintro x c st' hx1 hx2 ⟨rfl,rfl,m',h',sr'⟩;dsimp only;have lm:=h'.len;have hz:lo+x<arr0.size:=by omega
  have hl:m'.length-1<m'.length:=by omega
  have al:=h'.at hl;rw [show lo+(m'.length-1)=lo+x-1 by omega] at al;refine ck (aW hL hk (h'.next hz) al (dd _ (by simp)) (h'.dom dd _ (gk hl)) ?_)
  cases e:lb arr0[lo+x] m'[m'.length-1]
  case true =>
   simp only [if_true];exact df (q x m' hx1 (by omega) h' sr' (.inr ⟨hz,hl,e⟩))
  case false =>
   simp only [eC,if_false];exact df ⟨rfl,rfl,_,h'.more hz,kBO W sr' hl e⟩
end
end Srt
namespace Srt
set_option autoImplicit false
open PySem PyProof.Rows
section
variable {M:wq} {A:fb} {E:ar->ay->Prop} {s:ay} {lb:bp->bp->Bool} {D:bp->Prop} {kd:ko}
variable {arr0 arr:Array bp} {lo n:Nat} {m:List bp}
abbrev DS:=Option (Option Nat)×Nat×Nat
def sP (lo n nrem:Nat):StateT eF Sem DS :=
 forIn [n:nrem] ((none,n,0):DS) λ _ c=>do
  let r <-ltAt' (lo+c.2.1) (lo+c.2.1-1)
  match r with
  | some smaller =>
   if smaller=true then
    if c.2.2>0 then do
     reverseSlice' (lo+c.2.1-(c.2.2+1)) (lo+c.2.1)
     pure (iW (none,c.2.1+1,0))
    else pure (iW (none,c.2.1+1,0))
   else do
    let r <-ltAt' (lo+c.2.1-1) (lo+c.2.1)
    match r with
    | some larger=>if larger=true then pure (wb (none,c.2.1,c.2.2)) else pure (iW (none,c.2.1+1,c.2.2+1))
    | _=>pure (wb (some none,c.2.1,c.2.2))
  | _=>pure (wb (some none,c.2.1,c.2.2))
structure Fl (lb:bp->bp->Bool) (arr0 arr:Array bp) (lo n neq:Nat) (u t:List bp) (z:bp):Prop where
 rn:Rn arr0 arr lo n (u++(t++[z]))
 fal:Fal lb (u++(t++[z]))
 srt:jD lb (t++[z])
 len:t.length=neq
theorem Fl.last {neq:Nat} {u t:List bp} {z:bp} (h:Fl lb arr0 arr lo n neq u t z) (n0:0<n):arr[lo+n-1]?=some z:=by
 have l:=h.rn.len;rw [cg,cg,gi] at l;have:=h.rn.at (j:=n-1) (by rw [cg,cg,gi];omega);rw [show lo+(n-1)=lo+n-1 by omega] at this;rw [this,<-aa,bb (by omega),bb (by omega),show n-1-u.length-t.length=0 by omega]
 rfl
theorem Fl.low (W:Wk lb) {neq:Nat} {u t:List bp} {z x:bp} (h:Fl lb arr0 arr lo n neq u t z) (c:le lb x z):∀ y∈u++(t++[z]),le lb x y:=λ y hy=>by
 have f:=h.fal;rw [Fal,<-cv] at f;rw [<-cv] at hy;rcases bz.mp hy with w | w
 ·exact W.trans c ((dr.mp f).2.2 y w z (by simp))
 ·have:y=z:=by simpa using w
  rw [this];exact c
theorem bZ {l:List bp} {x:bp} (h:Fal lb l) (c:∀ y∈l,le lb x y):Fal lb (l++[x]):=by
 refine dr.mpr ⟨h,lh _ _,λ y hy w hw=>?_⟩;have:w=x:=by simpa using hw
 rw [this];exact c y hy
theorem Fl.turned {neq:Nat} {u t:List bp} {z:bp} (h:Fl lb arr0 arr lo n neq u t z):Rn arr0 (mirror arr (lo+n-(neq+1)) (lo+n) ((lo+n-(lo+n-(neq+1))) / 2)) lo n (u++(t++[z]).reverse)/\Fal lb (u++(t++[z]).reverse):=by
 have l:=h.rn.len;have ll:=h.len;rw [cg,cg,gi] at l;refine ⟨?_,h.fal.tail h.srt⟩;have:=Rn.turn (u:=u) (v:=t++[z]) (t:=[]) (by simpa using h.rn) (i:=lo+n-(neq+1)) (j:=lo+n) (by omega) (by rw [cg,gi];omega);simpa using this
theorem kCJ (W:Wk lb) (hL:vV M A E s lb D kd) {st:eF} (hk:kindOf st=kd) (dd:∀ x∈arr0.toList,D x) {nrem:Nat} (hn:lo+nrem<=arr0.size) (n1:1<=n) (nn:n<=nrem) {u:List bp} {z:bp} (h:Fl lb arr0 (cz st) lo n 0 u [] z) {Q:DS->eF->Prop}
  (q:∀ k neq st' u t z,Sa st st'->n<=k->k<=nrem->Fl lb arr0 (cz st') lo k neq u t z->Q (none,k,neq) st'):wpS M A E s (sP lo n nrem) Q st:=by
 unfold sP;refine ip (I:=λ x c st'=>Sa st st'/\∃ neq u t z,c=(none,x,neq)/\Fl lb arr0 (cz st') lo x neq u t z) ?step ?fin ⟨⟨rfl,rfl,rfl⟩,0,u,[],z,rfl,h⟩
 case fin =>
  rintro c st' ⟨sm,neq,u,t,z,rfl,f⟩;rw [show max n nrem=nrem by omega] at f ⊢;exact q _ _ _ _ _ _ sm nn (bq _) f
 case step =>
  rintro x c st' hx1 hx2 ⟨sm,neq,u,t,z,rfl,f⟩;dsimp only;have hz:lo+x<arr0.size:=by omega
  have dz:D z:=f.rn.dom dd z (by simp);have dx:D arr0[lo+x]:=dd _ (by simp);refine ck (aW hL (sm.1.trans hk) (f.rn.next hz) (f.last (by omega)) dx dz ?_)
  cases e:lb arr0[lo+x] z
  case true =>
   simp only [if_true];have lw:=f.low W (W.of_lt e);by_cases k0:neq>0
   ·rw [if_pos k0,yz]
    obtain ⟨r1,r2⟩:=f.turned;refine ck (lj (df ⟨sm,0,_,[],_,rfl,⟨r1.more hz,bZ r2 λ y hy=>lw y ?_,lh _ _,rfl⟩⟩));rcases bz.mp hy with w | w
    ·exact az _ w
    ·exact bu _ (qe.mp w)
   ·rw [if_neg k0]
    exact df ⟨sm,0,_,[],_,rfl,⟨f.rn.more hz,bZ f.fal lw,lh _ _,rfl⟩⟩
  case false =>
   simp only [eC,if_false];refine ck (aW hL (sm.1.trans hk) (f.last (by omega)) (f.rn.next hz) dz dx ?_)
   cases e2:lb z arr0[lo+x]
   case true =>
    simp only [if_true];exact df (q _ _ _ _ _ _ sm hx1 (by omega) f)
   case false =>
    simp only [eC,if_false];refine df ⟨sm,neq+1,u,t++[z],arr0[lo+x],rfl,⟨by have:=f.rn.more hz;simpa using this,by have:=bZ f.fal (f.low W e2);simpa using this,?_,by rw [cg,f.len];rfl⟩⟩;refine kBO W f.srt (by rw [cg,gi];omega) ?_;have:(t++[z])[(t++[z]).length-1]'(by rw [cg,gi];omega)=z:=by simp
    rw [this];exact e
end
end Srt
namespace Srt
set_option autoImplicit false
open PySem PyProof.Rows
def mG (lo n nrem:Nat):StateT eF Sem (Option Nat):=do
 reverseSlice' lo (lo+n)
 let c <-kAW lo n nrem
 match c.1 with
 | some r=>pure r
 | none=>pure (some c.2)
def dS (lo n nrem:Nat):StateT eF Sem (Option Nat):=do
 liftM (rule "list.sort.descending-run")
 let c <-sP lo (n+1) nrem
 match c.1 with
 | some r=>pure r
 | none =>
  if c.2.2>0 then do
   reverseSlice' (lo+c.2.1-(c.2.2+1)) (lo+c.2.1)
   mG lo c.2.1 nrem
  else mG lo c.2.1 nrem
theorem lN (lo nrem:Nat):countRun' lo nrem=(do
  let c <-kAW lo 1 nrem
  match c.1 with
  | some r=>pure r
  | none =>
   if (c.2 == nrem)=true then pure (some c.2)
   else if c.2>1 then do
    let r <-ltAt' lo (lo+c.2-1)
    match r with
    | some rose =>
     if rose=true then pure (some c.2)
     else do
      reverseSlice' lo (lo+c.2)
      dS lo c.2 nrem
    | _=>pure none
   else dS lo c.2 nrem):=by
 rw [countRun'_eq];dsimp only;unfold kAW;refine congr (congrArg _ (congrArg _ (funext λ x=>funext λ c=>congrArg _ (funext λ r=>by cases r<;>rfl)))) (funext λ c=>?_);have part:∀ n:Nat,dS lo n nrem=dS lo n nrem:=λ _=>rfl
 cases c.1 with
 | some r=>rfl
 | none =>
  dsimp only;refine ite_congr rfl (λ _=>rfl) (λ _=>ite_congr rfl (λ _=>congrArg _ (funext λ r=>?_)) (λ _=>?_))
  ·cases r with
   | none=>rfl
   | some rose =>
    dsimp only;refine ite_congr rfl (λ _=>rfl) (λ _=>congrArg _ (funext λ _=>?_));unfold dS sP;refine congrArg _ (funext λ _=>congr (congrArg _ (congrArg _ (funext λ x=>funext λ d=>congrArg _ (funext λ r=>?_)))) (funext λ d=>?_))
    ·cases r with
     | none=>rfl
     | some b=>exact ite_congr rfl (λ _=>rfl) (λ _=>congrArg _ (funext λ r=>by cases r<;>rfl))
    ·cases d.1 with
     | some r=>rfl
     | none =>
      unfold mG kAW;refine ite_congr rfl (λ _=>congrArg _ (funext λ _=>?_)) (λ _=>?_)
      all_goals exact congrArg _ (funext λ _=>congr (congrArg _ (congrArg _ (funext λ x=>funext λ c=>congrArg _ (funext λ r=>by cases r<;>rfl)))) (funext λ c=>by cases c.1<;>rfl))
  ·unfold dS sP
   refine congrArg _ (funext λ _=>congr (congrArg _ (congrArg _ (funext λ x=>funext λ d=>congrArg _ (funext λ r=>?_)))) (funext λ d=>?_))
   ·cases r with
    | none=>rfl
    | some b=>exact ite_congr rfl (λ _=>rfl) (λ _=>congrArg _ (funext λ r=>by cases r<;>rfl))
   ·cases d.1 with
    | some r=>rfl
    | none =>
     unfold mG kAW;refine ite_congr rfl (λ _=>congrArg _ (funext λ _=>?_)) (λ _=>?_)
     all_goals exact congrArg _ (funext λ _=>congr (congrArg _ (congrArg _ (funext λ x=>funext λ c=>congrArg _ (funext λ r=>by cases r<;>rfl)))) (funext λ c=>by cases c.1<;>rfl))
section
variable {M:wq} {A:fb} {E:ar->ay->Prop} {s:ay} {lb:bp->bp->Bool} {D:bp->Prop} {kd:ko}
variable {arr0 arr:Array bp} {lo n:Nat} {m:List bp}
theorem lY (W:Wk lb) (hL:vV M A E s lb D kd) {st:eF} (hk:kindOf st=kd) (dd:∀ x∈arr0.toList,D x) {nrem:Nat} (hn:lo+nrem<=arr0.size) (n1:1<=n) (nn:n<=nrem) (h:Rn arr0 (cz st) lo n m) (fa:Fal lb m) {Q:Option Nat->eF->Prop}
  (q:∀ k st',Sa st st'->1<=k->k<=nrem->Joined lb arr0 (cz st') lo k->Q (some k) st'):wpS M A E s (mG lo n nrem) Q st:=by
 unfold mG;rw [yz];refine ck (lj ?_);have t:=Rn.turn (u:=[]) (v:=m) (t:=[]) (by simpa using h) (i:=lo) (j:=lo+n) (by simp) (by rw [h.len];simp);simp only [jr,iN] at t;refine ck (pX (st:=setArr st (mirror (cz st) lo (lo+n) ((lo+n-lo) / 2))) W hL hk dd hn n1 nn t fa.rev λ k m' k1 k2 r' sr' _=>?_);exact df (q k _ ⟨rfl,rfl,rfl⟩ (by omega) k2 (r'.joined sr'))
theorem lZ (W:Wk lb) (hL:vV M A E s lb D kd) {st:eF} (hk:kindOf st=kd) (dd:∀ x∈arr0.toList,D x) {nrem:Nat} (hn:lo+nrem<=arr0.size) (n1:1<=n) (nn:n<nrem) (h:Rn arr0 (cz st) lo n m) (fa:Fal lb m) (hz:lo+n<arr0.size) (lw:∀ y∈m,le lb arr0[lo+n] y) {Q:Option Nat->eF->Prop}
  (q:∀ k st',Sa st st'->1<=k->k<=nrem->Joined lb arr0 (cz st') lo k->Q (some k) st'):wpS M A E s (dS lo n nrem) Q st:=by
 unfold dS;refine ck (wQ ?_);refine ck (kCJ W hL hk dd hn (by omega) (by omega) (u:=m) (z:=arr0[lo+n]) ⟨h.more hz,bZ fa lw,lh _ _,rfl⟩ λ k neq st' u t z sm k1 k2 f=>?_);dsimp only;have tr:∀ k st2,Sa st' st2->1<=k->k<=nrem->Joined lb arr0 (cz st2) lo k->Q (some k) st2:=λ k st2 s2=>q k st2 ⟨s2.1.trans sm.1,s2.2.1.trans sm.2.1,s2.2.2.trans sm.2.2⟩;by_cases k0:neq>0
 ·rw [if_pos k0,yz]
  obtain ⟨r1,r2⟩:=f.turned;refine ck (lj ?_);exact lY (st:=setArr st' (mirror (cz st') (lo+k-(neq+1)) (lo+k) ((lo+k-(lo+k-(neq+1))) / 2))) W hL (sm.1.trans hk) dd hn (by omega) k2 r1 r2 tr
 ·rw [if_neg k0]
  exact lY W hL (sm.1.trans hk) dd hn (by omega) k2 f.rn f.fal tr
theorem nM (W:Wk lb) (hL:vV M A E s lb D kd) {st:eF} (hk:kindOf st=kd) (dd:∀ x∈(cz st).toList,D x) {nrem:Nat} (hn:lo+nrem<=(cz st).size) (n1:1<=nrem) {Q:Option Nat->eF->Prop}
  (q:∀ k st',Sa st st'->1<=k->k<=nrem->Joined lb (cz st) (cz st') lo k->Q (some k) st'):wpS M A E s (countRun' lo nrem) Q st:=by
 rw [lN];have r0:=Rn.start (arr0:=cz st) (lo:=lo) (n:=1) (by omega)
 have s0:jD lb ((cz st).extract lo (lo+1)).toList:=by
  have:=r0.len;generalize ((cz st).extract lo (lo+1)).toList=l at *;exact oH (Cn this)
 refine ck (pX W hL hk dd hn (by omega) n1 r0 s0 λ k m k1 k2 r sr c=>?_);dsimp only;have lm:=r.len;by_cases e:k=nrem
 ·rw [if_pos (by simpa using e)]
  exact df (q k st ⟨rfl,rfl,rfl⟩ k1 k2 (r.joined sr))
 ·rw [if_neg (by simpa using e)]
  obtain ⟨hz,hl,lt⟩ : ∃ (h1:lo+k<(cz st).size) (h2:m.length-1<m.length),lb (cz st)[lo+k] m[m.length-1]=true:=by
   rcases c with c | c
   ·exact absurd c e
   ·exact c
  by_cases g:k>1
  ·rw [if_pos g]
   have a0:=r.at (j:=0) (by omega);have al:=r.at hl;rw [Cs] at a0;rw [show lo+(m.length-1)=lo+k-1 by omega] at al;refine ck (aW hL hk a0 al (r.dom dd _ (gk _)) (r.dom dd _ (gk _)) ?_)
   cases e2:lb (m[0]'(by omega)) m[m.length-1]
   case true =>
    simp only [if_true];exact df (q k st ⟨rfl,rfl,rfl⟩ k1 k2 (r.joined sr))
   case false =>
    simp only [eC,if_false];rw [yz];refine ck (lj ?_);have t:=Rn.turn (u:=[]) (v:=m) (t:=[]) (by simpa using r) (i:=lo) (j:=lo+k) (by simp) (by rw [lm];simp);simp only [jr,iN] at t;refine lZ (st:=setArr st (mirror (cz st) lo (lo+k) ((lo+k-lo) / 2))) W hL hk dd hn k1 (by omega) t (show List.Pairwise _ _ from yq.mpr sr) hz (λ y hy=>?_) λ k' st' sm=>q k' st' sm;obtain ⟨i,hi,rfl⟩:=eU.mp (qe.mp hy)
    have f0:le lb (m[0]'(by omega)) m[i]:=by
     by_cases z:0=i
     ·subst z;exact W.refl _
     ·exact jc.mp sr 0 i (by omega) hi (by omega)
    exact W.trans (W.of_lt lt) (W.trans e2 f0)
  ·rw [if_neg g]
   have k1':k=1:=by omega
   subst k1'
   exact lZ W hL hk dd hn (by omega) (by omega) r (oH (by omega)) hz (λ y hy=>by
    obtain ⟨i,hi,rfl⟩:=eU.mp hy;have e3:i=m.length-1:=by omega
    simp only [e3];exact W.of_lt lt) λ k' st' sm=>q k' st' sm
end
end Srt
namespace Srt
set_option autoImplicit false
open PySem PyProof.Rows
abbrev Pn:=Nat×Nat×Nat
def Tiles:List Pn->Nat->Nat->Prop
 | [],a,b=>a=b
 | x::r,a,b=>x.1=a/\0<x.2.1/\Tiles r (a+x.2.1) b
theorem Tiles.le:∀ {l:List Pn} {a b:Nat},Tiles l a b->a<=b
 | [],a,b,h=>by rw [show a=b from h];exact bq _
 | x::r,a,b,h=>by have:=Tiles.le h.2.2;omega
theorem Tiles.app:∀ {l r:List Pn} {a b:Nat},Tiles (l++r) a b↔∃ c,Tiles l a c/\Tiles r c b
 | [],r,a,b=>⟨λ h=>⟨a,rfl,h⟩,λ ⟨c,h1,h2⟩=>by rw [show a=c from h1];exact h2⟩
 | x::l,r,a,b=>by
  constructor
  ·rintro ⟨h1,h2,h3⟩
   obtain ⟨c,h4,h5⟩:=Tiles.app.mp h3;exact ⟨c,⟨h1,h2,h4⟩,h5⟩
  ·rintro ⟨c,⟨h1,h2,h3⟩,h4⟩
   exact ⟨h1,h2,Tiles.app.mpr ⟨c,h3,h4⟩⟩
theorem Tiles.join {l r:List Pn} {a b s n s' n' p p':Nat} (h:Tiles (l++(s,n,p)::(s',n',p')::r) a b):s'=s+n/\0<n/\0<n'/\s+n+n'<=b/\Tiles l a s/\Tiles r (s+n+n') b/\Tiles (l++(s,n+n',p)::r) a b:=by
 obtain ⟨c,h1,h2,h3,h4,h5,h6⟩:=Tiles.app.mp h;have h2:s=c:=h2;have h4:s'=c+n:=h4;have h3:0<n:=h3;have h5:0<n':=h5;have h6:Tiles r (c+n+n') b:=h6;subst h2;refine ⟨h4,h3,h5,h6.le,h1,h6,Tiles.app.mpr ⟨s,h1,rfl,by show 0<n+n';omega,?_⟩⟩;show Tiles r (s+(n+n')) b;rw [<-vf];exact h6
theorem tX {P:Array Pn} {l r:List Pn} {x y z:Pn} (h:P.toList=l++x::y::r):((P.setIfInBounds l.length z).eraseIdxIfInBounds (l.length+1)).toList=l++z::r:=by
 have sz:P.size=l.length+(r.length+2):=by
  have:=congrArg fz h;simpa using this
 unfold Array.eraseIdxIfInBounds;rw [dif_pos (by rw [BA];omega),Array.toList_eraseIdx,Ad,h];rw [List.set_append_right _ _ (bq _),uz,List.eraseIdx_append_of_length_le (by omega),show l.length+1-l.length=1 by omega]
 rfl
section
variable {lb:bp->bp->Bool} {arr arr':Array bp} {lo n:Nat}
theorem Joined.low (h:Joined lb arr arr' lo n) (hn:lo+n<=arr.size) {a k:Nat} (c:a+k<=lo):(arr'.extract a (a+k)).toList=(arr.extract a (a+k)).toList:=by
 obtain ⟨m,e,_,pm⟩:=h;have lp:(arr.toList.take lo).length=lo:=by simp;omega
 rw [xD,xD,e,List.drop_append_of_le_length (by omega),zg (by rw [iP];omega),EG,EH,iq (by omega)]
theorem Joined.high (h:Joined lb arr arr' lo n) (hn:lo+n<=arr.size) {a k:Nat} (c:lo+n<=a):(arr'.extract a (a+k)).toList=(arr.extract a (a+k)).toList:=by
 obtain ⟨m,e,_,pm⟩:=h
 have l:m.length=n:=by
  rw [pm.length_eq,xD,eK,iP,fm];omega
 have lp:(arr.toList.take lo).length=lo:=by simp;omega
 rw [xD,xD,e,wo,lp,jl (by omega),jr,wo,jl (by omega),jr,BJ]
 congr 2
 omega
theorem Joined.here (h:Joined lb arr arr' lo n) (hn:lo+n<=arr.size):jD lb (arr'.extract lo (lo+n)).toList:=by
 obtain ⟨m,e,sr,pm⟩:=h
 have l:m.length=n:=by
  rw [pm.length_eq,xD,eK,iP,fm];omega
 have lp:(arr.toList.take lo).length=lo:=by simp;omega
 rw [xD,e,wo,lp,jl (by omega),jr,uz,EI,zg (by omega),gn (by omega)];exact sr
theorem Joined.perm (h:Joined lb arr arr' lo n) (hn:lo+n<=arr.size):arr'.toList.Perm arr.toList:=by
 obtain ⟨m,e,sr,pm⟩:=h;rw [e];exact (vj _ (pm.append_right _)).trans (List.Perm.of_eq (vO hn).symm)
end
end Srt
namespace Srt
set_option autoImplicit false
open PySem PyProof.Rows
section
variable {M:wq} {A:fb} {E:ar->ay->Prop} {s:ay} {lb:bp->bp->Bool} {D:bp->Prop} {kd:ko}
structure SI (lb:bp->bp->Bool) (kd:ko) (a0:Array bp) (st:eF) (lo:Nat):Prop where
 kind:kindOf st=kd
 failed:sk st=none
 perm:(cz st).toList.Perm a0.toList
 tiles:Tiles (cx st).toList 0 lo
 top:lo<=a0.size
 runs:∀ x∈(cx st).toList,jD lb ((cz st).extract x.1 (x.1+x.2.1)).toList
theorem SI.size {a0:Array bp} {st:eF} {lo:Nat} (h:SI lb kd a0 st lo):(cz st).size=a0.size:=by simpa using h.perm.length_eq
theorem Tiles.in:∀ {l:List Pn} {a b:Nat},Tiles l a b->∀ x∈l,a<=x.1/\x.1+x.2.1<=b
 | y::l,a,b,h,x,hx=>by
  rcases du.mp hx with rfl | z
  ·have:=h.2.2.le
   have:=h.1;omega
  ·have:=Tiles.in h.2.2 x z
   omega
theorem aE (W:Wk lb) (hL:vV M A E s lb D kd) {a0:Array bp} (dd:∀ x∈a0.toList,D x) {st:eF} {lo:Nat} (h:SI lb kd a0 st lo) {i:Nat} (hi:i+1<(cx st).size) {Q:Bool->eF->Prop}
  (q:∀ st',SI lb kd a0 st' lo->(cx st').size+1=(cx st).size->(∀ a k,lo<=a->((cz st').extract a (a+k)).toList=((cz st).extract a (a+k)).toList)->Q true st'):wpS M A E s (mergeAt' i) Q st:=by
 have sp:(cx st).toList=(cx st).toList.take i++(cx st)[i]::(cx st)[i+1]::(cx st).toList.drop (i+2):=by
  conv=>lhs;rw [<-eW i (cx st).toList]
  rw [drop_one (show i<(cx st).size by omega),drop_one hi]
  rfl
 have li:((cx st).toList.take i).length=i:=by simp;omega
 have e1:=getElem?_pos (cx st) i (by omega);have e2:=getElem?_pos (cx st) (i+1) hi;have r1:=h.runs _ (by simp:(cx st)[i]∈(cx st).toList);have r2:=h.runs _ (by simp:(cx st)[i+1]∈(cx st).toList);have ti:=h.tiles;have ru:=h.runs;rw [sp] at ti ru;generalize hx:(cx st)[i]=x at *;generalize hy:(cx st)[i+1]=y at *;obtain ⟨sa,na,pa⟩:=x;obtain ⟨sb,nb,pb⟩:=y;obtain ⟨eb,na0,nb0,le,tl,tr,tj⟩:=ti.join;subst eb;have top:=h.top;have sz:=h.size;refine pW W hL h.kind h.failed (λ x hx=>dd x (h.perm.mem_iff.mp hx)) e1 e2 na0 nb0 (by omega) r1 r2 λ st' k' f' p' j'=>?_;have hn:sa+(na+nb)<=(cz st).size:=by omega
 have pl:(cx st').toList=(cx st).toList.take i++(sa,na+nb,pa)::(cx st).toList.drop (i+2):=by
  have:=tX (z:=(sa,na+nb,pa)) sp;rw [li] at this;rw [p',this]
 refine q st' ⟨k',f',(j'.perm hn).trans h.perm,by rw [pl];exact tj,top,λ z hz=>?_⟩ ?_ (λ a k hak=>j'.high hn (by omega))
 ·rw [pl] at hz
  rcases bz.mp hz with w | w
  ·have:=tl.in z w
   rw [j'.low hn (by omega)];exact ru z (az _ w)
  ·rcases du.mp w with rfl | w
   ·exact j'.here hn
   ·have:=tr.in z w
    rw [j'.high hn (by omega)];exact ru z (bu _ (dj _ (dj _ w)))
 ·have l1:=congrArg fz pl
  have l2:=congrArg fz sp;simp only [fm,cg,eX] at l1 l2;omega
end
end Srt
namespace Srt
set_option autoImplicit false
open PySem PyProof.Rows
theorem Tiles.snoc {l:List Pn} {a b:Nat} {x:Pn} (h:Tiles l a b) (e:x.1=b) (n:0<x.2.1):Tiles (l++[x]) a (b+x.2.1) :=
 Tiles.app.mpr ⟨b,h,e,n,rfl⟩
theorem Tiles.repl:∀ {l:List Pn} {a b:Nat} (k:Nat) (f:Pn->Pn),(∀ x,(f x).1=x.1/\(f x).2.1=x.2.1)->Tiles l a b->Tiles (l.modify k f) a b
 | [],a,b,k,f,hf,h=>by simpa using h
 | x::r,a,b,0,f,hf,h=>by
  obtain ⟨h1,h2,h3⟩:=h;have:=hf x;rw [List.modify_zero_cons];exact ⟨this.1.trans h1,by rw [this.2];exact h2,by rw [this.2];exact h3⟩
 | x::r,a,b,k+1,f,hf,h=>by
  obtain ⟨h1,h2,h3⟩:=h;rw [List.modify_succ_cons];exact ⟨h1,h2,Tiles.repl k f hf h3⟩
theorem kJJ {l:List Pn} {k:Nat} {f:Pn->Pn} {x:Pn} (h:x∈l.modify k f):∃ y∈l,x=y\/x=f y:=by
 obtain ⟨i,hi,rfl⟩:=eU.mp h;rw [List.getElem_modify];have hi':i<l.length:=by simpa using hi
 split
 ·exact ⟨l[i],gk _,.inr rfl⟩
 ·exact ⟨l[i],gk _,.inl rfl⟩
theorem Tiles.one:∀ {l:List Pn} {a b:Nat},Tiles l a b->a<b->l.length<=1->∃ p,l=[(a,b-a,p)]
 | [],a,b,h,c,_=>by have:a=b:=h;omega
 | [(s,n,p)],a,b,h,c,_=>by
  obtain ⟨h1,h2,h3⟩:=h;have h1:s=a:=h1;have h3:a+n=b:=h3;refine ⟨p,?_⟩;rw [h1,show n=b-a by omega]
 | _::_::_,a,b,h,c,z=>by simp at z
section
variable {M:wq} {A:fb} {E:ar->ay->Prop} {s:ay} {lb:bp->bp->Bool} {D:bp->Prop} {kd:ko}
theorem SI.len {a0:Array bp} {st:eF} {lo:Nat} (h:SI lb kd a0 st lo):(cx st).size<=lo:=by
 have:∀ (l:List Pn) (a b:Nat),Tiles l a b->a+l.length<=b:=by
  intro l
  induction l with
  | nil=>intro a b h;rw [show a=b from h];simp
  | cons x r ih =>
   intro a b h;have:=ih _ _ h.2.2;have:=h.2.1;rw [eX];omega
 have:=this _ _ _ h.tiles;simpa using this
theorem SI.push {a0:Array bp} {st:eF} {lo n:Nat} (h:SI lb kd a0 st lo) (n0:0<n) (hn:lo+n<=a0.size) (sr:jD lb ((cz st).extract lo (lo+n)).toList) :
  SI lb kd a0 (setPending st ((cx st).push (lo,n,0))) (lo+n):=by
 refine ⟨h.kind,h.failed,h.perm,?_,hn,?_⟩
 ·show Tiles ((cx st).push (lo,n,0)).toList 0 (lo+n)
  rw [tu];exact h.tiles.snoc rfl n0
 ·intro x hx
  have hx:x∈((cx st).push (lo,n,0)).toList:=hx;rw [tu] at hx;rcases bz.mp hx with z | z
  ·exact h.runs x z
  ·have:x=(lo,n,0):=by simpa using z
   rw [this];exact sr
theorem SI.mod {a0:Array bp} {st:eF} {lo:Nat} (h:SI lb kd a0 st lo) (k pw:Nat):SI lb kd a0 (setPending st ((cx st).modify k λ (x:Pn)=>(x.1,x.2.1,pw))) lo:=by
 refine ⟨h.kind,h.failed,h.perm,?_,h.top,?_⟩
 ·show Tiles ((cx st).modify k _).toList 0 lo
  rw [Bz];exact Tiles.repl k _ (λ x=>⟨rfl,rfl⟩) h.tiles
 ·intro x hx
  have hx:x∈((cx st).modify k λ (x:Pn)=>(x.1,x.2.1,pw)).toList:=hx;rw [Bz] at hx;obtain ⟨y,hy,e⟩:=kJJ hx;have r:=h.runs y hy;rcases e with rfl | rfl
  ·exact r
  ·exact r
theorem SI.tail {a0:Array bp} {st st':eF} {lo n:Nat} (h:SI lb kd a0 st lo) (sa:Sa st st') (hn:lo+n<=a0.size) (j:Joined lb (cz st) (cz st') lo n):SI lb kd a0 st' lo:=by
 have sz:=h.size;refine ⟨sa.1.trans h.kind,sa.2.2.trans h.failed,(j.perm (by omega)).trans h.perm,by rw [sa.2.1];exact h.tiles,h.top,λ x hx=>?_⟩;rw [sa.2.1] at hx;have:=h.tiles.in x hx;rw [j.low (by omega) (by omega)];exact h.runs x hx
end
end Srt
namespace Srt
set_option autoImplicit false
open PySem PyProof.Rows
section
variable {M:wq} {A:fb} {E:ar->ay->Prop} {s:ay} {lb:bp->bp->Bool} {D:bp->Prop} {kd:ko}
theorem pS (W:Wk lb) (hL:vV M A E s lb D kd) {st:eF} (hk:kindOf st=kd) (hf:sk st=none) (hp:cx st = #[]) (dd:∀ x∈(cz st).toList,D x) {Q:Unit->eF->Prop}
  (h:∀ st',(cz st').toList.Perm (cz st).toList->sk st'=none->jD lb (cz st').toList->Q () st'):wpS M A E s sortRuns' Q st:=by
 rw [sortRuns'_eq];refine ck (xp ?_);dsimp only;generalize hsz:(cz st).size=size;generalize hmr:minRun' size size 0=mr
 refine ck (sj (ip
  (I:=λ x c st'=>∃ lo,c=(none,lo)/\SI lb kd (cz st) st' lo/\(x<=lo\/lo=size))
  (Q:=λ c st'=>c=(none,size)/\SI lb kd (cz st) st' size) ?step ?fin ⟨0,rfl,⟨hk,hf,ym _,by rw [hp];rfl,gm _,by rw [hp];simp⟩,.inl (bq _)⟩) ?post)
 case fin =>
  rintro c st' ⟨lo,rfl,hI,hx⟩
  have:lo=size:=by
   rcases hx with hx | hx
   ·have:=hI.top;omega
   ·exact hx
  subst this;exact ⟨rfl,hI⟩
 case step =>
  rintro x c st' _ hx ⟨lo,rfl,hI,hx'⟩;dsimp only;have top:=hI.top;have sz':=hI.size;by_cases hge:lo >= size
  ·rw [if_pos hge]
   have:lo=size:=by omega
   subst this;exact df ⟨rfl,hI⟩
  rw [if_neg hge];have dd':∀ {st2:eF},SI lb kd (cz st) st2 lo->∀ x∈(cz st2).toList,D x:=λ h x hx=>dd x (h.perm.mem_iff.mp hx);refine ck (nM W hL hI.kind (dd' hI) (by omega) (by omega) λ m st2 sa2 m1 m2 j2=>?_);dsimp only;have hI2:=hI.tail sa2 (by omega) j2;have sr2:=j2.here (by omega);have sz2:=hI2.size;have bin:∀ n,n=min (size-lo) mr->m<mr->m<=n/\0<n/\lo+n<=size:=λ n e h=>by omega
  by_cases hlt:m<mr
  ·rw [if_pos hlt]
   refine ck (wQ ?_);generalize hn:min (size-lo) mr=n;obtain ⟨mn,n0,hnl⟩:=bin n hn.symm hlt;refine ck (sY W hL hI2.kind (dd' hI2) mn (by omega) sr2 λ st3 sa3 j3=>?_);simp only [xf,eC,if_false];have hI3:=hI2.tail sa3 (by omega) j3;have sr3:=j3.here (by omega);clear sr2 hI2 j2 sa2 j3 sa3 sz2 m1 m2 mn hlt hn bin;clear m st2;refine ck (xp ?_)
   cases hb:(cx st3).back? with
   | none =>
    dsimp only;exact ck (lj (df ⟨lo+n,rfl,hI3.push n0 (by omega) sr3,by omega⟩))
   | some z =>
    obtain ⟨s1,n1,z1⟩:=z;dsimp only;generalize power' size (2*s1+n1) (2*s1+n1+n1+n) size=pw
    refine ck (sj (ip (I:=λ _ c st'=>c=(none,())/\SI lb kd (cz st) st' lo/\jD lb ((cz st').extract lo (lo+n)).toList)
     (Q:=λ c st'=>c=(none,())/\SI lb kd (cz st) st' lo/\jD lb ((cz st').extract lo (lo+n)).toList) ?_ (λ _ _ hh=>hh) ⟨rfl,hI3,sr3⟩) ?_)
    ·rintro y c st4 _ hy ⟨rfl,hI4,sr4⟩
     refine ck (xp ?_);by_cases h1:(cx st4).size>1
     ·rw [if_pos h1,getElem?_pos (cx st4) ((cx st4).size-2) (by omega)]
      generalize (cx st4)[(cx st4).size-2]'(by omega)=zz;obtain ⟨y1,y2,y3⟩:=zz;dsimp only;by_cases h2:y3<=pw
      ·rw [if_pos h2]
       exact df ⟨rfl,hI4,sr4⟩
      ·rw [if_neg h2]
       refine ck (aE W hL dd hI4 (by omega) λ st5 hI5 h5 e5=>?_);simp only [xf,eC,if_false];exact df ⟨rfl,hI5,by rw [e5 _ _ (bq _)];exact sr4⟩
     ·rw [if_neg h1]
      exact df ⟨rfl,hI4,sr4⟩
    ·rintro c st4 ⟨rfl,hI4,sr4⟩
     dsimp only;refine ck (lj ?_);have hI5:=hI4.mod ((cx st4).size-1) pw;exact ck (lj (df ⟨lo+n,rfl,hI5.push n0 (by omega) sr4,by omega⟩))
  ·rw [if_neg hlt]
   have hnl:lo+m<=size:=by omega
   have n0:0<m:=by omega
   clear bin hlt m2 m1 j2 sz2 sa2;refine ck (xp ?_)
   cases hb:(cx st2).back? with
   | none =>
    dsimp only;exact ck (lj (df ⟨lo+m,rfl,hI2.push n0 (by omega) sr2,by omega⟩))
   | some z =>
    obtain ⟨s1,n1,z1⟩:=z;dsimp only;generalize power' size (2*s1+n1) (2*s1+n1+n1+m) size=pw
    refine ck (sj (ip (I:=λ _ c st'=>c=(none,())/\SI lb kd (cz st) st' lo/\jD lb ((cz st').extract lo (lo+m)).toList)
     (Q:=λ c st'=>c=(none,())/\SI lb kd (cz st) st' lo/\jD lb ((cz st').extract lo (lo+m)).toList) ?_ (λ _ _ hh=>hh) ⟨rfl,hI2,sr2⟩) ?_)
    ·rintro y c st4 _ hy ⟨rfl,hI4,sr4⟩
     refine ck (xp ?_);by_cases h1:(cx st4).size>1
     ·rw [if_pos h1,getElem?_pos (cx st4) ((cx st4).size-2) (by omega)]
      generalize (cx st4)[(cx st4).size-2]'(by omega)=zz;obtain ⟨y1,y2,y3⟩:=zz;dsimp only;by_cases h2:y3<=pw
      ·rw [if_pos h2]
       exact df ⟨rfl,hI4,sr4⟩
      ·rw [if_neg h2]
       refine ck (aE W hL dd hI4 (by omega) λ st5 hI5 h5 e5=>?_);simp only [xf,eC,if_false];exact df ⟨rfl,hI5,by rw [e5 _ _ (bq _)];exact sr4⟩
     ·rw [if_neg h1]
      exact df ⟨rfl,hI4,sr4⟩
    ·rintro c st4 ⟨rfl,hI4,sr4⟩
     dsimp only;refine ck (lj ?_);have hI5:=hI4.mod ((cx st4).size-1) pw;exact ck (lj (df ⟨lo+m,rfl,hI5.push n0 (by omega) sr4,by omega⟩))
 case post =>
  rintro c st' ⟨rfl,hI⟩;dsimp only
  have fin:∀ st',SI lb kd (cz st) st' size->(cx st').size<=1->Q () st':=λ st' hI hl=>by
   refine h st' hI.perm hI.failed ?_;by_cases z:0<size
   ·obtain ⟨p,e⟩:=hI.tiles.one z (by simpa using hl)
    have r:=hI.runs (0,size-0,p) (by rw [e];simp);have r:jD lb ((cz st').extract 0 (0+(size-0))).toList:=r;have e1:=hI.size;rw [show 0+(size-0)=(cz st').size by omega,Array.extract_size] at r;exact r
   ·have:(cz st').toList=[]:=iY.mp (by rw [fm];have:=hI.size;omega)
    rw [this];exact Am
  refine ck (sj (ip (I:=λ x c st'=>c=(none,())/\SI lb kd (cz st) st' size/\(cx st').size+x<=max (size+1) (1+x))
   (Q:=λ c st'=>c=(none,())/\SI lb kd (cz st) st' size/\(cx st').size<=1) ?_ ?_ ⟨rfl,hI,by have:=hI.len;omega⟩) ?_)
  ·rintro x c st' _ hx ⟨rfl,hI,hb⟩
   refine ck (xp ?_);by_cases h1:(cx st').size<=1
   ·rw [if_pos h1]
    exact df ⟨rfl,hI,h1⟩
   rw [if_neg h1];have hg:∀ b:Bool,(if b=true then (cx st').size-2-1 else (cx st').size-2)+1<(cx st').size:=λ b=>by split<;>omega
   replace hg:=hg (Option.any (λ x=>decide (x<((cx st')[(cx st').size-2+1]?.elim 0 λ x=>x.snd.fst))) (if (cx st').size-2>0 then Fg (λ x=>x.snd.fst) (cx st')[(cx st').size-2-1]? else none))
   generalize (if (if (cx st').size-2>0 then Fg (λ x=>x.snd.fst) (cx st')[(cx st').size-2-1]? else none).any _=true then (cx st').size-2-1 else (cx st').size-2)=i at hg ⊢;refine ck (aE W hL dd hI hg λ st2 hI2 h2 _=>?_);simp only [xf,eC,if_false];exact df ⟨rfl,hI2,by omega⟩
  ·rintro c st' ⟨rfl,hI,hb⟩
   exact ⟨rfl,hI,by omega⟩
  ·rintro c st' ⟨rfl,hI,hb⟩
   exact df (fin _ hI hb)
end
end Srt
namespace Srt
set_option autoImplicit false
open PySem PySem.W PyProof.Rows
def lexLt:List Int->List Int->Bool
 | [],[]=>false
 | [],_::_=>true
 | _::_,[]=>false
 | a::x,b::y=>if a=b then lexLt x y else decide (a<b)
theorem lex_irr:∀ x,lexLt x x=false
 | []=>rfl
 | a::x=>by rw [lexLt,if_pos rfl];exact lex_irr x
theorem lex_tr:∀ x y z,lexLt x y=true->lexLt y z=true->lexLt x z=true
 | [],[],_,h,_=>nomatch h
 | [],_::_,[],_,h=>nomatch h
 | [],_::_,_::_,_,_=>rfl
 | _::_,[],_,h,_=>nomatch h
 | _::_,_::_,[],_,h=>nomatch h
 | a::x,b::y,c::z,h,k=>by
  rw [lexLt] at *;by_cases e:a=b
  ·subst e
   rw [if_pos rfl] at h;by_cases e2:a=c
   ·subst e2
    rw [if_pos rfl] at k ⊢;exact lex_tr x y z h k
   ·rw [if_neg e2] at k ⊢
    exact k
  ·rw [if_neg e] at h
   by_cases e2:b=c
   ·subst e2
    rw [if_neg e];exact h
   ·rw [if_neg e2] at k
    have h:=of_decide_eq_true h;have k:=of_decide_eq_true k;rw [if_neg (by omega)];exact decide_eq_true (by omega)
theorem lex_neg:∀ x y z,lexLt x z=true->lexLt x y=true\/lexLt y z=true
 | [],[],z,h=>.inr h
 | [],_::_,z,h=>.inl rfl
 | _::_,_,[],h=>nomatch h
 | _::_,[],_::_,h=>.inr rfl
 | a::x,b::y,c::z,h=>by
  rw [lexLt] at *;by_cases e:a=c
  ·subst e
   rw [if_pos rfl] at h;by_cases e2:a=b
   ·subst e2
    rw [if_pos rfl,lexLt,if_pos rfl];exact lex_neg x y z h
   ·rw [if_neg e2,lexLt,if_neg (λ q=>e2 q.symm)]
    by_cases l:a<b
    ·exact .inl (decide_eq_true l)
    ·exact .inr (decide_eq_true (by omega))
  ·rw [if_neg e] at h
   have h:=of_decide_eq_true h;by_cases e2:a=b
   ·subst e2
    rw [lexLt,if_neg e];exact .inr (decide_eq_true h)
   ·rw [if_neg e2]
    by_cases l:a<b
    ·exact .inl (decide_eq_true l)
    ·rw [lexLt,if_neg (by omega)]
     exact .inr (decide_eq_true (by omega))
theorem lex_tot:∀ x y,lexLt x y=false->lexLt y x=false->x=y
 | [],[],_,_=>rfl
 | [],_::_,h,_=>nomatch h
 | _::_,[],_,h=>nomatch h
 | a::x,b::y,h,k=>by
  rw [lexLt] at *;by_cases e:a=b
  ·subst e
   rw [if_pos rfl] at h k;rw [lex_tot x y h k]
  ·rw [if_neg e] at h
   rw [if_neg (λ q=>e q.symm)] at k;have h:=of_decide_eq_false h;have k:=of_decide_eq_false k;omega
def keyOf (h:gy):ar->List Int
 | .ref a=>match h.get? a with
  | some o=>match o.data with
   | .seq xs _=>xs.toList.map numOf
   | _=>[]
  | none=>[]
 | _=>[]
def lbT (h:gy) (x y:bp):Bool:=lexLt (keyOf h x.1) (keyOf h y.1)
theorem kMC (h:gy):Wk (lbT h):=⟨λ a=>lex_irr _,λ a b c=>lex_neg _ _ _,λ a b c=>lex_tr _ _ _⟩
def lbI (x y:bp):Bool:=decide (numOf x.1<numOf y.1)
theorem kMD:Wk lbI:=⟨λ a=>by unfold lbI;simp,λ a b c h=>by
  unfold lbI at *;have:=of_decide_eq_true h;by_cases l:numOf a.1<numOf b.1
  ·exact .inl (decide_eq_true l)
  ·exact .inr (decide_eq_true (by omega)),λ a b c h k=>by
  unfold lbI at *;have:=of_decide_eq_true h;have:=of_decide_eq_true k;exact decide_eq_true (by omega)⟩
def TupI (h:gy) (v:ar):Prop:=∃ a o xs n,v=.ref a/\h.get? a=some o/\o.cls=.type "tuple"/\o.data=.seq xs n/\(∀ u∈xs.toList,∃ k t,u=.int k t)/\0<xs.size
theorem TupI.kept {h h':gy} {v:ar} (x:TupI h v) (k:∀ a o,o.cls=.type "tuple"->h.get? a=some o->h'.get? a=some o):TupI h' v/\keyOf h' v=keyOf h v:=by
 obtain ⟨a,o,xs,n,rfl,ho,hc,hd,hi,hz⟩:=x;refine ⟨⟨a,o,xs,n,rfl,k _ _ hc ho,hc,hd,hi,hz⟩,?_⟩;unfold keyOf;simp only [ho,k _ _ hc ho]
theorem TupI.key {h:gy} {a:av} {o:Obj} {xs:Array ar} {n:Nat} (ho:h.get? a=some o) (hd:o.data=.seq xs n):keyOf h (.ref a)=xs.toList.map numOf:=by
 unfold keyOf;simp only [ho,hd]
section
variable {prog:eo} {w:iD} {A:fb} {E:ar->ay->Prop} {s:ay}
theorem sC {Q:Bool->ay->Prop}:∀ (xs ys:List ar) (i:Nat),(∀ u∈xs,∃ k t,u=qz k t)->(∀ u∈ys,∃ k t,u=qz k t)->Q (lexLt (xs.map numOf) (ys.map numOf)) s->KatLex prog w A true (decide (xs.length<ys.length)) Q (xs.zip ys) i s
 | [],[],i,_,_,h=>by exact h
 | [],_::_,i,_,_,h=>by exact h
 | _::_,[],i,_,_,h=>by exact h
 | x::xs,y::ys,i,hx,hy,h=>by
  obtain ⟨a,t,rfl⟩:=hx x (eQ ..);obtain ⟨b,u,rfl⟩:=hy y (eQ ..);rw [CQ,show decide ((qz a t::xs).length<(qz b u::ys).length)=decide (xs.length<ys.length) by simp];refine kat_cons (DC ?_);have h:Q (if a=b then lexLt (xs.map numOf) (ys.map numOf) else decide (a<b)) s:=h;by_cases e:a=b
  ·rw [if_pos e] at h
   rw [beq_iff_eq.mpr e];exact kat_yes (sC xs ys (i+1) (λ u hu=>hx u (dj _ hu)) (λ u hu=>hy u (dj _ hu)) h)
  ·rw [if_neg e] at h
   rw [beq_eq_false_iff_ne.mpr e];refine kat_no ?_;rw [Bool.true_and]
   cases i == 0 with
   | true=>exact oneLt_int h
   | false=>exact kat_one _ _ (FZ h)
theorem kDM:vV (model prog w) A E s (lbT s.heap) (λ x=>TupI s.heap x.1) (tuples' true):=by
 intro x y hx hy st Q hk q;obtain ⟨a,oa,xs,n,ea,ha,ca,da,ia,za⟩:=hx;obtain ⟨b,ob,ys,m,eb,hb,cb,db,ib,zb⟩:=hy;rw [lt'_eq];refine ck (xp ?_);rw [hk]
 have q:Q (some (lexLt (xs.toList.map numOf) (ys.toList.map numOf))) st:=by
  have:lbT s.heap x y=lexLt (xs.toList.map numOf) (ys.toList.map numOf):=by
   unfold lbT;rw [ea,eb,TupI.key ha da,TupI.key hb db]
  rw [<-this];exact q
 rw [ea,eb];refine ck (FX (BB (kat_lt ha da hb db ?_)))
 have:=sC (prog:=prog) (w:=w) (A:=A) (s:=s) (Q:=λ b s'=>s'=s/\wpS (model prog w) A E s (match (Except.ok b:Except ar Bool) with
  | .ok b=>pure (some b)
  | .error e=>do
   modify (λ s=>BS (kindOf s) (cz s) (cx s) (gallopOf s) (some e))
   pure none) Q st) xs.toList ys.toList 0 ia ib ⟨rfl,df q⟩
 simpa using this
theorem kDN:vV (model prog w) A E s lbI (λ x=>∃ k t,x.1=.int k t) oneType':=by
 intro x y hx hy st Q hk q;obtain ⟨a,t,ea⟩:=hx;obtain ⟨b,u,eb⟩:=hy;rw [lt'_eq];refine ck (xp ?_);rw [hk,ea,eb];unfold lbI at q;rw [ea,eb] at q;exact ck (FX (BB (kat_lt_int ⟨rfl,df q⟩)))
end
end Srt
namespace Fc
open Cyc Tri Rnd
section
variable {α:Type} {le:α->α->Bool}
theorem uA (anti:∀ a b,le a b=true->le b a=true->a=b):∀ {l m:List α},l.Perm m->l.Pairwise (λ a b=>le a b=true)->m.Pairwise (λ a b=>le a b=true)->l=m
 | [],m,p,_,_=>(List.nil_perm.mp p).symm
 | a::l,m,p,hl,hm=>by
  match m,p,hm with
  | [],p,_=>exact absurd p.length_eq (by simp)
  | b::m,p,hm =>
   have hl':=Ae.mp hl;have hm':=Ae.mp hm
   have e:a=b:=by
    rcases du.mp (p.mem_iff.mp (eQ ..)) with z | z
    ·exact z
    ·rcases du.mp (p.mem_iff.mpr (eQ ..)) with y | y
     ·exact y.symm
     ·exact anti a b (hl'.1 b y) (hm'.1 a z)
   subst e;rw [uA anti (List.Perm.cons_inv p) hl'.2 hm'.2]
theorem kBC (tr:∀ a b c,le a b=true->le b c=true->le a c=true) (tot:∀ a b,(le a b || le b a)=true) (anti:∀ a b,le a b=true->le b a=true->a=b) {l m:List α} (p:l.Perm m) (h:l.Pairwise (λ a b=>le a b=true)):l=m.mergeSort le :=
 uA anti (p.trans (AD m le).symm) h (yc tr tot m)
end
def leP (a b:Nat×Nat):Bool:=decide (a.1<b.1\/a.1=b.1/\a.2<=b.2)
theorem leP_iff {a b:Nat×Nat}:leP a b=true↔a.1<b.1\/a.1=b.1/\a.2<=b.2:=decide_eq_true_iff
def sortP (T:List (Nat×Nat)):List (Nat×Nat):=T.mergeSort leP
theorem sortP_is {l m:List (Nat×Nat)} (p:l.Perm m) (h:l.Pairwise (λ a b=>leP a b=true)):l=sortP m :=
 kBC (λ a b c h k=>by rw [leP_iff] at *;omega) (λ a b=>by
  rw [zr,leP_iff,leP_iff];omega) (λ a b h k=>by
  rw [leP_iff] at h k;exact qk (by omega) (by omega)) p h
theorem sortP_perm (T:List (Nat×Nat)):(sortP T).Perm T:=AD T leP
theorem nZ (T:List (Nat×Nat)):(sortP T).Pairwise (λ a b=>leP a b=true):=yc (λ a b c h k=>by rw [leP_iff] at *;omega) (λ a b=>by
  rw [zr,leP_iff,leP_iff];omega) T
def zl (l:List Nat):List Int:=l.map λ n:Nat=>(n:Int)
theorem zl_inj:∀ {a b:List Nat},zl a=zl b->a=b
 | [],[],_=>rfl
 | [],_::_,h=>nomatch h
 | _::_,[],h=>nomatch h
 | a::l,b::m,h=>by
  unfold zl at h;rw [ft,ft] at h;injection h with h1 h2
  rw [zl_inj (a:=l) (b:=m) h2,show a=b by omega]
def leL (a b:List Nat):Bool:=!Srt.lexLt (zl b) (zl a)
theorem leL_iff {a b:List Nat}:leL a b=true↔Srt.lexLt (zl b) (zl a)=false:=by
 unfold leL
 cases Srt.lexLt (zl b) (zl a)<;>simp
def sortL (T:List (List Nat)):List (List Nat):=T.mergeSort leL
theorem kGS (a b c:List Nat) (h:leL a b=true) (k:leL b c=true):leL a c=true:=by
 rw [leL_iff] at *
 cases e:Srt.lexLt (zl c) (zl a) with
 | false=>rfl
 | true =>
  rcases Srt.lex_neg _ (zl b) _ e with z | z
  ·rw [k] at z;cases z
  ·rw [h] at z;cases z
theorem kBN (a b:List Nat):(leL a b || leL b a)=true:=by
 rw [zr,leL_iff,leL_iff]
 cases e:Srt.lexLt (zl b) (zl a) with
 | false=>exact .inl rfl
 | true =>
  right
  cases f:Srt.lexLt (zl a) (zl b) with
  | false=>rfl
  | true =>
   have:=Srt.lex_tr _ _ _ e f;rw [Srt.lex_irr] at this;cases this
theorem kGT (a b:List Nat) (h:leL a b=true) (k:leL b a=true):a=b:=by
 rw [leL_iff] at h k;exact zl_inj (Srt.lex_tot _ _ k h)
theorem sortL_is {l m:List (List Nat)} (p:l.Perm m) (h:l.Pairwise (λ a b=>leL a b=true)):l=sortL m:=kBC kGS kBN kGT p h
theorem sortL_perm (T:List (List Nat)):(sortL T).Perm T:=AD T leL
theorem sortL_sorted (T:List (List Nat)):(sortL T).Pairwise (λ a b=>leL a b=true):=yc kGS kBN T
theorem leP_leL (a b:Nat×Nat):leL [a.1,a.2] [b.1,b.2]=leP a b:=by
 rw [gx,leL_iff,leP_iff];show Srt.lexLt [(b.1:Int),(b.2:Int)] [(a.1:Int),(a.2:Int)]=false↔_;unfold Srt.lexLt;by_cases e:(b.1:Int)=a.1
 ·rw [if_pos e]
  unfold Srt.lexLt;by_cases f:(b.2:Int)=a.2
  ·rw [if_pos f]
   exact ⟨λ _=>by omega,λ _=>rfl⟩
  ·rw [if_neg f]
   rw [decide_eq_false_iff_not];omega
 ·rw [if_neg e]
  rw [decide_eq_false_iff_not];omega
open Classical in
noncomputable def per (W:Rows) (t:Nat×Nat):Nat:=if h:∃ k,0<k/\it (nxt W) k t=t/\∀ j,0<j->j<k->it (nxt W) j t≠t then uk h else 0
theorem per_is {W:Rows} {t:Nat×Nat} {k:Nat} (h0:0<k) (h1:it (nxt W) k t=t) (h2:∀ j,0<j->j<k->it (nxt W) j t≠t):per W t=k:=by
 have ex:∃ k,0<k/\it (nxt W) k t=t/\∀ j,0<j->j<k->it (nxt W) j t≠t:=⟨k,h0,h1,h2⟩;unfold per;rw [dif_pos ex];obtain ⟨a,b,c⟩:=nh ex;generalize uk ex=m at *;rcases yk m k with l | l | l
 ·exact absurd b (h2 m a l)
 ·exact l
 ·exact absurd h1 (c k h0 l)
noncomputable def rnd (W:Rows) (t:Nat×Nat):List (Nat×Nat):=(cu (per W t)).map λ i=>it (nxt W) i t
noncomputable def fstep (W:Rows) (st:List (List Nat)×List (Nat×Nat)) (t:Nat×Nat):List (List Nat)×List (Nat×Nat) :=
 if t∈st.2 then st else (st.1++[(rnd W t).map (·.1)],st.2++rnd W t)
noncomputable def fgo (W:Rows) (S:List (Nat×Nat)):List (List Nat)×List (Nat×Nat):=S.foldl (fstep W) ([],[])
theorem fgo_snoc (W:Rows) (S:List (Nat×Nat)) (t:Nat×Nat):fgo W (S++[t])=fstep W (fgo W S) t:=by
 unfold fgo;rw [Ct]
 rfl
def stepsS (W:Rows):List (Nat×Nat):=sortP (kP W)
def tiesS (W:Rows):List (Nat×Nat):=(stepsS W).filter λ t=>decide (t.1<t.2)
noncomputable def facesU (W:Rows):List (List Nat):=(fgo W (stepsS W)).1
noncomputable def facesS (W:Rows):List (List Nat):=sortL (facesU W)
theorem mem_stepsS {W:Rows} {t:Nat×Nat}:t∈stepsS W↔E W t.1 t.2:=by
 unfold stepsS;rw [(sortP_perm _).mem_iff];exact mem_steps
section
variable {W:Rows} (S:Nb W)
theorem oW (S:Nb W):Rnd.Perm (nxt W) (kP W):=gQ S.nd S.sym
theorem gK (S:Nb W) {t:Nat×Nat} (h:t∈kP W):0<per W t/\per W t<=(kP W).length/\it (nxt W) (per W t) t=t/\∀ j,0<j->j<per W t->it (nxt W) j t≠t:=by
 obtain ⟨k,h1,h2,h3,h4⟩:=(oW S).comes h;have e:=per_is h1 h3 h4;rw [e];exact ⟨h1,h2,h3,h4⟩
theorem kCX (S:Nb W) {t:Nat×Nat} (h:t∈kP W):(rnd W t).Nodup:=(oW S).round_nodup h (gK S h).2.2.2
theorem rnd_len (W:Rows) (t:Nat×Nat):(rnd W t).length=per W t:=by unfold rnd;simp
theorem rnd_sub (S:Nb W) {t u:Nat×Nat} (h:t∈kP W) (hu:u∈rnd W t):u∈kP W:=by
 unfold rnd at hu;obtain ⟨i,_,rfl⟩:=iO.mp hu;exact (oW S).it i h
theorem uN (S:Nb W) {t u:Nat×Nat} (h:t∈kP W):u∈rnd W t↔∃ j,it (nxt W) j t=u:=by
 obtain ⟨p0,_,back,_⟩:=gK S h;unfold rnd;rw [iO];constructor
 ·rintro ⟨i,_,e⟩
  exact ⟨i,e⟩
 ·rintro ⟨j,e⟩
  refine ⟨j % per W t,gw.mpr (Nat.mod_lt _ p0),?_⟩;rw [<-kAN _ _ back];exact e
theorem rnd_self (S:Nb W) {t:Nat×Nat} (h:t∈kP W):t∈rnd W t:=(uN S h).mpr ⟨0,rfl⟩
theorem rJ (S:Nb W) {t u:Nat×Nat} (h:t∈kP W) (hu:u∈rnd W t):nxt W u∈rnd W t:=by
 obtain ⟨j,rfl⟩:=(uN S h).mp hu;exact (uN S h).mpr ⟨j+1,rfl⟩
structure FI (W:Rows) (T:List (Nat×Nat)) (st:List (List Nat)×List (Nat×Nat)):Prop where
 reps:∃ R:List (Nat×Nat),(∀ r∈R,r∈T)/\st.1=R.map (λ r=>(rnd W r).map (·.1))/\st.2=R.flatMap (rnd W)
 nd:st.2.Nodup
 sub:∀ t∈st.2,t∈kP W
 cl:∀ t∈st.2,nxt W t∈st.2
 cov:∀ t∈T,t∈st.2
theorem FI.start (W:Rows):FI W [] ([],[]):=⟨⟨[],by simp,rfl,rfl⟩,yt,by simp,by simp,by simp⟩
theorem FI.it {T:List (Nat×Nat)} {st:List (List Nat)×List (Nat×Nat)} (h:FI W T st) {t:Nat×Nat} (ht:t∈st.2) (j:Nat):it (nxt W) j t∈st.2:=by
 induction j with
 | zero=>exact ht
 | succ j ih=>exact h.cl _ ih
theorem FI.step (S:Nb W) {T:List (Nat×Nat)} {st:List (List Nat)×List (Nat×Nat)} (h:FI W T st) {t:Nat×Nat} (ht:t∈kP W):FI W (T++[t]) (fstep W st t):=by
 unfold fstep;obtain ⟨R,r1,r2,r3⟩:=h.reps
 split
 ·rename_i c
  refine ⟨⟨R,λ r hr=>az _ (r1 r hr),r2,r3⟩,h.nd,h.sub,h.cl,λ u hu=>?_⟩;rcases bz.mp hu with z | z
  ·exact h.cov u z
  ·rw [cy.mp z]
   exact c
 ·rename_i c
  have dis:∀ a∈st.2,∀ b∈rnd W t,a≠b:=λ a ha b hb e=>by
   subst e;obtain ⟨j,rfl⟩:=(uN S ht).mp hb;obtain ⟨p0,_,back,_⟩:=gK S ht
   have:Rnd.it (nxt W) (per W t*(j+1)-j) (Rnd.it (nxt W) j t)=t:=by
    have le:j<=per W t*(j+1):=iA (zh j) (BU _ p0);rw [<-uC,CT le,kAN _ _ back,Cu]
    rfl
   rw [<-this] at c;exact c (h.it ha _)
  refine ⟨⟨R++[t],λ r hr=>?_,by rw [eI,r2];rfl,by rw [wx,r3,va]⟩,?_,λ u hu=>?_,λ u hu=>?_,λ u hu=>?_⟩
  ·rcases bz.mp hr with z | z
   ·exact az _ (r1 r z)
   ·exact bu _ z
  ·exact be.mpr ⟨h.nd,kCX S ht,dis⟩
  ·rcases bz.mp hu with z | z
   ·exact h.sub u z
   ·exact rnd_sub S ht z
  ·rcases bz.mp hu with z | z
   ·exact az _ (h.cl u z)
   ·exact bu _ (rJ S ht z)
  ·rcases bz.mp hu with z | z
   ·exact az _ (h.cov u z)
   ·rw [cy.mp z]
    exact bu _ (rnd_self S ht)
theorem fgo_ok (S:Nb W):∀ (T:List (Nat×Nat)),(∀ t∈T,t∈kP W)->FI W T (fgo W T):=by
 intro T
 have:∀ (n:Nat),n<=T.length->(∀ t∈T,t∈kP W)->FI W (T.take n) (fgo W (T.take n)):=λ n=>by
  induction n with
  | zero=>intro _ _;rw [yo];exact FI.start W
  | succ n ih =>
   intro hn hT;have h:=ih (by omega) hT;have e:T.take (n+1)=T.take n++[T[n]]:=by rw [ig,aa (by omega)];rfl
   rw [e,fgo_snoc];exact h.step S (hT _ (gk _))
 intro hT;have:=this T.length (bq _) hT;rwa [ji] at this
theorem FI.len {T:List (Nat×Nat)} {st:List (List Nat)×List (Nat×Nat)} (h:FI W T st):st.2.length<=(kP W).length:=de h.nd h.sub
end
theorem kHK {α:Type} (l:List α) (p:α->Bool):(l.filter p).length+(l.filter λ x=>!p x).length=l.length:=by
 induction l with
 | nil=>rfl
 | cons x l ih =>
  rw [tz,tz,eX]
  cases p x<;>simp<;>omega
section
variable {W:Rows}
theorem kGJ (S:Nb W) {t:Nat×Nat} (h:t∈kP W):nxt W t≠t:=λ e=>by
 have a:=S.e (mem_steps.mp (show (t.1,t.2)∈kP W from h));have:(nxt W t).1=t.2:=rfl;rw [e] at this;exact a.2.2 this.symm
theorem kLZ (S:Nb W):(stepsS W).Nodup:=(sortP_perm _).nodup_iff.mpr (dQ S.nd)
theorem ties_len (S:Nb W):2*(tiesS W).length=(kP W).length:=by
 have nd:=kLZ S;have l:(stepsS W).length=(kP W).length:=(sortP_perm _).length_eq;have tot:=kHK (stepsS W) λ t=>decide (t.1<t.2)
 have perm:(((stepsS W).filter λ t=>!decide (t.1<t.2)).map λ t=>(t.2,t.1)).Perm ((stepsS W).filter λ t=>decide (t.1<t.2)):=by
  refine (mo ?_ (nd.filter _)).mpr λ t=>?_
  ·exact ke.mpr ((nd.filter _).imp λ {a b} h e=>h (by
    injection e with e1 e2
    exact qk e2 e1))
  ·constructor
   ·intro h
    obtain ⟨u,hu,rfl⟩:=iO.mp h;obtain ⟨a,b⟩:=fj.mp hu;have e:=mem_stepsS.mp a;have ne:=(S.e e).2.2;refine fj.mpr ⟨mem_stepsS.mpr (S.sym _ _ e),?_⟩;have b:¬ u.1<u.2:=by simpa using b
    exact decide_eq_true (show u.2<u.1 by omega)
   ·intro h
    obtain ⟨a,b⟩:=fj.mp h;have b:=of_decide_eq_true b;refine iO.mpr ⟨(t.2,t.1),fj.mpr ⟨mem_stepsS.mpr (S.sym _ _ (mem_stepsS.mp a)),?_⟩,rfl⟩;have:¬ t.2<t.1:=by omega
    simpa using this
 have e:=perm.length_eq;rw [ao] at e;unfold tiesS;omega
theorem lU (S:Nb W):(fgo W (stepsS W)).2.Perm (kP W):=by
 have fi:=fgo_ok S (stepsS W) λ t h=>(sortP_perm _).mem_iff.mp h;exact (mo fi.nd (dQ S.nd)).mpr λ t=>⟨fi.sub t,λ h=>fi.cov t ((sortP_perm _).mem_iff.mpr h)⟩
theorem kEF (S:Nb W):((facesU W).map fz).sum=(kP W).length:=by
 have fi:=fgo_ok S (stepsS W) λ t h=>(sortP_perm _).mem_iff.mp h;obtain ⟨R,_,r2,r3⟩:=fi.reps;have e:=(lU S).length_eq;unfold facesU;rw [r2,<-e,r3,By,As]
 congr 1
 refine AE λ r _=>?_;show ((rnd W r).map _).length=_;rw [ao]
theorem kMN (S:Nb W):(∀ f∈facesS W,f.length=3)↔∀ t∈kP W,(nxt W (nxt W t)).2=t.1:=by
 have fi:=fgo_ok S (stepsS W) λ t h=>(sortP_perm _).mem_iff.mp h;obtain ⟨R,r1,r2,r3⟩:=fi.reps
 have memF:∀ f,f∈facesS W↔∃ r∈R,f=(rnd W r).map (·.1):=λ f=>by
  unfold facesS;rw [(sortL_perm _).mem_iff];unfold facesU;rw [r2,iO];exact ⟨λ ⟨r,a,b⟩=>⟨r,a,b.symm⟩,λ ⟨r,a,b⟩=>⟨r,a,b.symm⟩⟩
 have rs:∀ r∈R,r∈kP W:=λ r hr=>(sortP_perm _).mem_iff.mp (r1 r hr);constructor
 ·intro h t ht
  have hm:=(lU S).mem_iff.mpr ht;rw [r3,yw] at hm;obtain ⟨r,hr,htr⟩:=hm;have l3:=h _ ((memF _).mpr ⟨r,hr,rfl⟩);rw [ao,rnd_len] at l3;obtain ⟨j,rfl⟩:=(uN S (rs r hr)).mp htr;have back:=(gK S (rs r hr)).2.2.1;rw [l3] at back
  have e:nxt W (nxt W (nxt W (it (nxt W) j r)))=it (nxt W) j r:=by
   show it (nxt W) 3 (it (nxt W) j r)=_;rw [<-uC,FE,uC,back]
  have e1:(nxt W (nxt W (nxt W (it (nxt W) j r)))).1=(nxt W (nxt W (it (nxt W) j r))).2:=rfl;rw [e] at e1;exact e1.symm
 ·intro h f hf
  obtain ⟨r,hr,rfl⟩:=(memF f).mp hf;have hs:=rs r hr;rw [ao,rnd_len];have to:=(oW S).to
  have three:it (nxt W) 3 r=r:=by
   show nxt W (nxt W (nxt W r))=r;have a:=h r hs;have b:=h _ (to r hs);have e1:(nxt W (nxt W (nxt W r))).1=r.1:=a;have e2:(nxt W (nxt W (nxt W r))).2=r.2:=b;exact qk e1 e2
  refine per_is (by decide) three λ j j0 j3=>?_;have:j=1\/j=2:=by omega
  rcases this with rfl | rfl
  ·exact kGJ S hs
  ·intro e
   have e:nxt W (nxt W r)=r:=e;have three:nxt W (nxt W (nxt W r))=r:=three;rw [e] at three;exact kGJ S hs three
theorem three_cornered (S:Nb W):(W.length+(facesS W).length=(tiesS W).length+2/\∀ f∈facesS W,f.length=3)↔((∀ t∈kP W,(nxt W (nxt W t)).2=t.1)/\(kP W).length+12=6*W.length):=by
 rw [<-kMN S];have tl:=ties_len S;have fs:=kEF S;have fl:(facesS W).length=(facesU W).length:=(sortL_perm _).length_eq
 have key:(∀ f∈facesS W,f.length=3)->3*(facesS W).length=(kP W).length:=λ h=>by
  have h':∀ f∈facesU W,f.length=3:=λ f hf=>h f ((sortL_perm _).mem_iff.mpr hf);rw [fl,<-fs];generalize facesU W=F at h';clear h fs fl
  induction F with
  | nil=>rfl
  | cons f F ih =>
   rw [ft,Az,eX,<-ih λ g hg=>h' g (dj _ hg),h' f (eQ ..)];omega
 constructor
 ·rintro ⟨a,b⟩
  have:=key b;exact ⟨b,by omega⟩
 ·rintro ⟨b,a⟩
  have:=key b;exact ⟨by omega,b⟩
end
end Fc
namespace Tri
open Cyc
theorem mK (w:Nat):∀ (D:List Nat) (L:Rows) (x y:Nat),zP w L (D++[x,y])=(zP w L (D++[x])).set x (vU ((zP w L (D++[x])).getD x []) y w)
 | [],L,x,y=>rfl
 | [z],L,x,y=>rfl
 | z::z'::r,L,x,y=>mK w (z'::r) (L.set z (vU (L.getD z []) z' w)) x y
theorem kDC (w:Nat) (L:Rows) (P:List Nat) (k x y:Nat) (hx:P[k]?=some x) (hy:P[k+1]?=some y) :
  zP w L (P.take (k+2))=(zP w L (P.take (k+1))).set x (vU ((zP w L (P.take (k+1))).getD x []) y w):=by
 have e1:P.take (k+1)=P.take k++[x]:=by rw [ig,hx];rfl
 have e2:P.take (k+2)=P.take k++[x,y]:=by rw [ig,hy,e1];simp
 rw [e1,e2];exact mK w _ L x y
theorem dU {L:Rows} {O:List Nat} (G:Half L O) {p:Nat} {row:List Nat} (h:L[p]?=some row):row.length<=6*L.length:=by
 have q:=aZ L p row [] h;have t:=G.tot;simp only [ir] at q;omega
theorem kLL {L:Rows} {B M C:List Nat} {f l:Nat} (G:Half L (B++(f::M++[l])++C)) {i x y:Nat} (hx:(f::M++[l])[i]?=some x) (hy:(f::M++[l])[i+1]?=some y) :
  ∃ row,L[x]?=some row/\y∈row/\row.length<=6*L.length/\(zP L.length L ((f::M++[l]).take (i+1)))[x]?=some row:=by
 have pnd:(f::M++[l]).Nodup:=(be.mp (be.mp G.ond).1).2.1;have hO:∀ z,z∈f::M++[l]->z∈B++(f::M++[l])++C:=λ z hz=>az _ (bu _ hz);generalize hP:f::M++[l]=P at *;have e1:P.take (i+1)=P.take i++[x]:=by rw [ig,hx];rfl
 have eP:P=P.take i++x::y::P.drop (i+2):=by
  have hi:i<P.length:=(aq.mp hx).1;have hj:i+1<P.length:=(aq.mp hy).1
  have z:P.drop i=x::y::P.drop (i+2):=by
   rw [md hi,md hj];rw [aa hi] at hx;rw [aa hj] at hy
   cases hx;cases hy;rfl
  rw [<-z,eW]
 have ad:Adj P x y:=by rw [eP,qY];exact .inr (.inl ⟨rfl,rfl⟩)
 have nx:Nx (B++P++C) x y:=by rw [<-hP] at ad ⊢;exact (nxO x y).mpr (.inl ad)
 have xP:x∈P:=eg hx;obtain ⟨z,nz⟩:=mN (hO x xP);obtain ⟨row,e,n⟩:=G.out x y z nx nz;refine ⟨row,e,(qC n).1,dU G e,?_⟩;have tnd:(P.take (i+1)).Nodup:=pnd.sublist (Ci _ _);obtain ⟨_,_,h3,_⟩:=bH L.length (P.take (i+1)) L tnd (λ z hz=>G.orng z (hO z (rj hz)));rw [h3 x (λ y' h=>?_),e];rw [e1] at h tnd;exact jP (λ z=>(be.mp tnd).2.2 x z x (by simp) rfl) h rfl
end Tri
namespace Tri
open Cyc Rnd
structure Lay (L:Rows) (Os Ps:List (List Nat)) (O:List Nat):Prop where
 two:2<=L.length
 lo:Os.length+1=L.length
 lp:Ps.length+2=L.length
 first:Os[0]?=some [0,1]
 last:Os[L.length-2]?=some O
 step:∀ i,i+2<L.length->∃ B f M l C,Os[i]?=some (B++(f::M++[l])++C)/\Ps[i]?=some (f::M++[l])/\Os[i+1]?=some (B++[f,i+2,l]++C)
 nb:∀ i P,Ps[i]?=some P->(∀ u∈P,u<i+2)/\∀ u,u<i+2->(E L (i+2) u↔u∈P)
 inn:∀ i P x y,Ps[i]?=some P->Adj P x y->R L y (i+2) x/\¬ Nx O y (i+2)
 ends:O.head?=some 0/\O.getLast?=some 1
 rd:∀ i Z,Os[i]?=some Z->Z.Nodup/\∀ x∈Z,x<i+2
theorem kDR:Lay [[1],[0]] [[0,1]] [] [0,1] :=
 ⟨by decide,rfl,rfl,rfl,rfl,(λ i h=>absurd h (by show ¬ i+2<2;omega)),(λ i P e=>by simp at e),(λ i P x y e=>by simp at e),⟨rfl,rfl⟩,λ i Z e=>by
  match i,e with
  | 0,e =>
   have e:[0,1]=Z:=bj e;subst e;exact ⟨by decide,by decide⟩⟩
section
variable {L L2:Rows} {Os Ps:List (List Nat)} {A M C:List Nat} {f l:Nat}
theorem kJM (H:Half L (A++(f::M++[l])++C)) (W:NewRows L L2 (A++(f::M++[l])++C) (f::M++[l]) L.length) (Y:Lay L Os Ps (A++(f::M++[l])++C)) :
  Lay (L2++[f::M++[l]]) (Os++[A++[f,L.length,l]++C]) (Ps++[f::M++[l]]) (A++[f,L.length,l]++C):=by
 have S:=bR H;have Pt:=S.put (pE H) (kGO H W);have two:=Y.two;have lo:=Y.lo;have lp:=Y.lp;have len:(L2++[f::M++[l]]).length=L.length+1:=by simp [W.len]
 have hlt:∀ x,x∈f::M++[l]->x<L.length:=λ x hx=>H.orng x (az _ (bu _ hx))
 have newE:∀ v u,v<L.length->(E (L2++[f::M++[l]]) v u↔E L v u\/(v∈f::M++[l]/\u=L.length)):=λ v u hv=>by
  have hv2:v<L2.length:=by rw [W.len];exact hv
  constructor
  ·rintro ⟨row,e,m⟩
   rw [bg hv2] at e;by_cases hq:v∈f::M++[l]
   ·obtain ⟨r0,row2,y,e',e2,ny,pm,hn⟩:=W.on v hq
    rw [e] at e2;cases e2
    rcases du.mp (pm.mem_iff.mp m) with z | z
    ·exact .inr ⟨hq,z⟩
    ·exact .inl ⟨r0,e',z⟩
   ·rw [W.off v hq] at e
    exact .inl ⟨row,e,m⟩
  ·rintro (h | ⟨hq,rfl⟩)
   ·exact kGP W v u h
   ·obtain ⟨r0,row2,y,e',e2,ny,pm,hn⟩:=W.on v hq
    exact ⟨row2,by rw [bg hv2];exact e2,pm.mem_iff.mpr (eQ ..)⟩
 refine ⟨by omega,by rw [cg,len];show Os.length+1+1=_;omega,by rw [cg,len];show Ps.length+1+2=_;omega,?_,?_,λ i hi=>?_,λ i P e=>?_,λ i P x y e ad=>?_,?_,λ i Z e=>?_⟩
 ·rw [bg (by omega)]
  exact Y.first
 ·rw [len,bb (by omega),show L.length+1-2-Os.length=0 by omega]
  rfl
 ·rw [len] at hi
  rcases fe (i+2) L.length with h | h
  ·obtain ⟨B,f',M',l',C',h1,h2,h3⟩:=Y.step i h
   exact ⟨B,f',M',l',C',by rw [bg (by omega)];exact h1,by rw [bg (by omega)];exact h2,by rw [bg (by omega)];exact h3⟩
  ·have ei:i=L.length-2:=by omega
   subst ei;refine ⟨A,f,M,l,C,?_,?_,?_⟩
   ·rw [bg (by omega)]
    exact Y.last
   ·rw [bb (by omega),show L.length-2-Ps.length=0 by omega]
    rfl
   ·rw [bb (by omega),show L.length-2+1-Os.length=0 by omega,show L.length-2+2=L.length by omega]
    rfl
 ·rcases fe i Ps.length with h | h
  ·rw [bg h] at e
   obtain ⟨h1,h2⟩:=Y.nb i P e;refine ⟨h1,λ u hu=>?_⟩;rw [newE (i+2) u (by omega),<-h2 u hu];exact ⟨λ z=>z.resolve_right λ ⟨_,q⟩=>by omega,.inl⟩
  ·rw [bb h] at e
   have ei:i=Ps.length:=by
    have:=(aq.mp e).1;simp at this;omega
   subst ei;rw [uz] at e;have e:f::M++[l]=P:=bj e;subst e;refine ⟨λ u hu=>by have:=hlt u hu;omega,λ u hu=>?_⟩;rw [show Ps.length+2=L.length by omega];constructor
   ·rintro ⟨row,e,m⟩
    rw [bb (by rw [W.len];exact bq _),W.len,uz] at e;have e:f::M++[l]=row:=bj e;rw [e];exact m
   ·intro m
    exact ⟨_,by rw [bb (by rw [W.len];exact bq _),W.len,uz];rfl,m⟩
 ·rcases fe i Ps.length with h | h
  ·rw [bg h] at e
   obtain ⟨r,n⟩:=Y.inn i P x y e ad;have rf:=pE H _ _ _ r;refine ⟨(Pt.r' _ _ _).mpr (.inr (.inr (.inr ⟨r,λ z=>n z.2⟩))),λ z=>?_⟩;rcases (Pt.n' _ _).mp z with ⟨_,q⟩ | ⟨q,_⟩ | ⟨q,_⟩
   ·exact rf.2.1 q
   ·exact rf.1 q
   ·exact n q
  ·rw [bb h] at e
   have ei:i=Ps.length:=by
    have:=(aq.mp e).1;simp at this;omega
   subst ei;rw [uz] at e;have e:f::M++[l]=P:=bj e;subst e;rw [show Ps.length+2=L.length by omega];obtain ⟨k1,k2,k3,k4⟩:=S.kk ad;have nx:Nx (A++(f::M++[l])++C) x y:=(nxO x y).mpr (.inl ad);refine ⟨(Pt.r' _ _ _).mpr (.inr (.inr (.inl ⟨k2,rfl,nx⟩))),λ z=>?_⟩;rcases (Pt.n' _ _).mp z with ⟨q,_⟩ | ⟨q,_⟩ | ⟨q,_⟩
   ·exact k4 q
   ·have:=hlt y k2
    omega
   ·exact (Pt.nf _ _ q).2 rfl
 ·obtain ⟨h0,h1⟩:=Y.ends
  refine ⟨?_,?_⟩
  ·cases A with
   | nil=>simpa using h0
   | cons a A=>simpa using h0
  ·rw [eY,eY] at h1 ⊢
   have e:(f::M++[l]).getLast?=some l:=by rw [eY];rfl
   rw [e] at h1;exact h1
 ·rcases fe i Os.length with h | h
  ·rw [bg h] at e
   exact Y.rd i Z e
  ·have ei:i=Os.length:=by
    have:=(aq.mp e).1;simp at this;omega
   subst ei;rw [bb h,uz] at e;have e:A++[f,L.length,l]++C=Z:=bj e;subst e;have Hn:=rL H W;refine ⟨Hn.ond,λ x hx=>?_⟩;have:=Hn.orng x hx;rw [len] at this;omega
end
def stF (W:Rows) (top ahead:List Nat) (place:Nat):Option (List Nat) :=
 let below:=ahead.filter λ q=>decide (q∈W.getD place [])
 let st:=top.filter λ q=>decide (q∈below)
 if st.length<2\/st.length≠below.length then none
 else if (top.drop (top.idxOf (st.headD 0))).take st.length≠st then none
 else if (st.zip st.tail).all (λ t=>decide ((nxt W t).2=place))=true then some st else none
def poF (top st:List Nat) (place:Nat):List Nat:=top.take (top.idxOf (st.headD 0)+1)++place::top.drop (top.idxOf (st.getLastD 0))
def goF (W:Rows) (thing:List Nat):Nat->Option (List (List Nat)×List (List Nat))
 | 0=>some ([],[thing.take 2])
 | i+1=>match goF W thing i with
  | none=>none
  | some (found,tops)=>match stF W (tops.getLastD []) (thing.take (i+2)) (thing.getD (i+2) 0) with
   | none=>none
   | some st=>some (found++[st],tops++[poF (tops.getLastD []) st (thing.getD (i+2) 0)])
theorem uH:∀ {l:List Nat} {a b:Nat},(a,b)∈l.zip l.tail->Adj l a b
 | [],_,_,h=>by simp at h
 | [x],_,_,h=>by simp at h
 | x::y::l,a,b,h=>by
  rw [Bo,CQ] at h;rcases du.mp h with e | e
  ·injection e with e1 e2
   exact (uQ x y l a b).mpr (.inl ⟨e1,e2⟩)
  ·exact (uQ x y l a b).mpr (.inr (uH (l:=y::l) e))
theorem fM {m:Nat->Nat}:∀ {B:List Nat} {x:Nat} {C:List Nat},(∀ b∈B,m b≠m x)->((B++x::C).map m).idxOf (m x)=B.length
 | [],x,C,_=>by simp
 | b::B,x,C,h=>by
  have:=fM (B:=B) (x:=x) (C:=C) λ b hb=>h b (dj _ hb);rw [iC,ft,List.idxOf_cons,this,eX];have:(m b == m x)=false:=beq_eq_false_iff_ne.mpr (h b (eQ ..));rw [this]
  rfl
theorem gR {W:Rows} (nd:∀ (p:Nat) (row:List Nat),W[p]?=some row->row.Nodup) {x y v:Nat} (h:R W y v x):(nxt W (x,y)).2=v:=by
 obtain ⟨row,e,n⟩:=h;unfold nxt;show (xV (W.getD y []) x).getD 0=v;rw [ai,e];show (xV row x).getD 0=v;rw [oI (nd y row e) n]
 rfl
section
variable {W:Rows} {ms:List Nat} {n:Nat}
theorem kIH (nd:∀ (p:Nat) (row:List Nat),W[p]?=some row->row.Nodup) (msn:ms.Nodup) (lm:ms.length=n) {i:Nat} (hi:i+2<n) {B M C:List Nat} {f l:Nat} (rng:∀ x∈B++(f::M++[l])++C,x<i+2) (ond:(B++(f::M++[l])++C).Nodup)
  (nb:∀ u,u<i+2->(ms.getD u 0∈W.getD (ms.getD (i+2) 0) []↔u∈f::M++[l])) (inn:∀ x y,Adj (f::M++[l]) x y->R W (ms.getD y 0) (ms.getD (i+2) 0) (ms.getD x 0)) :
  stF W ((B++(f::M++[l])++C).map λ u=>ms.getD u 0) (ms.take (i+2)) (ms.getD (i+2) 0)=some ((f::M++[l]).map λ u=>ms.getD u 0) /\
  poF ((B++(f::M++[l])++C).map λ u=>ms.getD u 0) ((f::M++[l]).map λ u=>ms.getD u 0) (ms.getD (i+2) 0)=(B++[f,i+2,l]++C).map λ u=>ms.getD u 0:=by
 have inj:∀ u v,u<n->v<n->ms.getD u 0=ms.getD v 0->u=v:=λ u v hu hv e=>by
  rw [ai,ai,aa (by omega),aa (by omega)] at e;exact (sd msn).mp e
 have tk:ms.take (i+2)=(cu (i+2)).map λ u=>ms.getD u 0:=by
  refine Aq λ k=>?_;rw [List.getElem?_take,bh];by_cases c:k<i+2
  ·rw [if_pos c,CA c,aa (by omega)]
   simp [show k<ms.length by omega]
  ·rw [if_neg c,qv (by rw [fv];omega)]
   rfl
 have pn:(f::M++[l]).Nodup:=(be.mp (be.mp ond).1).2.1;have pr:∀ u∈f::M++[l],u<i+2:=λ u hu=>rng u (az _ (bu _ hu))
 have eb:(ms.take (i+2)).filter (λ q=>decide (q∈W.getD (ms.getD (i+2) 0) []))=((cu (i+2)).filter λ u=>decide (u∈f::M++[l])).map λ u=>ms.getD u 0:=by
  rw [tk,Dh]
  congr 1
  refine List.filter_congr λ u hu=>?_;have:=nb u (gw.mp hu);rw [gx,decide_eq_true_iff];exact (show decide _=true↔_ from decide_eq_true_iff).trans this
 have memb:∀ u,u<i+2->(ms.getD u 0∈((cu (i+2)).filter λ u=>decide (u∈f::M++[l])).map (λ u=>ms.getD u 0)↔u∈f::M++[l]):=λ u hu=>by
  rw [iO];constructor
  ·rintro ⟨v,hv,e⟩
   obtain ⟨a,b⟩:=fj.mp hv;have:=inj v u (by have:=gw.mp a;omega) (by omega) e;rw [<-this];exact of_decide_eq_true b
  ·intro h
   exact ⟨u,fj.mpr ⟨gw.mpr hu,decide_eq_true h⟩,rfl⟩
 have lb:((cu (i+2)).filter λ u=>decide (u∈f::M++[l])).length=(f::M++[l]).length:=by
  refine List.Perm.length_eq ((mo (si.filter _) pn).mpr λ u=>?_);rw [fj,gw,decide_eq_true_iff];exact ⟨λ h=>h.2,λ h=>⟨pr u h,h⟩⟩
 have filt:∀ Z:List Nat,(∀ z∈Z,z<i+2/\z∉f::M++[l])->(Z.map λ u=>ms.getD u 0).filter (λ q=>decide (q∈((cu (i+2)).filter λ u=>decide (u∈f::M++[l])).map λ u=>ms.getD u 0))=[]:=λ Z hZ=>by
  refine qb.mpr λ q hq=>?_;obtain ⟨z,hz,rfl⟩:=iO.mp hq;obtain ⟨h1,h2⟩:=hZ z hz;rw [decide_eq_true_iff,memb z h1];exact h2
 have dis:=be.mp ond;have dis1:=be.mp dis.1
 have es:((B++(f::M++[l])++C).map λ u=>ms.getD u 0).filter (λ q=>decide (q∈((cu (i+2)).filter λ u=>decide (u∈f::M++[l])).map λ u=>ms.getD u 0))=(f::M++[l]).map λ u=>ms.getD u 0:=by
  rw [eI,eI,jz,jz,filt B,filt C,jr,iN]
  ·refine AF.mpr λ q hq=>?_
   obtain ⟨z,hz,rfl⟩:=iO.mp hq;exact decide_eq_true ((memb z (pr z hz)).mpr hz)
  ·intro z hz
   refine ⟨rng z (bu _ hz),λ h=>dis.2.2 z (bu _ h) z hz rfl⟩
  ·intro z hz
   refine ⟨rng z (az _ (az _ hz)),λ h=>dis1.2.2 z hz z h rfl⟩
 have lP:(f::M++[l]).length=M.length+2:=by simp
 have iB:((B++(f::M++[l])++C).map λ u=>ms.getD u 0).idxOf (ms.getD f 0)=B.length:=by
  have:=fM (m:=λ u=>ms.getD u 0) (B:=B) (x:=f) (C:=M++[l]++C) λ b hb e=>by
   have h1:=rng b (az _ (az _ hb));have h2:=pr f (by simp);have:=inj b f (by omega) (by omega) e;exact dis1.2.2 b hb f (by simp) this
  simpa using this
 have iL:((B++(f::M++[l])++C).map λ u=>ms.getD u 0).idxOf (ms.getD l 0)=B.length+(M.length+1):=by
  have:=fM (m:=λ u=>ms.getD u 0) (B:=B++(f::M)) (x:=l) (C:=C) λ b hb e=>by
   have hb':b∈B++(f::M++[l])++C:=by
    refine az _ ?_;rcases bz.mp hb with z | z
    ·exact az _ z
    ·exact bu _ (az _ z)
   have h1:=rng b hb';have h2:=pr l (by simp);have q:=inj b l (by omega) (by omega) e;rcases bz.mp hb with z | z
   ·exact dis1.2.2 b z l (by simp) q
   ·exact (be.mp pn).2.2 b z l (by simp) q
  simpa using this
 refine ⟨?_,?_⟩
 ·unfold stF
  dsimp only;rw [eb,es,if_neg,if_neg,if_pos]
  ·rw [sh]
   rintro ⟨a,b⟩ hab;have ad:=uH hab;obtain ⟨x,y,hxy,rfl,rfl⟩:=(pR (λ u=>ms.getD u 0) _ _ _).mp ad;exact decide_eq_true (gR nd (inn x y hxy))
  ·intro h
   refine h ?_;rw [show ((f::M++[l]).map λ u=>ms.getD u 0).headD 0=ms.getD f 0 from rfl,iB,<-ua,cv,uf rfl,ao,<-ni,qt rfl]
  ·rw [ao,ao,lb,lP]
   omega
 ·unfold poF
  have gl:((f::M++[l]).map λ u=>ms.getD u 0).getLastD 0=ms.getD l 0:=by
   rw [eI,iG,eY]
   rfl
  rw [show ((f::M++[l]).map λ u=>ms.getD u 0).headD 0=ms.getD f 0 from rfl,gl,iB,iL,<-ni,<-ua]
  have e1:(B++(f::M++[l])++C).take (B.length+1)=B++[f]:=by
   rw [cv,DK,gn (by omega),show B.length+1-B.length=1 by omega]
   rfl
  have e2:(B++(f::M++[l])++C).drop (B.length+(M.length+1))=l::C:=by
   rw [cv,wo,jl (by omega),jr,show B.length+(M.length+1)-B.length=M.length+1 by omega,cv,uf (by simp)]
   rfl
  rw [e1,e2];simp
end
theorem kDS {α:Type} (l:List (List α)) {i:Nat} {x:List α} (h:l[i]?=some x):(l.take (i+1)).getLastD []=x:=by
 rw [ig,h,iG];simp
theorem kME {L W:Rows} {Os Ps:List (List Nat)} {O ms:List Nat} (Y:Lay L Os Ps O) (rn:Ren L W ms) (nd:∀ (p:Nat) (row:List Nat),W[p]?=some row->row.Nodup) (rng:∀ (p:Nat) (row:List Nat) (a:Nat),L[p]?=some row->a∈row->a<L.length):∀ i,i+2<=L.length ->
  goF W ms i=some ((Ps.take i).map (λ P=>P.map λ u=>ms.getD u 0),(Os.take (i+1)).map λ Z=>Z.map λ u=>ms.getD u 0):=by
 have lm:=rn.nlen;have msn:ms.Nodup:=rn.perm.nodup_iff.mpr si;intro i
 induction i with
 | zero =>
  intro h
  have e:Os.take 1=[[0,1]]:=by
   have:=Y.first
   match Os,this with
   | x::Os,h =>
    have:x=[0,1]:=by simpa using h
    rw [this]
    rfl
  unfold goF;rw [e]
  congr 1
  have tk:ms.take 2=[ms.getD 0 0,ms.getD 1 0]:=by
   match ms,lm with
   | a::b::ms,_=>rfl
   | [a],lm=>simp at lm;omega
   | [],lm=>simp at lm;omega
  rw [tk]
  rfl
 | succ i ih =>
  intro h;have h0:=ih (by omega);obtain ⟨B,f,M,l,C,s1,s2,s3⟩:=Y.step i (by omega);obtain ⟨rd1,rd2⟩:=Y.rd i _ s1;obtain ⟨nb1,nb2⟩:=Y.nb i _ s2;have hr:i+2<L.length:=by omega
  have nb:∀ u,u<i+2->(ms.getD u 0∈W.getD (ms.getD (i+2) 0) []↔u∈f::M++[l]):=λ u hu=>by
   rw [<-nb2 u hu];constructor
   ·intro m
    have e:E W (ms.getD (i+2) 0) (ms.getD u 0):=by
     rw [ai] at m
     cases e:W[ms.getD (i+2) 0]? with
     | none=>rw [e] at m;cases m
     | some row=>rw [e] at m;exact ⟨row,e,m⟩
    obtain ⟨x,y,exy,e1,e2⟩:=rn.e_of e;have:=exy;obtain ⟨row,er,mr⟩:=exy;have lx:=(aq.mp er).1;have hx:=rn.inj (p:=i+2) (q:=x) hr lx e1;have ly:y<L.length:=rng x row y er mr;have hy:=rn.inj (p:=u) (q:=y) (by omega) ly e2;rw [hx,hy];exact this
   ·intro e
    obtain ⟨row,er,m⟩:=rn.e_to e;rw [ai,er];exact m
  have inn:∀ x y,Adj (f::M++[l]) x y->R W (ms.getD y 0) (ms.getD (i+2) 0) (ms.getD x 0):=λ x y ad=>rn.r_to (Y.inn i _ x y s2 ad).1;obtain ⟨a1,a2⟩:=kIH (n:=L.length) nd msn lm hr rd2 rd1 nb inn;unfold goF;rw [h0];dsimp only
  have lt:((Os.take (i+1)).map λ Z=>Z.map λ u=>ms.getD u 0).getLastD []=(B++(f::M++[l])++C).map λ u=>ms.getD u 0:=by
   rw [ni];exact kDS _ (by rw [bh,s1];rfl)
  rw [lt,a1];dsimp only;rw [a2,ig (l:=Ps),s2,ig (l:=Os) (i:=i+1),s3];simp
end Tri
namespace Srt
set_option autoImplicit false
open PySem PySem.W PyProof.Rows
def kIA (lb:bp->bp->Bool) (l:List ar):Prop:=l.Pairwise λ u v=>le lb (u,u) (v,v)
theorem kLR {lb:bp->bp->Bool} {vs:List ar} {l:List bp} (p:l.Perm (vs.zip vs)) (sr:jD lb l):(l.map (·.2)).Perm vs/\kIA lb (l.map (·.2)):=by
 have same:∀ x∈l,x=(x.2,x.2):=λ x hx=>by
  have:=(mem_zip_self (p.mem_iff.mp hx)).1;obtain ⟨a,b⟩:=x;have:a=b:=this;rw [this]
 refine ⟨?_,?_⟩
 ·have:=p.map (λ x:bp=>x.2)
  rwa [show (vs.zip vs).map (λ x:bp=>x.2)=vs from BK (bq _)] at this
 ·refine ke.mpr (sr.imp_of_mem λ {x y} hx hy h=>?_)
  rw [<-same x hx,<-same y hy];exact h
section
variable {prog:eo} {w:iD} {A:fb} {E:ar->ay->Prop} {s:ay}
theorem kFL {lb:bp->bp->Bool} {D:bp->Prop} {kd:ko} (W:Wk lb) {a:av} {vs:List ar} {n:Nat} {P:ui->ay->Prop} (ho:s.heap.get? a=some (seqObj "list" vs.toArray n)) (hz:vs.length<=sizeLine)
  (hkk:2<=vs.length->∀ (h6:gy),(∀ b o,o.cls≠.type "list"->s.heap.get? b=some o->h6.get? b=some o)->∀ Q:ko->ay->Prop,Q kd { s with heap:=h6 }->eD (model prog w) A (keyKind' vs.toArray) Q E { s with heap:=h6 })
  (hL:∀ (h6:gy),(∀ b o,o.cls≠.type "list"->s.heap.get? b=some o->h6.get? b=some o)->vV (model prog w) A E { s with heap:=h6 } lb D kd) (dd:∀ v∈vs,D (v,v))
  (h:∀ out:List ar,out.Perm vs->kIA lb out->P (.done (.ret .none)) { s with heap:=sortedHeap s.heap a vs out.toArray }) :
  eD (model prog w) A (AK.«list.sort» ⟨[.ref a],[]⟩) P E s:=by
 rw [list_sort_plain];have ha:a<s.heap.objs.size:=cm ho;refine ae (Cv ho rfl (ae (BC ho rfl ?_ (by simpa using hz) (gm _))));obtain ⟨e1,ho1⟩ : ∃ e1,(s.heap.update a (ud λ _=>#[])).get? a=some (seqObj "list" #[] e1):=⟨_,zt ho (λ _=>#[])⟩;refine ae (DZ ho1 rfl (ae (ED (ae (CF (jw ?_) (gm _))) (by simpa using hz))));generalize eG:((s.heap.update a (ud λ _=>#[])).push (seqObj "tuple" vs.toArray 0)).push (seqObj "list" #[] 0)=G
 have hoG:G.get? a=some (seqObj "list" #[] e1):=by
  rw [<-eG];exact au _ (au _ ho1)
 have kG:∀ b o,o.cls≠.type "list"->s.heap.get? b=some o->G.get? b=some o:=λ b o hc e=>by
  have hb:b≠a:=λ q=>by
   subst q;rw [ho] at e;exact hc (by cases e;rfl)
  rw [<-eG];refine au _ (au _ ?_);rw [wy _ _ _ _ hb];exact e
 have heap:∀ out:List ar,sortedHeap s.heap a vs out.toArray=G.update a (ud λ _=>out.toArray):=λ out=>by rw [<-eG];rfl
 have eS:∀ X Y:Sem ui,X=Y->eD (model prog w) A X P E { s with heap:=G }->eD (model prog w) A Y P E { s with heap:=G }:=λ X Y e h=>e ▸ h
 have fin:∀ st':eF,sk st'=none->(cz st').toList.Perm (vs.zip vs)->jD lb (cz st').toList ->
   P (.done (.ret .none)) { s with heap:=G.update a (ud λ _=>(cz st').map (·.2)) }:=λ st' _ pm sr=>by
  have:=kLR pm sr;have q:=h _ this.1 this.2;rw [heap] at q;rw [show (cz st').map (·.2)=((cz st').toList.map (·.2)).toArray by rw [<-Array.toList_map]];exact q
 have szP:∀ {st':eF},(cz st').toList.Perm (vs.zip vs)->((cz st').map (·.2)).size<=sizeLine+1:=λ {st'} pm=>by
  have:=pm.length_eq;rw [Array.size_map];simp at this;omega
 dsimp only;by_cases h2:vs.toArray.size<2
 ·rw [if_pos h2,if_pos h2]
  refine ae (bx ?_);rw [StateT.run_pure];refine ae (bx ?_)
  have pm:(cz (BS general' (vs.toArray.zip vs.toArray) #[] 7 none)).toList.Perm (vs.zip vs):=by
   show (vs.toArray.zip vs.toArray).toList.Perm _;simp
  refine ae (DZ hoG rfl (ae (BC hoG rfl ?_ (gm _) (szP pm))));dsimp only;simp only [bne_self_eq_false,eC,if_false];refine bx (fin (BS general' (vs.toArray.zip vs.toArray) #[] 7 none) rfl pm ?_)
  have:(vs.zip vs).length<=1:=by
   simp at h2 ⊢;omega
  show jD lb (vs.toArray.zip vs.toArray).toList;rw [show (vs.toArray.zip vs.toArray).toList=vs.zip vs by simp];exact oH this
 ·rw [if_neg h2,if_neg h2]
  refine ae (hkk (by simp at h2;omega) G kG _ ?_)
  refine ae (xy (pS (s:={ s with heap:=G }) W (hL G kG) (st:=BS kd (vs.toArray.zip vs.toArray) #[] 7 none) rfl rfl rfl (λ x hx=>?_)
   (Q:=λ _ st'=>(cz st').toList.Perm (vs.zip vs)/\sk st'=none/\jD lb (cz st').toList) λ st' a1 a2 a3=>⟨?_,a2,a3⟩) ?_ λ _ _ e=>e)
  ·have hx:x∈(vs.toArray.zip vs.toArray).toList:=hx
   rw [show (vs.toArray.zip vs.toArray).toList=vs.zip vs by simp] at hx;obtain ⟨z1,z2⟩:=mem_zip_self hx;obtain ⟨u,v⟩:=x;have z1:u=v:=z1;subst z1;exact dd u z2
  ·refine a1.trans ?_
   show (vs.toArray.zip vs.toArray).toList.Perm _;simp
  ·rintro ⟨⟨⟩,st'⟩ s' ⟨rfl,pm,hf,sr⟩
   refine ae (DZ hoG rfl (ae (BC hoG rfl ?_ (gm _) (szP pm))));dsimp only;rw [hf];simp only [bne_self_eq_false,eC,if_false];exact bx (fin st' hf pm sr)
end
end Srt
namespace Srt
set_option autoImplicit false
open PySem PySem.W PyProof.Rows
section
variable {prog:eo} {w:iD} {A:fb} {E:ar->ay->Prop} {s:ay}
theorem kAU {l:av} {o:Obj} {vs:List ar} {n:Nat} {Q:List ar->ay->Prop} (ho:s.heap.get? l=some o) (hc:o.cls=.type "list"\/o.cls=.type "tuple") (hd:o.data=.seq vs.toArray n) (hz:vs.length<=sizeLine)
  (h:∀ h1:gy,h1.objs.size=s.heap.objs.size+1->(∀ b u,s.heap.get? b=some u->h1.get? b=some u)->Q vs { s with heap:=h1 }):eD (model prog w) A (collect (.ref l)) Q E s:=by
 unfold collect;refine ae (EJ (Bb entry_proto_collect' ?_));show eD _ _ (newList [] >>= λ x=>again (.builtin "list.__iadd__" ⟨[x,.ref l],[]⟩)) _ _ s;refine ae (CF (bx ⟨CU _ (by decide +kernel),Bb entry_list_iadd' ?_⟩) (gm _));generalize eG:s.heap.push (seqObj "list" #[] 0)=G;have sG:G.objs.size=s.heap.objs.size+1:=by rw [<-eG,size_push']
 have kG:∀ b u,s.heap.get? b=some u->G.get? b=some u:=λ b u e=>by rw [<-eG];exact au _ e
 have nG:G.get? s.heap.objs.size=some (seqObj "list" #[] 0):=by rw [<-eG];exact cn _ rfl
 show eD _ _ (AL (.ref s.heap.objs.size) (.ref l) (.ref s.heap.objs.size)) _ _ { s with heap:=G }
 unfold AL
 have fin:eD (model prog w) A (load s.heap.objs.size >>= λ o=>match o.data with
   | .seq xs _=>pure xs.toList
   | _=>unsupported "internal:collect") Q E { s with heap:=G.update s.heap.objs.size (ud (·++vs.toArray)) }:=by
  refine ae (wpAny_load (zt nG _) ?_);show eD _ _ (pure ((#[]:Array ar)++vs.toArray).toList) Q E _;rw [show ((#[]:Array ar)++vs.toArray).toList=vs by simp];refine bx (h _ (by rw [Heap.size_update,sG]) λ b u e=>?_);rw [wy _ _ _ _ (dc (cm e))];exact kG b u e
 have ty:∃ T:String,o.cls=.type T/\(T = "list"\/T = "tuple"):=by
  rcases hc with e | e
  ·exact ⟨_,e,.inl rfl⟩
  ·exact ⟨_,e,.inr rfl⟩
 obtain ⟨T,hT,hT2⟩:=ty;refine ae (yg (T:=T) ⟨o,kG l o ho,hT⟩ ?_)
 have hb:(xx T == xx "list" || xx T == xx "tuple")=true:=by
  rcases hT2 with rfl | rfl<;>rfl
 rw [if_pos (by rw [Bool.or_assoc,hb,Bool.or_true])];refine ae (Cv (kG l o ho) hd (ae (Cv (xs:=#[]) (n:=0) nG rfl ?_)));rw [if_neg (by simp)];refine ae (BC (xs:=#[]) (n:=0) nG rfl ?_ (gm _) (by show (#[]++vs.toArray).size<=sizeLine+1;rw [vm];simp;omega));exact bx fin
theorem gE {lb:bp->bp->Bool} {D:bp->Prop} {kd:ko} (W:Wk lb) {l:av} {o:Obj} {vs:List ar} {n:Nat} {Q:ar->ay->Prop} (ho:s.heap.get? l=some o) (hc:o.cls=.type "list"\/o.cls=.type "tuple") (hd:o.data=.seq vs.toArray n) (hz:vs.length<=sizeLine)
  (hkk:2<=vs.length->∀ (A':fb) (E':ar->ay->Prop) (h6:gy),(∀ b o,o.cls≠.type "list"->s.heap.get? b=some o->h6.get? b=some o)->∀ Q:ko->ay->Prop,Q kd { s with heap:=h6 }->eD (model prog w) A' (keyKind' vs.toArray) Q E' { s with heap:=h6 })
  (hL:∀ (A':fb) (E':ar->ay->Prop) (h6:gy),(∀ b o,o.cls≠.type "list"->s.heap.get? b=some o->h6.get? b=some o)->vV (model prog w) A' E' { s with heap:=h6 } lb D kd) (dd:∀ v∈vs,D (v,v))
  (h:∀ (out:List ar) (k:Nat) (h':gy),out.Perm vs->kIA lb out->(∀ b u,s.heap.get? b=some u->h'.get? b=some u)->h'.get? (s.heap.objs.size+1)=some (seqObj "list" out.toArray k)->Q (.ref (s.heap.objs.size+1)) { s with heap:=h' }) :
  eD (model prog w) A (call (.builtin "sorted") [.ref l]) Q E s:=by
 refine Calls.call_function_entry kind_sorted plain_sorted entry_sorted (args_sorted1 _) ?_;unfold AK.«sorted»;refine ae (m:=checkCount "sorted" 1 1 _) (bx (ae (kAU ho hc hd hz λ h1 sz1 k1=>?_)));refine ae (CF ?_ (by simpa using hz));generalize eG:h1.push (seqObj "list" vs.toArray 0)=G
 have nG:G.get? (s.heap.objs.size+1)=some (seqObj "list" vs.toArray 0):=by
  rw [<-eG,<-sz1];exact cn _ rfl
 have kG:∀ b u,s.heap.get? b=some u->G.get? b=some u:=λ b u e=>by
  rw [<-eG];exact au _ (k1 b u e)
 show eD _ _ _ _ _ { s with heap:=G }
 rw [sz1];refine ae (jw (qh slot_list_sort ⟨_,nG,rfl⟩ entry_list_sort (kFL (s:={ s with heap:=G }) W nG hz (λ h2 h6 k6 Q q=>hkk h2 _ _ h6 (λ b o c e=>k6 b o c (kG b o e)) Q q) (λ h6 k6=>hL _ _ h6 λ b o c e=>k6 b o c (kG b o e)) dd λ out pm od=>⟨_,rfl,?_⟩) (args_list_sort _)))
 have hlt:s.heap.objs.size+1<G.objs.size:=cm nG;have up:(G.update (s.heap.objs.size+1) (ud λ _=>#[])).get? (s.heap.objs.size+1)=some (seqObj "list" #[] (if (#[]:Array ar).size == vs.toArray.size then 0 else 1)):=zt nG (λ _=>#[]);refine bx ⟨_,rfl,h out _ _ pm od (λ b u e=>?_) (zt (au _ (au _ up)) (λ _=>out.toArray))⟩;have hb:b≠s.heap.objs.size+1:=dc (vp (cm e));unfold sortedHeap;rw [wy _ _ _ _ hb];refine au _ (au _ ?_);rw [wy _ _ _ _ hb];exact kG b u e
theorem sorted_tups {l:av} {o:Obj} {vs:List ar} {n:Nat} {Q:ar->ay->Prop} (ho:s.heap.get? l=some o) (hc:o.cls=.type "list"\/o.cls=.type "tuple") (hd:o.data=.seq vs.toArray n) (hz:vs.length<=sizeLine)
  (ht:∀ v∈vs,TupI s.heap v)
  (h:∀ (out:List ar) (k:Nat) (h':gy),out.Perm vs->kIA (lbT s.heap) out->(∀ b u,s.heap.get? b=some u->h'.get? b=some u)->h'.get? (s.heap.objs.size+1)=some (seqObj "list" out.toArray k)->Q (.ref (s.heap.objs.size+1)) { s with heap:=h' }) :
  eD (model prog w) A (call (.builtin "sorted") [.ref l]) Q E s:=by
 have kt:∀ {h6:gy},(∀ b o,o.cls≠.type "list"->s.heap.get? b=some o->h6.get? b=some o)->∀ b o,o.cls=.type "tuple"->s.heap.get? b=some o->h6.get? b=some o:=λ k6 b o c e=>k6 b o (by rw [c];intro q;injection q with q;exact absurd q (by decide)) e
 refine gE (D:=λ x=>TupI s.heap x.1) (kd:=tuples' true) (kMC s.heap) ho hc hd hz (λ h2 A' E' h6 k6 Q q=>?_) (λ A' E' h6 k6=>?_) (λ v hv=>ht v hv) h
 ·have t6:∀ v∈vs,TupI h6 v:=λ v hv=>((ht v hv).kept (kt k6)).1
  have:∀ us:List ar,(∀ v∈us,TupI h6 v)->∃ fs,KatTups h6 us fs/\fs.length=us.length/\∀ v∈fs,∃ k t,v=qz k t:=λ us=>by
   induction us with
   | nil=>intro _;exact ⟨[],.nil,rfl,by simp⟩
   | cons u us ih =>
    intro hu;obtain ⟨fs,a1,a2,a3⟩:=ih λ v hv=>hu v (dj _ hv);obtain ⟨a,o,xs,m,rfl,e1,e2,e3,e4,e5⟩:=hu u (eQ ..);refine ⟨xs[0]::fs,.cons e1 e2 e3 (getElem?_pos xs 0 e5) a1,by simp [a2],λ v hv=>?_⟩;rcases du.mp hv with rfl | z
    ·exact e4 _ (by simp)
    ·exact a3 v z
  obtain ⟨fs,a1,a2,a3⟩:=this vs t6;refine kat_kind (T:=.type "int") a1 (by omega) (λ v hv=>?_) rfl q;obtain ⟨k,t,rfl⟩:=a3 v hv;exact Et rfl
 ·intro x y hx hy st Q hk q
  have a:=hx.kept (kt k6);have b:=hy.kept (kt k6);refine kDM (s:={ s with heap:=h6 }) x y a.1 b.1 st Q hk ?_
  show Q (some (lexLt (keyOf h6 x.1) (keyOf h6 y.1))) st;rw [a.2,b.2];exact q
theorem sorted_nums {l:av} {o:Obj} {vs:List ar} {n:Nat} {Q:ar->ay->Prop} (ho:s.heap.get? l=some o) (hc:o.cls=.type "list"\/o.cls=.type "tuple") (hd:o.data=.seq vs.toArray n) (hz:vs.length<=sizeLine)
  (ht:∀ v∈vs,∃ k t,v=qz k t)
  (h:∀ (out:List ar) (k:Nat) (h':gy),out.Perm vs->kIA lbI out->(∀ b u,s.heap.get? b=some u->h'.get? b=some u)->h'.get? (s.heap.objs.size+1)=some (seqObj "list" out.toArray k)->Q (.ref (s.heap.objs.size+1)) { s with heap:=h' }) :
  eD (model prog w) A (call (.builtin "sorted") [.ref l]) Q E s:=by
 refine gE (D:=λ x=>∃ k t,x.1=.int k t) (kd:=oneType') kMD ho hc hd hz (λ h2 A' E' h6 k6 Q q=>?_) (λ A' E' h6 k6=>kDN) (λ v hv=>ht v hv) h;refine kas_kind (T:=.type "int") h2 (λ v hv=>?_) rfl rfl q;obtain ⟨k,t,rfl⟩:=ht v hv;exact Et rfl
end
end Srt
namespace Srt
theorem perm_back {α β:Type} {f:α->β}:∀ {l' l2:List β},l'.Perm l2->∀ {l:List α},l2=l.map f->∃ m:List α,m.Perm l/\l'=m.map f:=by
 intro l' l2 h
 induction h with
 | nil =>
  intro l e
  match l,e with
  | [],_=>exact ⟨[],.refl _,rfl⟩
 | cons x _ ih =>
  intro l e
  match l,e with
  | y::l,e =>
   rw [ft] at e;injection e with e1 e2
   obtain ⟨m,a,b⟩:=ih e2;exact ⟨y::m,a.cons y,by rw [ft,b,e1]⟩
 | swap x y l0 =>
  intro l e
  match l,e with
  | a::b::l,e =>
   rw [ft,ft] at e;injection e with e1 e2
   injection e2 with e2 e3
   exact ⟨b::a::l,.swap _ _ _,by rw [ft,ft,e1,e2,e3]⟩
 | trans _ _ ih1 ih2 =>
  intro l e;obtain ⟨m,a,b⟩:=ih2 e;obtain ⟨m',a',b'⟩:=ih1 b;exact ⟨m',a'.trans a,b'⟩
end Srt
namespace L2
open PySem PySem.Spec PyProof.Rows
section
variable {X:Cx}
theorem cH:∀ {ps:List (av×List Int)} {its:List ar},Vals (ps.map λ q=>V.ref q.1) its->its=ps.map λ q=>ki q.1
 | [],_,.nil=>rfl
 | p::ps,_,.cons r t=>by
  rw [cH t,show _=ki p.1 from r]
  rfl
theorem mJ:∀ (ps:List (av×List Int)),Vals (ps.map λ q=>V.ref q.1) (ps.map λ q=>ki q.1)
 | []=>.nil
 | p::ps=>.cons rfl (mJ ps)
def kMS (H:Hp) (ps:List (av×List Int)):Prop:=∀ q∈ps,H q.1=some (.tup (q.2.map V.int))/\q.2≠[]
theorem nO {pins:List (av×Obj)} {σ:St} {H:Hp} {s:ay} (I:Inv X pins σ H s) {a:av} {ns:List Int} (h:H a=some (.tup (ns.map V.int))) (h0:ns≠[]):Srt.TupI s.heap (.ref a)/\Srt.keyOf s.heap (.ref a)=ns:=by
 obtain ⟨its,rv,⟨o,ho,hc,n,hd⟩,hz⟩:=I.tuple (SqT.of (K:=X.K) h);have hi:=uO rv;have hl:=rv.length;refine ⟨⟨a,o,_,n,rfl,ho,hc,hd,λ u hu=>hi.all u (by simpa using hu),?_⟩,?_⟩
 ·rw [ao] at hl
  have:0<ns.length:=CB.mpr h0;simp;omega
 ·rw [Srt.TupI.key ho hd]
  exact hi.nums
theorem aU:xH X (.builtin "sorted") (λ xs H Q=>∃ (p:av) (ps:List (av×List Int)),xs=[.ref p]/\(SqL X.K H p (ps.map λ q=>V.ref q.1)\/SqT X.K H p (ps.map λ q=>V.ref q.1))/\kMS H ps /\
  ∀ (l:av) (ps':List (av×List Int)),H l=none->ps'.Perm ps->ps'.Pairwise (λ a b=>Srt.lexLt b.2 a.2=false)->Q (.ref l) (upd H l (.lst (ps'.map λ q=>V.ref q.1)))):=by
 intro pins s σ H xs us Q I r h;obtain ⟨p,ps,rfl,hq,tp,q⟩:=h;obtain ⟨u,rfl,rx⟩:=vP r;cases rx
 have obj:∃ (o:Obj) (n:Nat),s.heap.get? p=some o/\(o.cls=.type "list"\/o.cls=.type "tuple")/\o.data=.seq (ps.map λ q=>ki q.1).toArray n/\ps.length<=sizeLine:=by
  rcases hq with hq | hq
  ·obtain ⟨its,r',pl,hz⟩:=I.list hq
   rw [cH r'] at pl;obtain ⟨o,ho,hc,n,hd⟩:=pl.isList;exact ⟨o,n,ho,.inl hc,hd,by simpa using hz⟩
  ·obtain ⟨its,r',pl,hz⟩:=I.tuple hq
   rw [cH r'] at pl;obtain ⟨o,ho,hc,n,hd⟩:=pl;exact ⟨o,n,ho,.inr hc,hd,by simpa using hz⟩
 obtain ⟨o,n,ho,hc,hd,hz⟩:=obj;refine Srt.sorted_tups ho hc hd (by simpa using hz) (λ v hv=>?_) λ out k h' pm od kp e=>?_
 ·obtain ⟨x,hx,rfl⟩:=iO.mp hv
  exact (nO I (tp x hx).1 (tp x hx).2).1
 ·obtain ⟨ps',pm',rfl⟩:=Srt.perm_back pm rfl
  refine ⟨.ref (s.heap.objs.size+1),_,I.laid (t':=s.toks) kp (zh _) (show ObjOk X.prog X.w _ h' _ (.lst (ps'.map λ q=>V.ref q.1)) from ⟨by simpa [pm'.length_eq] using hz,_,k,mJ ps',e⟩),rfl,q _ ps' (I.hok.fresh (zh _)) pm' ?_⟩;refine (ke.mp od).imp_of_mem λ {a b} ha hb hh=>?_;have e1:=(nO I (tp a (pm'.mem_iff.mp ha)).1 (tp a (pm'.mem_iff.mp ha)).2).2;have e2:=(nO I (tp b (pm'.mem_iff.mp hb)).1 (tp b (pm'.mem_iff.mp hb)).2).2;have hh:Srt.lexLt (Srt.keyOf s.heap (.ref b.1)) (Srt.keyOf s.heap (.ref a.1))=false:=hh;rw [e1,e2] at hh;exact hh
theorem kAV:xH X (.builtin "sorted") (λ xs H Q=>∃ (p:av) (ns:List Int),xs=[.ref p]/\(SqL X.K H p (ns.map V.int)\/SqT X.K H p (ns.map V.int)) /\
  ∀ (l:av) (ns':List Int),H l=none->ns'.Perm ns->ns'.Pairwise (·<=·)->Q (.ref l) (upd H l (.lst (ns'.map V.int)))):=by
 intro pins s σ H xs us Q I r h;obtain ⟨p,ns,rfl,hq,q⟩:=h;obtain ⟨u,rfl,rx⟩:=vP r;cases rx
 have obj:∃ (o:Obj) (n:Nat) (its:List ar),s.heap.get? p=some o/\(o.cls=.type "list"\/o.cls=.type "tuple")/\o.data=.seq its.toArray n/\its.length<=sizeLine/\Vals (ns.map V.int) its:=by
  rcases hq with hq | hq
  ·obtain ⟨its,r',pl,hz⟩:=I.list hq
   obtain ⟨o,ho,hc,n,hd⟩:=pl.isList;exact ⟨o,n,its,ho,.inl hc,hd,by rw [<-r'.length];exact hz,r'⟩
  ·obtain ⟨its,r',pl,hz⟩:=I.tuple hq
   obtain ⟨o,ho,hc,n,hd⟩:=pl;exact ⟨o,n,its,ho,.inr hc,hd,by rw [<-r'.length];exact hz,r'⟩
 obtain ⟨o,n,its,ho,hc,hd,hz,rv⟩:=obj;have hi:=uO rv;refine Srt.sorted_nums ho hc hd hz (λ v hv=>hi.all v hv) λ out k h' pm od kp e=>?_;have all:∀ v∈out,∃ k t,v=qz k t:=λ v hv=>hi.all v (pm.mem_iff.mp hv)
 have vo:Vals ((out.map numOf).map V.int) out:=by
  clear e od pm
  induction out with
  | nil=>exact .nil
  | cons u us ih =>
   obtain ⟨k,t,rfl⟩:=all u (eQ ..);exact .cons ⟨t,rfl⟩ (ih λ v hv=>all v (dj _ hv))
 have pn:(out.map numOf).Perm ns:=by
  have:=pm.map numOf;rwa [hi.nums] at this
 refine ⟨.ref (s.heap.objs.size+1),_,I.laid (t':=s.toks) kp (zh _) (show ObjOk X.prog X.w _ h' _ (.lst ((out.map numOf).map V.int)) from ⟨?_,_,k,vo,e⟩),rfl,q _ _ (I.hok.fresh (zh _)) pn ?_⟩
 ·rw [ao,ao,pm.length_eq]
  exact hz
 ·refine ke.mpr (od.imp λ {a b} hh=>?_)
  have hh:decide (numOf b<numOf a)=false:=hh;have:=of_decide_eq_false hh;omega
end
end L2
namespace Hsh
set_option autoImplicit false
open PySem PySem.Spec PyProof.Rows
def kEG:Nat->List Nat->Bool
 | 0,l=>l.length<=1
 | k+1,l=>match l with
  | []=>true
  | [_]=>true
  | l=>kEG k (l.filter λ n=>(n / 2 ^ k) % 2 == 0) && kEG k (l.filter λ n=>!((n / 2 ^ k) % 2 == 0))
theorem kJZ:∀ (k:Nat) (l:List Nat),kEG k l=true->l.Nodup:=by
 intro k
 induction k with
 | zero =>
  intro l h
  match l,h with
  | [],_=>exact yt
  | [x],_=>exact fc.mpr ⟨by simp,yt⟩
  | _::_::_,h=>simp [kEG] at h
 | succ k ih =>
  intro l h
  match l,h with
  | [],_=>exact yt
  | [x],_=>exact fc.mpr ⟨by simp,yt⟩
  | a::b::l,h =>
   unfold kEG at h;rw [eZ] at h;have h1:=ih _ h.1;have h2:=ih _ h.2;generalize a::b::l=m at *
   have:∀ m:List Nat,(m.filter λ n=>(n / 2 ^ k) % 2 == 0).Nodup->(m.filter λ n=>!((n / 2 ^ k) % 2 == 0)).Nodup->m.Nodup:=λ m=>by
    induction m with
    | nil=>intro _ _;exact yt
    | cons x m ih =>
     intro a1 a2
     have mem:x∉m:=λ hx=>by
      cases e:(x / 2 ^ k) % 2 == 0 with
      | true =>
       rw [tz,if_pos e] at a1;exact (fc.mp a1).1 (fj.mpr ⟨hx,e⟩)
      | false =>
       rw [tz,if_pos (by rw [e];rfl)] at a2;exact (fc.mp a2).1 (fj.mpr ⟨hx,by rw [e];rfl⟩)
     refine fc.mpr ⟨mem,ih ?_ ?_⟩
     ·rw [tz] at a1
      split at a1
      ·exact (fc.mp a1).2
      ·exact a1
     ·rw [tz] at a2
      split at a2
      ·exact (fc.mp a2).2
      ·exact a2
   exact this m h1 h2
def hp (p q:Nat):Nat:=(reduceHash (EZ [hashInt (p:Int),hashInt (q:Int)])+2 ^ 63).toNat
def all:List Nat:=(cu 1764).map λ i=>hp (i / 42) (i % 42)
theorem kHX:kEG 64 all=true:=by decide +kernel
theorem hp_inj {p q p' q':Nat} (h1:p<42) (h2:q<42) (h3:p'<42) (h4:q'<42) (e:hp p q=hp p' q'):p=p'/\q=q':=by
 have nd:=kJZ 64 all kHX
 have at':∀ p q:Nat,p<42->q<42->all[42*p+q]?=some (hp p q):=λ p q a b=>by
  unfold all;rw [bh,CA (by omega)];show some (hp ((42*p+q) / 42) ((42*p+q) % 42))=_;rw [show (42*p+q) / 42=p by omega,show (42*p+q) % 42=q by omega]
 have a:=at' p q h1 h2;have b:=at' p' q' h3 h4;rw [<-e] at b;have:=(yl (aq.mp a).1 nd).mp (a.trans b.symm);omega
end Hsh
namespace Dct
set_option autoImplicit false
open PySem PySem.Spec PyProof.Rows
section
variable {prog:eo} {w:iD} {A:fb} {E:ar->ay->Prop} {s:ay} {κ:Type} [DecidableEq κ] {kd:KeyKind prog w κ}
def fold (xs ys:List (List κ×av×ar)):List (List κ×av×ar):=ys.foldl (λ acc y=>storedH acc y.1 y.2.1 y.2.2) xs
theorem fold_len (xs ys:List (List κ×av×ar)):(fold xs ys).length<=xs.length+ys.length:=by
 induction ys generalizing xs with
 | nil=>exact bq _
 | cons y ys ih =>
  have:=ih (storedH xs y.1 y.2.1 y.2.2)
  have l:(storedH xs y.1 y.2.1 y.2.2).length<=xs.length+1:=by
   unfold storedH
   split<;>simp
  rw [eX];unfold fold at *;rw [ue];omega
theorem sK:∀ (xs ys:List (List κ×av×ar)),((xs++ys).map (·.1)).Nodup->fold xs ys=xs++ys
 | xs,[],_=>by rw [iN];rfl
 | xs,y::ys,h=>by
  have no:atKey xs y.1=none:=by
   refine Cw λ j p e=>?_;rw [eI,ft,be] at h;exact h.2.2 y.1 (iO.mpr ⟨_,eg e,rfl⟩) y.1 (eQ ..) rfl
  unfold fold;rw [ue,storedH_new no];have:=sK (xs++[y]) ys (by simpa using h);unfold fold at this;rw [show (y.1,y.2.1,y.2.2)=y from rfl,this];simp
theorem mY (xs ys:List (List κ×av×ar)) (i:Nat) (y:List κ×av×ar) (h:ys[i]?=some y):fold xs (ys.take (i+1))=storedH (fold xs (ys.take i)) y.1 y.2.1 y.2.2:=by
 unfold fold;rw [List.take_add_one,h,Ct]
 rfl
theorem gI {d a:av} {xs:List (List κ×av×ar)} {k:List κ} {v:ar} {Q:Unit->ay->Prop} (hu:A.units<cLine) (hk:(tupleKind kd).is s.heap k a) (hm:s.heap.DictOfH (tupleKind kd) d xs) (hz:xs.length<=sizeLine)
  (q:∀ h',h'.DictOfH (tupleKind kd) d (storedH xs k a v)->jd d s.heap h'->Q () { s with heap:=h' }):eD (model prog w) A (dictSetHashed d (.ref a) ((tupleKind kd).hash k) v) Q E s:=by
 obtain ⟨o,es,ep,ho,hc,hd,he,his,hn⟩:=hm;have sz:=Bc he;unfold dictSetHashed
 try with_reducible refine jw ?_
 refine ae (wpAny_dictFind_heap (knd:=tupleKind kd) hu hk ho hd he his hn (λ no=>?_) λ j p hj=>?_)
 ·have nk:=not_mem_keys_of_get no
  have e:=storedH_new (Cw no) a v;refine ae (vy (wpAny_updateDictKeys (hz:=by omega) ho hd (q _ ⟨_,_,ep+1,qu _ ho (AG (wj hd _)),hc.mapDictKeys _,wj hd _,?_,?_,?_⟩ (jh ..))))
  ·rw [e]
   simp [he,entryOfKey]
  ·rw [e]
   intro x hx;rcases bz.mp hx with z | z
   ·exact (tupleKind kd).keeps (his x z) ho hd (jh ..)
   ·rw [cy.mp z]
    exact (tupleKind kd).keeps hk ho hd (jh ..)
  ·rw [e,eI,be]
   refine ⟨hn,by simp,λ x hx y hy z=>nk ?_⟩;have:y=k:=by simpa using hy
   rw [<-this,<-z];exact hx
 ·have e:=storedH_old (atKey_of_get hn hj) a v
  refine ae (vy (ae (wpAny_updateDict ho hd (wpAny_point (q _ ⟨_,_,ep,qu _ ho (AG (DL hd _)),hc.mapDict _,DL hd _,?_,?_,?_⟩ (jh ..))))))
  ·rw [e]
   have m:=modify_map_putAt (entryOfKey (tupleKind kd)) (λ z:DH=>{ z with val:=v }) k v (λ _ _=>rfl) hn hj
   rw [<-he] at m;obtain ⟨l⟩:=es;simpa using m
  ·rw [e]
   intro x hx;obtain ⟨y,hy,rfl⟩:=iO.mp hx;unfold putAt
   split<;>exact (tupleKind kd).keeps (his y hy) ho hd (jh ..)
  ·rw [e,keys_map_putAt]
   exact hn
theorem kCZ {k:List κ} {a:av} {Q:Bool->ay->Prop} (hk:(tupleKind kd).is s.heap k a) (q:Q false s):eD (model prog w) A (Bq (.ref a)) Q E s:=by
 unfold Bq;have hk:IsTupleKey kd s.heap k a:=hk;refine ae (Di hk.typeIs F.slot_tuple_eq.lookup (bx ?_));exact q
theorem sM {id:String} {d:av} {o:Obj} {es:Array DH} {ep:Nat} {xs:List (List κ×av×ar)} {Q:Array DH->ay->Prop} (ho:s.heap.get? d=some o) (hd:o.data=.dict es ep) (he:es.toList=xs.map (entryOfKey (tupleKind kd))) (his:∀ x∈xs,(tupleKind kd).is s.heap x.1 x.2.1)
  (hh:(xs.map λ x=>(tupleKind kd).hash x.1).Nodup) (q:Q es s):eD (model prog w) A (zv id d) Q E s:=by
 have few:∀ e∈es,¬ (es.filter λ z=>z.hash == e.hash).size>1:=λ e hin g=>by
  have:(es.toList.map λ z=>z.hash)=xs.map λ x=>(tupleKind kd).hash x.1:=by
   rw [he,As]
   rfl
  rw [<-this] at hh
  have l:(es.filter λ z=>z.hash == e.hash).size=((es.toList.map λ z=>z.hash).filter λ z=>z == e.hash).length:=by
   rw [<-fm,Array.toList_filter,Dh,ao]
   rfl
  have c:=List.nodup_iff_count.mp hh e.hash;rw [List.count_eq_length_filter] at c;omega
 unfold zv;refine ae (oy ho hd (ae ?_));rw [<-Array.forIn_toList];refine yu _ (λ rest _ s'=>s'=s/\∀ e∈rest,e∈es) _ ?_ ?_ _ _ ⟨rfl,λ e h=>se.mp h⟩
 ·rintro e rest b s' ⟨rfl,hr⟩
  have hin:=hr e (eQ ..)
  obtain ⟨x,hx,rfl⟩ : ∃ x∈xs,e=entryOfKey (tupleKind kd) x:=by
   have:e∈xs.map (entryOfKey (tupleKind kd)):=he ▸ se.mpr hin;obtain ⟨x,hx,z⟩:=iO.mp this;exact ⟨x,hx,z.symm⟩
  refine ae (kCZ (his x hx) ?_);simp only [EF,if_true];rw [if_neg (few _ hin)];exact bx ⟨rfl,λ z hz=>hr z (dj _ hz)⟩
 ·rintro b s' ⟨rfl,_⟩
  exact bx q
theorem kDL {nm:String} {d o:av} {xs ys:List (List κ×av×ar)} {Q:Unit->ay->Prop} (hu:A.units<cLine) (hdo:d≠o) (hoS:(o == sysModules)=false) (hd:s.heap.DictOfH (tupleKind kd) d xs) (ho:s.heap.DictOfH (tupleKind kd) o ys)
  (hz:xs.length+ys.length<=sizeLine) (hh:xs=[]->(ys.map λ y=>(tupleKind kd).hash y.1).Nodup)
  (q:∀ h',h'.DictOfH (tupleKind kd) d (fold xs ys)->jd d s.heap h'->Q () { s with heap:=h' }):eD (model prog w) A (BV nm d o) Q E s:=by
 obtain ⟨od,esd,epd,hod,hcd,hdd,hed,hisd,hnd⟩:=id hd;obtain ⟨oo,eso,epo,hoo,hco,hdo',heo,hiso,hno⟩:=id ho;have szo:=Bc heo;have szd:=Bc hed;unfold BV;rw [if_neg (by simpa using hdo)];unfold FK;rw [if_neg (by rw [hoS];exact dq)]
 refine ae (bx (ae (oy hoo hdo' ?_)))
 have inv0:∃ h' i,s={ s with heap:=h' }/\jb 0 eso.size=jb i (eso.size-i)/\i<=eso.size/\h'.DictOfH (tupleKind kd) d (fold xs (ys.take i))/\h'.get? o=some oo/\jd d s.heap h' :=
  ⟨s.heap,0,rfl,rfl,gm _,by rw [yo];exact hd,hoo,yj _ _⟩
 dsimp only
 split
 ·refine ae (oy hod hdd ?_)
  split
  ·rename_i hemp
   have z:xs=[]:=by
    have h0:esd = #[]:=Cy.mp hemp;rw [h0] at szd;exact iY.mp szd.symm
   subst z;have ff:fold [] ys=ys:=sK [] ys hno;rw [ff] at q;refine ae (sM hoo hdo' heo hiso (hh rfl) ?_)
   split
   ·refine ae (wpAny_updateDictKeysTo hod hdd (bx (q _ ⟨_,_,epd+1,qu _ hod (AG (wj hdd _)),hcd.mapDictKeys _,wj hdd _,heo,λ x hx=>(tupleKind kd).keeps (hiso x hx) hod hdd (jh ..),hno⟩ (jh ..))) ?_)
    simp only [ir] at hz;omega
   ·rename_i hne
    have h0:eso = #[]:=Cy.mp (by simpa using hne)
    have z:ys=[]:=by
     rw [h0] at szo;exact iY.mp szo.symm
    subst z;exact bx (q _ hd (yj _ _))
  ·refine ae (AA hoo hdo' (ae (oy hoo hdo' (ae ?_))))
   rw [ow];simp only [yp,Cz,CV,FY];refine yu _ (λ rest _ s'=>∃ h' i,s'={ s with heap:=h' }/\rest=jb i (eso.size-i)/\i<=eso.size/\h'.DictOfH (tupleKind kd) d (fold xs (ys.take i))/\h'.get? o=some oo/\jd d s.heap h') _ ?_ ?_ _ _ inv0
   ·rintro x rest b s' ⟨h',i,rfl,hr,hi,hd',hoo',hs'⟩
    by_cases hlt:i<eso.size
    ·rw [show eso.size-i=(eso.size-(i+1))+1 by omega,uj] at hr
     injection hr with h1 h2
     subst h1;refine ae (oy hoo' hdo' ?_);have hy:ys[x]?=some (ys[x]'(by omega)):=aa _;rw [entry_at heo x,hy];generalize ys[x]'(by omega)=y at hy;have hk:(tupleKind kd).is h' y.1 y.2.1:=(tupleKind kd).keeps (hiso y (eg hy)) hod hdd hs';have lz:=fold_len xs (ys.take x);have lt:(ys.take x).length<=ys.length:=by rw [eK];omega
     refine ae (jw (gI (s:={ s with heap:=h' }) hu hk hd' (by omega) λ h'' hd'' hs''=>?_))
     have hoo'':h''.get? o=some oo:=(hs''.2 o (uq hdo)).trans hoo';refine ae (AA hoo'' hdo' ?_);rw [if_neg (by simp)];exact bx ⟨h'',x+1,rfl,h2,hlt,by rw [mY xs ys x y hy];exact hd'',hoo'',hs'.trans hs''⟩
    ·rw [show eso.size-i=0 by omega] at hr
     exact nomatch hr
   ·rintro b s' ⟨h',i,rfl,hr,hi,hd',hoo',hs'⟩
    have hin:i=eso.size:=by
     by_cases hlt:i<eso.size
     ·rw [show eso.size-i=(eso.size-(i+1))+1 by omega,uj] at hr
      exact nomatch hr
     ·omega
    refine bx (q h' ?_ hs');rw [hin,szo,ji] at hd';exact hd'
 ·refine ae (AA hoo hdo' (ae (oy hoo hdo' (ae ?_))))
  rw [ow];simp only [yp,Cz,CV,FY];refine yu _ (λ rest _ s'=>∃ h' i,s'={ s with heap:=h' }/\rest=jb i (eso.size-i)/\i<=eso.size/\h'.DictOfH (tupleKind kd) d (fold xs (ys.take i))/\h'.get? o=some oo/\jd d s.heap h') _ ?_ ?_ _ _ inv0
  ·rintro x rest b s' ⟨h',i,rfl,hr,hi,hd',hoo',hs'⟩
   by_cases hlt:i<eso.size
   ·rw [show eso.size-i=(eso.size-(i+1))+1 by omega,uj] at hr
    injection hr with h1 h2
    subst h1;refine ae (oy hoo' hdo' ?_);have hy:ys[x]?=some (ys[x]'(by omega)):=aa _;rw [entry_at heo x,hy];generalize ys[x]'(by omega)=y at hy;have hk:(tupleKind kd).is h' y.1 y.2.1:=(tupleKind kd).keeps (hiso y (eg hy)) hod hdd hs';have lz:=fold_len xs (ys.take x);have lt:(ys.take x).length<=ys.length:=by rw [eK];omega
    refine ae (jw (gI (s:={ s with heap:=h' }) hu hk hd' (by omega) λ h'' hd'' hs''=>?_))
    have hoo'':h''.get? o=some oo:=(hs''.2 o (uq hdo)).trans hoo';refine ae (AA hoo'' hdo' ?_);rw [if_neg (by simp)];exact bx ⟨h'',x+1,rfl,h2,hlt,by rw [mY xs ys x y hy];exact hd'',hoo'',hs'.trans hs''⟩
   ·rw [show eso.size-i=0 by omega] at hr
    exact nomatch hr
  ·rintro b s' ⟨h',i,rfl,hr,hi,hd',hoo',hs'⟩
   have hin:i=eso.size:=by
    by_cases hlt:i<eso.size
    ·rw [show eso.size-i=(eso.size-(i+1))+1 by omega,uj] at hr
     exact nomatch hr
    ·omega
   refine bx (q h' ?_ hs');rw [hin,szo,ji] at hd';exact hd'
end
end Dct
namespace Dct
set_option autoImplicit false
open PySem PySem.Spec PyProof.Rows
theorem meets_upd {prog:eo} {w:iD} {κ:Type} [DecidableEq κ] (kd:KeyKind prog w κ) (d o:av) (hdo:d≠o) (hoS:(o == sysModules)=false) :
  MeetsIn prog w (AK.«dict.update» ⟨[.ref d,.ref o],[]⟩) (λ A R s=>A.in1.units<cLine/\∃ xs ys,s.heap.DictOfH (tupleKind kd) d xs/\s.heap.DictOfH (tupleKind kd) o ys/\xs.length+ys.length<=sizeLine/\(xs=[]->(ys.map λ y=>(tupleKind kd).hash y.1).Nodup) /\
   ∀ h',h'.DictOfH (tupleKind kd) d (fold xs ys)->jd d s.heap h'->R (.ok (.ret .none)) { s with heap:=h' }) :=
 .of_wp λ A R s ⟨hu,xs,ys,hd,ho,hz,hh,h⟩=>by
  unfold AK.«dict.update»;refine ae ?_;unfold Eu;refine ae (wpAny_notOrdered_dict hd.typeIs ?_);refine bx (show eD _ _ (BL "dict.update" d (.ref o) [] .none) _ _ s from ?_);unfold BL;refine ae (yg ho.typeIs ?_);rw [if_neg (by decide)];refine ae ?_;unfold Fh;refine ae ?_;unfold Ea;refine ae (DM ho.typeIs isSubtype_dict_dict ?_);simp only [xf,eC,if_false];refine ae (Di ho.typeIs F.slot_dict_iter.lookup (bx ?_));simp only [beq_self_eq_true,if_true];refine ae (bx (kDL hu hdo hoS hd ho hz hh λ h' hd' hs'=>?_));refine show eD _ _ (Ew d [] >>= _) _ _ _ from ?_;exact ae (bx (bx ⟨.none,rfl,h h' hd' hs'⟩))
end Dct
namespace L2
open PySem PySem.Spec PyProof.Rows
section
variable {X:Cx} {pins:List (av×Obj)} {σ:St} {H:Hp} {s:ay} {a:av} {y v:V} {u r:ar} {o:Option V} {A:fb} {E:ar->ay->Prop}
theorem kEH {H':Hp} {Q:Unit->ay->Prop} (hu:A.units<cLine) (I:Inv X pins σ H s) (g:DPut H a y v H') (ry:RelV y u) (rv:RelV v r) (h:∀ s',Inv X pins σ H' s'->Q () s') :
  eD (model X.prog X.w) A (dictSet a u r) Q E s:=by
 rcases g with ⟨kvs,k,e,ey,l,eH⟩ | ⟨kvs,k,b,e,ey,eb,l,eH⟩
 ·subst ey eH
  obtain ⟨z,hd,vs,rel,dd⟩:=kOB I.hok e;refine wpAny_dictSet_pairs (hsz:=by rw [<-rel.length];exact z) (kGZ ry) dd λ h' dd' hs=>h _ ?_;exact pM I (by rw [e];exact uu) hs (let ⟨q,_,_,hq,_⟩:=dd';⟨q,hq⟩) (kMP (by have:=wH kvs k v;omega) hd (rel.put k rv) dd')
 ·subst ey eH
  cases (show u=ki b from ry)
  obtain ⟨z,hd,xs,rel,dd⟩:=kHO I.hok e;refine wpAny_dictSet_heap (hsz:=by rw [<-ve rel];exact z) hu (kAM I.hok eb) dd λ h' dd' hs=>h _ ?_;obtain ⟨q,es,ep,hq,h2,h3,h4,_,h5⟩:=dd';refine pM I (by rw [e];exact uu) hs ⟨q,hq⟩ ⟨by have:=wH kvs k v;omega,hd,_,(rel.put k eb rv).keeps λ c ys ec=>?_,q,es,ep,hq,h2,h3,h4,h5⟩;rw [kO (vR ec e (λ z=>nomatch z))];exact ec
end
def kOH (D:av) (tk tv:TE):TB:=λ N σ H=>tk σ H λ y H1=>tv σ H1 λ v H2=>∃ H3,DPut H2 D y v H3/\N σ H3
theorem kIX {X:Cx} {kx vx:iJ} {tk tv:TE} {D:av} (hu:X.A.units+1<cLine) (hk:PE X kx tk) (hv:PE X vx tv):PBd X (kBW kx vx X.env (.ref D)) (kOH D tk tv):=by
 intro pins s σ H N I h;unfold kBW;refine ae (thn (hk pins s σ H _ I h) λ ku s1 ⟨y,H1,I1,r1,q1⟩=>?_);refine ae (jw (thn (hv pins s1 σ H1 _ I1 q1) λ vu s2 ⟨x,H2,I2,r2,H3,g,q2⟩=>?_));exact ae (ub (jw (kEH (by omega) I2 g r1 r2 λ s3 I3=>⟨σ,H3,I3,q2⟩)))
section
variable {X:Cx} {tg iter kx vx:iJ} {ifs:List iJ} {sc:qa} {pos:Pos} {Nc:List Str} {js:List (Option Nat)} {wi:TI}
def kOW (js:List (Option Nat)) (wi:TI) (g:TG) (bd:av->TB):TE:=λ σ H Q=>wi σ H λ J H1=>∀ D,H1 D=none->uW J g (bd D) (λ _ H'=>Q (.ref D) H') (uG js σ) (upd H1 D (.dT []))
theorem kIV {g:TG} {bd:av->TB} (hx:X.xe=λ _ _=>False) (hc:X.calm=true) (hi:PI X tg iter wi) (S:CS sc X.env.scope) (cap:cD js Nc X.N sc.names=true)
  (hg:∀ C s₂ H₂ fp pins,PG (cxC X Nc sc C s₂ H₂ fp pins) tg g)
  (hb:∀ C s₂ H₂ fp pins D L,PTl (cxC X Nc sc C s₂ H₂ fp pins) (yI ifs (cxC X Nc sc C s₂ H₂ fp pins).env (kBW kx vx (cxC X Nc sc C s₂ H₂ fp pins).env (.ref D)) L) L (bd D))
  (hs:∀ x,foldedSetIterable iter X.env x=pure x:=by intro _;rfl) :
  PE X (.DictComp kx vx [⟨tg,iter,ifs,0⟩] sc pos) (kOW js wi g bd):=by
 intro pins s σ H Q I h;rw [arm_eval_DictComp];have hcl:closureFor sc X.env=pure (zF sc X.env):=wC λ y hy hf=>I.ok.has y.1 (.inl (S.free y hy hf));refine om (use:=none) rfl hs hcl S.kind S.names (thn (hi pins s σ H _ I h) λ v s1 h1=>thn h1 λ itv s2 h2=>?_);obtain ⟨it,fp,tn,J,H2,e,I2,T,st2,f2,hw⟩:=h2;subst e;have hlt:∀ b∈fp,b<s2.heap.objs.size:=λ b hb=>let ⟨o,ho,_⟩:=T.obj _ _ st2 b hb;cm ho;refine iX (wa S.nocell (by intro y hy;simp at hy) (λ h₁ hns₁ hsb₁=>?_) S.kind);dsimp only at hns₁ hsb₁ ⊢;generalize hH2:s2.heap.push { cls:=.type "dict",dict:=none,data:=.dict #[] }=G at hns₁ hsb₁ ⊢;have hCs:G.objs.size=s2.heap.objs.size+1:=by rw [<-hH2,iu]
 have hDC:s2.heap.objs.size≠G.objs.size:=by omega
 have hCle:s2.heap.objs.size<=G.objs.size:=by omega
 have old:∀ b o,s2.heap.get? b=some o->h₁.get? b=some o:=λ b o e=>hsb₁.extBut b o (dc (cj (cm e) hCle)) (au _ (hH2 ▸ au _ e));have hacc:h₁.get? s2.heap.objs.size=some { cls:=.type "dict",dict:=none,data:=.dict #[] }:=hsb₁.extBut _ _ hDC (au _ (hH2 ▸ cn _ rfl))
 have new:ObjOk X.prog X.w (upd H2 s2.heap.objs.size (.dT [])) h₁ s2.heap.objs.size (.dT []):=by
  exact ⟨gm _,beq_eq_false_iff_ne.mpr (uq (dc I2.big)),[],.nil,_,_,_,hacc,⟨rfl,rfl,rfl⟩,rfl,rfl,yt⟩
 have I4:=bP (js:=js) (Nc:=Nc) (tk:=s2.toks+([]:List (Str×ar)).length) I2 S f2 hlt cap hCle (bq _) hDC old hns₁ new;have hn:H2 s2.heap.objs.size=none:=I2.fresh
 have f4:∀ b∈fp,zD (cxC X Nc sc G.objs.size s2 H2 fp pins) [] (upd H2 s2.heap.objs.size (.dT [])) b:=λ b hb=>by
  obtain ⟨h0,h1,h2,h3,h4,h5⟩:=f2 b hb;refine ⟨?_,dc (cj (hlt b hb) hCle),λ z=>?_,.inl hb,λ x c z=>?_,λ p hp=>?_⟩
  ·rw [kO (dc (hlt b hb))];exact h0
  ·rcases du.mp (I2.stkSub b z) with q | q
   ·exact h1 q
   ·exact h2 q
  ·exact h4 x c (aB sc.names [] (λ z=>nomatch z) z)
  ·rcases bz.mp hp with z | z
   ·exact h5 p z
   ·exact absurd z (by simp)
 have st4:tn 0 h₁:=T.keep _ _ _ st2 λ b hb o e=>old b o e
 have loop:codeAny (model X.prog X.w) X.A (.compLoop (.DictComp kx vx [⟨tg,iter,ifs,0⟩] sc pos) 0 (.ref it) (.ref s2.heap.objs.size) (compEnvC sc (zF sc X.env) G.objs.size X.env))
   (compPost (model X.prog X.w) X.A X.xe none (EP X pins σ Q) (.ref s2.heap.objs.size) G.objs.size) { s2 with heap:=h₁,toks:=s2.toks+([]:List (Str×ar)).length }:=by
  refine zN (X:=cxC X Nc sc G.objs.size s2 H2 fp pins) (.inr ⟨kx,vx,rfl⟩) hx hc (kID _ _ _ _ _ _ _ _ _ _) T (hg _ _ _ _ _) (hb _ _ _ _ _ _ _) I4 st4 f4 (hw _ hn) λ σ' H' s' I' q=>?_;obtain ⟨m',hm',_⟩:=I'.loc;exact ⟨m',hm',λ h' hs'=>⟨.ref s2.heap.objs.size,H',bQ I2 f2 hCle I' hs',rfl,q⟩⟩
 exact yV (.inr ⟨kx,vx,rfl⟩) rfl rfl loop (T.self _ _ _ _ _ st4 loop)
def yH (kvs more:List (List Key×V)):List (List Key×V):=more.foldl (λ acc y=>wU acc y.1 y.2) kvs
theorem KT.fold {H:Hp}:∀ {more:List (List Key×V)} {ys:List (List Key×av×ar)} {kvs:List (List Key×V)} {xs:List (List Key×av×ar)},KT H kvs xs->KT H more ys->KT H (yH kvs more) (Dct.fold xs ys)
 | [],_,_,_,r,.nil=>r
 | p::more,_,kvs,xs,r,.cons (b:=q) z t=>by
  have:=KT.fold (KT.put r q.1 (b:=q.2.1) (y:=p.2) (u:=q.2.2) (by rw [<-z.1];exact z.2.1) z.2.2) t;rw [<-z.1] at this;unfold yH at *;unfold Dct.fold at *;rw [ue,ue,<-z.1];exact this
def kHZ (k:List Key):Prop:=∃ p q:Nat,k=[zd (p:Int),zd (q:Int)]/\p<42/\q<42
theorem kJV {prog:eo} {w:iD}:∀ {ys:List (List Key×av×ar)},(∀ y∈ys,kHZ y.1)->(ys.map (·.1)).Nodup->(ys.map λ y=>(tupleKind (qX prog w)).hash y.1).Nodup:=by
 intro ys hp nd;have:ys.map (λ y=>(tupleKind (qX prog w)).hash y.1)=(ys.map (·.1)).map (tupleKind (qX prog w)).hash:=by rw [As];rfl
 rw [this];refine ke.mpr (nd.imp_of_mem λ {a b} ha hb ne e=>ne ?_);obtain ⟨x,hx,rfl⟩:=iO.mp ha;obtain ⟨y,hy,rfl⟩:=iO.mp hb;obtain ⟨p,q,e1,p1,q1⟩:=hp x hx;obtain ⟨p',q',e2,p2,q2⟩:=hp y hy;rw [e1,e2] at e ⊢
 have:Hsh.hp p q=Hsh.hp p' q':=by
  unfold Hsh.hp;exact congrArg (λ z:Int=>(z+2 ^ 63).toNat) e
 obtain ⟨rfl,rfl⟩:=Hsh.hp_inj p1 q1 p2 q2 this
 rfl
def kNI:V->List V->Hp->VK->Prop:=λ x vs H Q=>∃ (a b:av) (kvs more:List (List Key×V)),x=.ref a/\vs=[.ref b]/\a≠b/\H a=some (.dT kvs)/\H b=some (.dT more)/\(∀ y∈more,kHZ y.1)/\kvs.length+more.length<=sizeLine/\Q .non (upd H a (.dT (yH kvs more)))
theorem kJH (hu:X.A.units+1<cLine):MtM X "dict.update" kNI:=by
 intro pins s σ H x vs v us Q I rx rv h;obtain ⟨a,b,kvs,more,rfl,rfl,ab,ha,hb,hp,hz,q⟩:=h;cases rx
 obtain ⟨u,rfl,ru⟩:=rv.one;cases ru
 obtain ⟨za,hda,xs,ra,da⟩:=kHO I.hok ha;obtain ⟨zb,hdb,ys,rb,db⟩:=kHO I.hok hb
 have hp':∀ y∈ys,kHZ y.1:=by
  have:∀ {l:List (List Key×V)} {m:List (List Key×av×ar)},KT H l m->(∀ y∈l,kHZ y.1)->∀ y∈m,kHZ y.1:=by
   intro l m r
   induction r with
   | nil=>intro _ y hy;exact nomatch hy
   | @cons p1 q1 ps qs z t ih =>
    intro hl y hy;rcases du.mp hy with rfl | hy
    ·rw [<-z.1]
     exact hl _ (eQ ..)
    ·exact ih (λ y h=>hl y (dj _ h)) y hy
  exact this rb hp
 have nd:(ys.map (·.1)).Nodup:=let ⟨_,_,_,_,_,_,_,_,n⟩:=db;n;have lx:=ve ra;have ly:=ve rb;refine call_meetsIn BD da.typeIs PySem.F.entry_dict_update (PySem.F.args_dict_update_2 _ _) (Dct.meets_upd (qX X.prog X.w) a b ab hdb) ⟨CM (knd:=qX X.prog X.w) hu,xs,ys,da,db,by omega,λ _=>kJV hp' nd,λ h' dd' hs=>?_⟩;obtain ⟨qo,es,ep,hq,h2,h3,h4,_,h5⟩:=dd';have lf:=ve (KT.fold ra rb);have lz:=Dct.fold_len xs ys;refine ⟨.non,upd H a (.dT (yH kvs more)),pM (t':=s.toks) I (by rw [ha];exact uu) hs ⟨qo,hq⟩ ⟨by omega,hda,_,(KT.fold ra rb).keeps λ c zs ec=>?_,qo,es,ep,hq,h2,h3,h4,h5⟩,rfl,q⟩;rw [kO (vR ec ha (λ z=>nomatch z))];exact ec
end
section
variable {X:Cx}
end
section
variable {X:Cx}
end
section
variable {prog:eo} {w:iD} {A:fb} {E:ar->ay->Prop} {s:ay} {z TI TO i1 i2:av} {fp1 fp2:List av} {n1 n2 j:Nat} {P1 P2:Nat->ar->Prop} {S1 S2:Nat->gy->Prop} {a b:ar}
theorem kCI {Q:ui->ay->Prop} (D1:Fi prog w A i1 fp1 n1 P1 S1) (D2:Fi prog w A i2 fp2 n2 P2 S2) (ap:ZAp z TI TO i1 i2 fp1 fp2)
  (hz:BF s.heap z TI TO .none) (hTI:vh s.heap TI (.ref i1) (.ref i2)) (hTO:vh s.heap TO a b) (h1:S1 n2 s.heap) (h2:S2 n2 s.heap) (l1:n2<n1)
  (hE:∀ h' e tk,(∀ c o,c≠z->c≠TO->c≠i1->c≠i2->s.heap.get? c=some o->h'.get? c=some o)->(∃ o,h'.get? e=some o/\o.cls=.type "StopIteration")->E (.ref e) { s with heap:=h',toks:=tk }) :
  eD (model prog w) A (AK.«zip.__next__» ⟨[.ref z],[]⟩) Q E s:=by
 have fr1:∀ {i:Nat} {h h':gy} {c:av},S1 i h->jd c h h'->c∉fp1->S1 i h':=λ st sb hc=>D1.frame _ _ _ st λ b hb o e=>sb.extBut b o (λ q=>hc (q ▸ hb)) e;have fr2:∀ {i:Nat} {h h':gy} {c:av},S2 i h->jd c h h'->c∉fp2->S2 i h':=λ st sb hc=>D2.frame _ _ _ st λ b hb o e=>sb.extBut b o (λ q=>hc (q ▸ hb)) e;show eD _ _ (field (.ref z) 2 >>= _) _ _ _;refine ae (kg hz rfl (x:=.bool false) rfl ?_);show eD _ _ (field (.ref z) 3 >>= _) _ _ _;refine ae (kg hz rfl (x:=.ref TI) rfl ?_);refine ae (qq hTI rfl ?_);show eD _ _ (km (.ref z) >>= _) _ _ _;refine ae ?_;unfold km;refine ae (kg hz rfl (x:=.none) rfl (bx ?_));simp only [if_true];refine ae (vy ?_);refine ae (kg hz rfl (x:=.ref TO) rfl ?_);refine ae (uv hz (by simp) λ g1 z1 s1=>?_)
 replace z1:BF g1 z TI TO .ellipsis:=z1
 refine ae ?_
 simp only [BG,Df,Ba,EC]
 refine ae (ae (Ay ?_));show eD _ _ (iU (.ref i1) >>= _) _ _ _;refine ae (D1.item n2 _ _ _ l1 (fr1 h1 s1 ap.z1) λ x g2 tk2 px st2 s2=>bx ?_);have o2:vh g2 TO a b:=s2.extBut _ _ ap.TOi1 (s1.extBut _ _ ap.zTO.symm hTO);refine ae (qq o2 rfl ?_);refine ae (zf o2 λ g3 o3 s3=>?_)
 replace o3:vh g3 TO x b:=o3
 refine ae (DY (bx ?_));refine ae (ae (Ay ?_));show eD _ _ (iU (.ref i2) >>= _) _ _ _;refine ae (D2.done _ _ _ (fr2 (fr2 (fr2 h2 s1 ap.z2) s2 ap.i1f) s3 ap.t2) λ g4 e s4 he=>?_);obtain ⟨oe,hoe,hce⟩:=he;have z3:BF g3 z TI TO .ellipsis:=s3.extBut _ _ ap.zTO (s2.extBut _ _ ap.zi1 z1);have z4:BF g4 z TI TO .ellipsis:=s4 _ _ ap.zi2 z3;have ez:e≠z:=λ q=>by subst q;rw [z4] at hoe;cases hoe;simp at hce
 exact uv z4 (by simp) λ g5 _ s5=>hE g5 e _ (λ c o c1 c2 c3 c4 q=>s5.extBut _ _ c1 (s4 _ _ c4 (s3.extBut _ _ c2 (s2.extBut _ _ c3 (s1.extBut _ _ c1 q))))) ⟨oe,s5.extBut _ _ ez hoe,hce⟩
end
def kMV (k1 k2 : Bool) (K : cf) (a b : av) : It :=
  ⟨λ i H => ∃ xs ys x y, SqX K k1 H a xs /\ SqX K k2 H b ys /\ xs[i]? = some x /\ ys[i]? = some y,
   λ i H v H' => ∃ T x y, H T = none /\ v = .ref T /\ (∀ xs, SqX K k1 H a xs -> xs[i]? = some x) /\ (∀ ys, SqX K k2 H b ys -> ys[i]? = some y) /\ H' = upd H T (.tup [x, y]),
   λ i H => ∃ xs ys x, SqX K k1 H a xs /\ SqX K k2 H b ys /\ xs[i]? = some x /\ ys.length = i⟩
theorem kCO {P:eo} {w:iD} {K:cf} {elts:List iJ} {x1} {pos:Pos} (k1 k2:Bool) (a b z TI TO i1 i2:av) (ap:ZAp z TI TO i1 i2 [i1,a] [i2,b]) :
  Turn P w K (.Tuple elts x1 pos) (kMV k1 k2 K a b) [z,TO,i1,i2,TI] z
   (λ i h=>BF h z TI TO .none/\vh h TI (.ref i1) (.ref i2)/\(∃ u v,vh h TO u v)/\ItOf k1 h i1 a i/\ItOf k2 h i2 b i) where
 mem:=by simp
 obj:=λ i h st c hc=>by
  obtain ⟨hz,hTI,⟨u,v,hTO⟩,h1,h2⟩:=st;simp only [du,kh,or_false] at hc;rcases hc with rfl | rfl | rfl | rfl | rfl
  ·exact ⟨_,hz,λ v q=>by cases q⟩
  ·exact ⟨_,hTO,λ v q=>by cases q⟩
  ·exact h1.live
  ·exact h2.live
  ·exact ⟨_,hTI,λ v q=>by cases q⟩
 keep:=λ i h h' st kk=>by
  obtain ⟨hz,hTI,⟨u,v,hTO⟩,h1,h2⟩:=st;exact ⟨kk z (by simp) _ hz,kk TI (by simp) _ hTI,⟨u,v,kk TO (by simp) _ hTO⟩,h1.at λ o q=>kk i1 (by simp) o q,h2.at λ o q=>kk i2 (by simp) o q⟩
 item:=by
  intro X hP hw hK hc i pins s σ H E I hf st hg;subst hP hw hK;obtain ⟨hz,hTI,⟨u0,v0,hTO⟩,h1,h2⟩:=st;obtain ⟨xs,ys,x,y,hq1,hq2,hx,hy⟩:=hg;obtain ⟨its1,rv1,p1⟩:=I.sq hq1;obtain ⟨its2,rv2,p2⟩:=I.sq hq2;obtain ⟨u,hu,ru⟩:=rv1.get hx;obtain ⟨v,hv,rv⟩:=rv2.get hy;have D1:=wY (prog:=X.prog) (w:=X.w) (A:=X.A.in1) (I.ok.hd hc) k1 i1 a (mH p1 h1) its1.toArray;have D2:=wY (prog:=X.prog) (w:=X.w) (A:=X.A.in1) (I.ok.hd hc) k2 i2 b (mH p2 h2) its2.toArray;have hlt1:i<its1.toArray.size:=by simpa using (aq.mp hu).1
  have hlt2:i<its2.toArray.size:=by simpa using (aq.mp hv).1
  have hT:s.TypeIs (.ref z) "zip":=⟨_,hz,rfl⟩;unfold pyNext
  refine ae (BB (lu (name:=yf "__next__") hT AB (qh AB hT DN
   (kCH D1 D2 ap hz hTI hTO ⟨h1,p1⟩ ⟨h2,p2⟩ hlt1 hlt2 λ u' v' h' tk hu' hv' z' o' s1' s2' t' hk=>bx ?_) (DA _))))
  have eu:u'=u:=by
   have q:its1[i]?=some u':=by simpa using hu'
   rw [hu] at q;exact (bj q).symm
  have ev:v'=v:=by
   have q:its2[i]?=some v':=by simpa using hv'
   rw [hv] at q;exact (bj q).symm
  subst eu ev;refine ⟨_,rfl,wpAny_letOwnedTupleGo_zip z' λ g hz2 hs2=>?_⟩;have zlt:z<s.heap.objs.size:=cm hz;have TOlt:TO<s.heap.objs.size:=cm hTO;have i1lt:i1<s.heap.objs.size:=let ⟨_,e,_⟩:=h1.live;cm e;have i2lt:i2<s.heap.objs.size:=let ⟨_,e,_⟩:=h2.live;cm e;have TIlt:TI<s.heap.objs.size:=cm hTI;have hT2:g.get? s.heap.objs.size=some { cls:=.type "tuple",data:=.seq #[u',v'] }:=hs2.extBut _ _ (wk zlt) t'
  obtain ⟨I2,n2⟩:=I.handed (t':=tk) (ch:=[z,TO,i1,i2]) ru rv hT2 (λ c o hc' q=>hs2.extBut c o (λ e=>hc' (by simp [e])) (hk c o (λ e=>hc' (by simp [e])) (λ e=>hc' (by simp [e])) (λ e=>hc' (by simp [e])) (λ e=>hc' (by simp [e])) q))
   (λ c hc'=>hf c (by simp at hc' ⊢;rcases hc' with e | e | e | e<;>simp [e]))
   (λ c hc'=>by simp at hc';rcases hc' with rfl | rfl | rfl | rfl<;>assumption)
  refine ⟨.ref s.heap.objs.size,_,I2,rfl,⟨_,x,y,I.hok.fresh (bq _),rfl,(λ xs' hxs=>by rw [I.sq_inj hxs hq1];exact hx),(λ ys' hys=>by rw [I.sq_inj hys hq2];exact hy),rfl⟩,?_,λ c hc'=>?_⟩
  ·exact ⟨hz2,hs2.extBut _ _ ap.zTI.symm (hk _ _ ap.zTI.symm ap.TITO ap.TIi1 ap.TIi2 hTI),⟨_,_,hs2.extBut _ _ ap.zTO.symm o'⟩,s1'.1.at λ o q=>hs2.extBut i1 o ap.zi1.symm q,s2'.1.at λ o q=>hs2.extBut i2 o ap.zi2.symm q⟩
  ·by_cases e:c=TI
   ·subst e
    rw [kO (dc TIlt)];exact (hf c (by simp)).1
   ·exact n2 c (by simp at hc' ⊢;rcases hc' with q | q | q | q | q<;>simp_all)
 done:=by
  intro X hP hw hK hc i pins s σ H E I hf st hg;subst hP hw hK;obtain ⟨hz,hTI,⟨u0,v0,hTO⟩,h1,h2⟩:=st;obtain ⟨xs,ys,x,hq1,hq2,hx,hy⟩:=hg;obtain ⟨its1,rv1,p1⟩:=I.sq hq1;obtain ⟨its2,rv2,p2⟩:=I.sq hq2;obtain ⟨u,hu,ru⟩:=rv1.get hx;have D1:=wY (prog:=X.prog) (w:=X.w) (A:=X.A.in1) (I.ok.hd hc) k1 i1 a (mH p1 h1) its1.toArray;have D2:=wY (prog:=X.prog) (w:=X.w) (A:=X.A.in1) (I.ok.hd hc) k2 i2 b (mH p2 h2) its2.toArray;have hl:its2.toArray.size=i:=by rw [<-hy,rv2.length];simp
  have hlt1:i<its1.toArray.size:=by simpa using (aq.mp hu).1
  have hT:s.TypeIs (.ref z) "zip":=⟨_,hz,rfl⟩;unfold pyNext
  refine ae (BB (lu (name:=yf "__next__") hT AB (qh AB hT DN
   (kCI D1 D2 ap hz hTI hTO ⟨hl ▸ h1,p1⟩ ⟨hl ▸ h2,p2⟩ (by omega) λ h' e tk hk he=>?_) (DA _))))
  obtain ⟨o,ho,hcl⟩:=he;refine ae (DM (T:="StopIteration") (b:=true) ⟨o,ho,hcl⟩ isSubtype_stop ?_)
  refine bx ⟨rfl,I.turnedL (t':=tk) (ch:=[z,TO,i1,i2]) (λ c o hc' q=>hk c o (λ e=>hc' (by simp [e])) (λ e=>hc' (by simp [e])) (λ e=>hc' (by simp [e])) (λ e=>hc' (by simp [e])) q)
   (λ c hc'=>hf c (by simp at hc' ⊢;rcases hc' with e | e | e | e<;>simp [e]))⟩
 self:=λ _ _ _ _ _ st h=>DO st.1 h
section
variable {X:Cx}
def kNT (k1 k2:Bool) (K:cf) (ta:TA):TI:=λ σ H R=>ta σ H λ vs H1=>∃ a b,vs=[.ref a,.ref b]/\(∃ xs,SqX K k1 H1 a xs)/\(∃ ys,SqX K k2 H1 b ys)/\R (kMV k1 k2 K a b) H1
theorem kIR (k1 k2:Bool) {a b:iJ} {ta:TA} {p pos tpos:Pos} {elts:List iJ} {x1} (hg:Gl X "zip") (hm:X.mg "zip" = none) (ha:PA X [a,b] ta) (hs:starEach [a,b] X.env=[(false,eval a X.env),(false,eval b X.env)]:=by rfl) (hs2:starEach [b] X.env=[(false,eval b X.env)]:=by rfl) :
  PI X (.Tuple elts x1 tpos) (.Call (.Name "zip" p) [a,b] [] pos) (kNT k1 k2 X.K ta):=by
 intro pins s σ H R I h;refine FT (vH I hg hm boot_zip (ie (thn (ha pos pins s σ H _ I h) λ us s1 ⟨vs,H1,I1,r1,q1⟩=>?_) (by rw [hs,hs2]) (by rw [hs2];rfl)));obtain ⟨l1,l2,rfl,⟨xs,hq1⟩,⟨ys,hq2⟩,q⟩:=q1;obtain ⟨u,v,rfl,r,r'⟩:=mD r1;cases r
 cases r'
 obtain ⟨its1,rv1,p1⟩:=I1.sq hq1;obtain ⟨its2,rv2,p2⟩:=I1.sq hq2;have lt1:=p1.lt;have lt2:=p2.lt;refine sS p1 p2 λ h' hz hTI hTO h1 h2 hk=>?_;refine DO (s:={ s1 with heap:=h' }) hz ?_
 have f:∀ c,s1.heap.objs.size<=c->zD X pins H1 c:=λ c hc=>I1.fpOk hc (I1.hok.fresh hc)
 refine ⟨_,[s1.heap.objs.size+4,s1.heap.objs.size+3,s1.heap.objs.size,s1.heap.objs.size+1,s1.heap.objs.size+2],_,_,H1,rfl,I1.kept (t':=s1.toks) hk,
  kCO k1 k2 l1 l2 _ _ _ _ _ (zap _ _ _ lt1 lt2),⟨hz,hTI,⟨_,_,hTO⟩,h1,h2⟩,λ c hc=>?_,q⟩
 simp at hc;rcases hc with rfl | rfl | rfl | rfl | rfl<;>exact f _ (by omega)
end
end L2
namespace HT
open PySem PySem.Spec PyProof.Rows
section
variable {prog:eo} {w:iD} {A:fb} {E:ar->ay->Prop} {s:ay}
theorem cat_tup0 {t b:av} {ws:List ar} {Q:ar->ay->Prop} (ht:Dm s.heap t ([]:List ar).toArray) (hb:Dm s.heap b ws.toArray) (h:Q (.ref b) s):eD (model prog w) A (binaryOp .Add (.ref t) (.ref b)) Q E s:=by
 obtain ⟨⟨cls,dd,data,sl⟩,ho,hc,n,hd⟩:=id ht;obtain ⟨⟨cls2,dd2,data2,sl2⟩,ho2,hc2,n2,hd2⟩:=id hb;simp only at hc hd hc2 hd2;subst hc hd hc2 hd2
 exact Cj ⟨_,ho,rfl⟩ ⟨_,ho2,rfl⟩ BE CC ye yb (wz _ _)
   (tuple_addW0 t b _ ws.toArray n n2 dd dd2 sl sl2 (by simp)) ⟨ho,ho2,h⟩
theorem kHJ {α:Type}:∀ ys:List α,(cu ys.length).filterMap (λ (k:Nat)=>ys[k]?)=ys
 | []=>rfl
 | y::ys=>by
  rw [eX,List.range_succ_eq_map,vw];show y::((cu ys.length).map Nat.succ).filterMap (λ (k:Nat)=>(y::ys)[k]?)=y::ys;rw [AY];exact congrArg (y::·) (kHJ ys)
theorem lK {α β:Type} {f g:α->Option β}:∀ l:List α,(∀ x∈l,f x=g x)->l.filterMap f=l.filterMap g
 | [],_=>rfl
 | x::l,h=>by rw [vw,vw,h x (by simp),lK l λ y hy=>h y (by simp [hy])]
theorem kFR {α:Type} (xs:List α):(cu xs.length).filterMap (λ (k:Nat)=>xs[(((xs.length:Int)-1)+(k:Int)*(-1)).toNat]?)=xs.reverse:=by
 have h:=kHJ xs.reverse;rw [wg] at h;rw [<-h];refine lK _ λ k hk=>?_;have hk:=gw.mp hk;rw [Bi hk]
 congr 1
 omega
end
end HT
namespace L2
open PySem PySem.Spec PyProof.Rows
def kMW (H H':Hp):Prop:=∀ b o,H b=some o->H' b=some o
section
variable {X:Cx}
theorem sF {H:Hp} {p:av} (h:H p=none) (o:HO):kMW H (upd H p o):=λ b u q=>by rw [kO (kH q h)];exact q
def kOY (K:cf):V->Option Int->Option Int->Hp->VK->Prop:=λ x lo hi H Q=>∃ a xs,x=.ref a/\H a=some (.tup xs)/\∀ p H',kMW H H'->H' p=some (.tup (jO xs lo hi))->Q (.ref p) H'
theorem kBD:SlR X (kOY X.K):=by
 intro pins s σ H x v vl vu lo hi sl Q I rx hs pl pu h;obtain ⟨a,xs,rfl,hx,q⟩:=h;refine oC pins s σ H _ v vl vu lo hi sl Q I rx hs pl pu ?_;by_cases c:HT.sIx xs.length 0 lo=0/\HT.sIx xs.length xs.length hi=xs.length
 ·refine .inr ⟨a,xs,rfl,SqT.of hx,c,q a H (λ _ _ e=>e) ?_⟩
  rw [hx];unfold jO;rw [c.1,c.2];simp
 ·exact .inl ⟨a,xs,rfl,SqT.of hx,c,λ p np=>q p _ (sF np _) kC⟩
def kNN (K:cf):R2:=λ x y H Q=>∃ a b xs ys,x=.ref a/\y=.ref b/\H a=some (.tup xs)/\H b=some (.tup ys)/\xs.length+ys.length<=sizeLine/\∀ p H',kMW H H'->H' p=some (.tup (xs++ys))->Q (.ref p) H'
theorem kJA:OpR X (binaryOp .Add) (kNN X.K):=by
 intro pins s σ H x y v u Q I rx ry h;obtain ⟨a,b,xs,ys,rfl,rfl,ha,hb,hz,q⟩:=h;by_cases c:xs=[]
 ·subst c
  cases rx
  cases ry
  obtain ⟨its,r1,p1,_⟩:=I.tuple (SqT.of (K:=X.K) ha);obtain ⟨its2,r2,p2,_⟩:=I.tuple (SqT.of (K:=X.K) hb);cases r1
  exact HT.cat_tup0 p1 p2 ⟨.ref b,H,I,rfl,q b H (λ _ _ e=>e) (by simpa using hb)⟩
 ·refine kBI pins s σ H _ _ v u Q I rx ry ⟨a,b,xs,ys,rfl,rfl,SqT.of ha,SqT.of hb,c,hz,λ e=>q a H (λ _ _ z=>z) (by rw [e,iN];exact ha),λ _ p np=>q p _ (sF np _) kC⟩
end
theorem kCL {k:Bool} {K:cf} {a:av} {xs:List V} {g:TG} {b:TB} {N0:St->Hp->Prop} {σ:St} {H:Hp} (Pv:Nat->St->Hp->Prop) (h0:Pv 0 σ H) (hl:∀ i σ H,i<=xs.length->Pv i σ H->SqX K k H a xs)
  (hs:∀ i x T σ H,xs[i]?=some x->H T=none->Pv i σ H->g (.ref T) σ (upd H T (.tup [.int i,x])) λ σ2 H2=>b (Pv (i+1)) σ2 H2) (hd:∀ σ H,Pv xs.length σ H->N0 σ H):uW (Ite k K a) g b N0 σ H:=by
 refine ⟨λ i m σ H=>m=xs.length-i/\i<=xs.length/\Pv i σ H,⟨xs.length,by simp,gm _,h0⟩,?_⟩;rintro i m σ H ⟨rfl,hle,p⟩;have q1:=hl i σ H hle p;rcases fe i xs.length with hi | hi
 ·refine .inr ⟨⟨xs,xs[i],q1,by simp [hi]⟩,Pv (i+1),λ σ' H' q=>⟨xs.length-(i+1),by omega,rfl,by omega,q⟩,λ x H' hy=>?_⟩
  obtain ⟨T,x1,nT,rfl,e1,rfl⟩:=hy;exact hs i x1 T σ H (e1 xs q1) nT p
 ·obtain rfl:i=xs.length:=by omega
  exact .inl ⟨⟨xs,q1,rfl⟩,hd σ H p⟩
section
variable {X:Cx}
end
end L2
namespace SetI
open PySem L2 PyProof.Rows PySem.Spec
theorem kMA:isSubtype (.type "tuple") (.type "set")=pure false:=by rw [EK];kernel_rfl
theorem kDJ:isSubtype (.type "tuple") (.type "frozenset")=pure false:=by rw [EK];kernel_rfl
abbrev aT (led:Bool):Obj:={ cls:=.type "set",dict:=none,data:=.set #[] 0 (.fresh 0 0 led) }
theorem oY (val:Nat->Int):∀ (n:Nat) (x:Int),x∈firstMet val n↔∃ i,i<n/\val i=x
 | 0,x=>⟨(λ h=>nomatch h),λ ⟨i,h,_⟩=>absurd h (Dj _)⟩
 | n+1,x=>by
  rw [firstMet_succ];unfold step_dedup;have ih:=oY val n
  split
  ·rename_i h
   rw [ih x];constructor
   ·rintro ⟨i,a,b⟩;exact ⟨i,by omega,b⟩
   ·rintro ⟨i,a,b⟩
    rcases fe i n with z | z
    ·exact ⟨i,z,b⟩
    ·obtain rfl:i=n:=by omega
     obtain ⟨y,hy,e⟩:=zc.mp h;rw [beq_iff_eq] at e;rw [<-b,<-e];exact (ih y).mp hy
  ·rw [bz,ih x,cy]
   constructor
   ·rintro (⟨i,a,b⟩ | rfl)
    ·exact ⟨i,by omega,b⟩
    ·exact ⟨n,by omega,rfl⟩
   ·rintro ⟨i,a,b⟩
    rcases fe i n with z | z
    ·exact .inl ⟨i,z,b⟩
    ·obtain rfl:i=n:=by omega
     exact .inr b.symm
theorem kBK (val:Nat->Int):∀ (n:Nat),(firstMet val n).length=n↔∀ i j,i<j->j<n->val i≠val j
 | 0=>⟨λ _ i j _ h=>absurd h (Dj _),λ _=>rfl⟩
 | n+1=>by
  have ih:=kBK val n;have le:=CW val n;rw [firstMet_succ,step_length]
  split
  ·rename_i h
   obtain ⟨y,hy,e⟩:=zc.mp h;rw [beq_iff_eq] at e;obtain ⟨i,hi,ei⟩:=(oY val n y).mp hy;exact ⟨λ z=>by omega,λ z=>absurd (ei.trans e) (z i n hi (by omega))⟩
  ·rename_i h
   constructor
   ·intro z i j hij hj
    rcases fe j n with l | l
    ·exact ih.mp (by omega) i j hij l
    ·obtain rfl:j=n:=by omega
     intro e;exact h (zc.mpr ⟨val j,(oY val j _).mpr ⟨i,hij,e⟩,by simp⟩)
   ·intro z
    rw [ih.mpr λ i j a b=>z i j a (by omega)]
theorem met_nodup (ns:List Int):(firstMet (λ i=>ns.getD i 0) ns.length).length=ns.length↔ns.Nodup:=by
 rw [kBK];unfold iz;rw [jc];constructor
 ·intro h i j hi hj hij
  have:=h i j hij hj;simpa [hi,hj] using this
 ·intro h i j hij hj
  have:=h i j (by omega) hj hij;have hi:i<ns.length:=by omega
  simpa [hi,hj] using this
section
variable {prog:eo} {w:iD} {A:fb} {E:ar->ay->Prop} {s:ay}
theorem call_setT {t:av} {its:List ar} {ns:List Int} {Q:ar->ay->Prop} (hh:A.handled=none) (ht:s.heap.IsTuple t its.toArray) (hi:Bv its ns) (h4:its.toArray.size+1<scanBound)
  (q:∀ (h':gy) (tk:Nat),h'.SetOf (intKind prog w) s.heap.objs.size (λ k=>(firstMet (λ i=>ns.getD i 0) its.toArray.size).any (· == k)) (firstMet (λ i=>ns.getD i 0) its.toArray.size).length->(∀ b o,s.heap.get? b=some o->h'.get? b=some o)->Q (.ref s.heap.objs.size) { s with heap:=h',toks:=tk }) :
  eD (model prog w) A (call (.type "set") [.ref t]) Q E s:=by
 obtain ⟨_,_,hmro⟩:=vb.mro;have f1:=vb.made;have f2:=vb.sub;refine wpAny_call (De ?_);refine bx ⟨CU _ (by decide +kernel),Bb F.entry_type_call ?_⟩;rw [Around.under_plain (weight_type_call_type "set" [.ref t] []) rfl];have f3:=vb.notType;have f4:=vb.canCreate;have f5:=F.typeCall_set_1 (.ref t)
 repeat (any_goals (first | assumption | wp_step))
 refine AI (code_set_new_1 (.ref t) (E:=E) (Q₁:=λ v s₁=>∃ led:Bool,v=.ref s.heap.objs.size/\s₁={ s with heap:=s.heap.push (aT led) }) λ led=>⟨led,rfl,rfl⟩) λ r s₁ hr=>?_
 cases r with
 | error e=>exact hr
 | ok fl =>
  cases fl with
  | next=>exact hr.elim
  | brk=>exact hr.elim
  | cont=>exact hr.elim
  | ret v =>
   obtain ⟨led,rfl,rfl⟩:=hr;have hS:(s.heap.push (aT led)).get? s.heap.objs.size=some (aT led):=cn _ rfl;have hT:Shared.TypeIs { s with heap:=s.heap.push (aT led) } (.ref s.heap.objs.size) "set":=⟨_,hS,rfl⟩
   have g1:=vb.init.lookup;have g2:=vb.init.bind (.ref s.heap.objs.size)
   repeat (any_goals (first | assumption | wp_step))
   refine AI (codeAny_call_builtin (R:=wants (λ r s₂=>r=.none/\∃ h' tk,s₂={ s with heap:=h',toks:=tk }/\h'.SetOf (intKind prog w) s.heap.objs.size (λ k=>(firstMet (λ i=>ns.getD i 0) its.toArray.size).any (· == k)) (firstMet (λ i=>ns.getD i 0) its.toArray.size).length/\(∀ b o,s.heap.get? b=some o->h'.get? b=some o)) E)
    vb.init.plain F.entry_set_init (check_set_init_1 hT ?_)) λ r₂ s₂ hr₂=>?_
   ·have ht1:(s.heap.push (aT led)).IsTuple t its.toArray:=ht.at λ o e=>au _ e
    obtain ⟨ol,hol,hcl,nl,hdl⟩:=id ht1;obtain ⟨ocls,odict,odata,oslots⟩:=ol;simp only at hcl hdl;subst hcl;subst hdl;have k1:=kMA;have k2:=kDJ;have k3:(xx "tuple" == xx "dict")=false:=by decide
    have tS:t<s.heap.objs.size:=by obtain ⟨o,e,_⟩:=ht;exact cm e
    unfold AK.«set.__init__» noKeywords Dk;generalize hPI:pyIter=PI
    wp_walk
    subst hPI;refine qj ht1 ?_;refine ae (EJ ?_);have keep2:∀ (b:av) (o:Obj) (x:Obj),s.heap.get? b=some o->((s.heap.push (aT led)).push x).get? b=some o:=λ b o x e=>au _ (au _ e);have hh3:A.in1.in1.in1.handled=none:=by simp [hh]
    have zS:(s.heap.push (aT led)).objs.size=s.heap.objs.size+1:=iu ..;refine codeAny_set_update_loopS ((Walks.tuple hh3 _ t (by rw [zS];exact dc (vp tS)) its.toArray).toS) s.heap.objs.size ?ne (λ i=>ns.getD i 0) (λ i v e=>IntsAre.int_at hi i v (by rw [<-Bj];exact e)) h4 (its.toArray.size-0) 0 _ (by omega) (gm _) ⟨⟨_,cn _ rfl,rfl,rfl⟩,ht1.at λ o e=>au _ e⟩ ?set0 ?fin
    case ne =>
     rw [zS];simp only [du,kh,or_false,not_or];exact ⟨dc (DP _),wk tS⟩
    case set0=>exact SetOf_congr ((setObjOf_fresh (knd:=intKind prog w) led).setOf (au _ hS) (by unfold scanBound;omega)) (λ _=>rfl) rfl
    case fin =>
     intro s' hm hS';obtain ⟨h',g',d',tk',os'⟩:=s';obtain rfl:g'=s.gens:=hm.gens;obtain rfl:d'=s.drawn:=hm.drawn;obtain rfl:os'=s.os:=hm.os;refine bx (bx ⟨rfl,h',tk',rfl,hS',λ b o e=>?_⟩);refine hm.heap b o ?_ (keep2 b o _ e);have:=cm e;simp only [du,kh,or_false,not_or];exact ⟨dc this,by rw [zS];exact dc (vp this)⟩
   ·cases r₂ with
    | error e=>exact hr₂
    | ok fl₂ =>
     cases fl₂ with
     | next=>exact hr₂.elim
     | brk=>exact hr₂.elim
     | cont=>exact hr₂.elim
     | ret r =>
      obtain ⟨rfl,h',tk,rfl,k1,k3⟩:=hr₂
      repeat (any_goals (first | assumption | wp_step))
      exact q _ _ k1 k3
end
end SetI
namespace L2
open PySem PySem.Spec PyProof.Rows
section
variable {X:Cx}
theorem kEK (hc:X.calm=true):xH X (.type "set") (λ xs H Q=>∃ (p:av) (ns:List Int),xs=[.ref p]/\(SqL X.K H p (ns.map V.int)\/SqT X.K H p (ns.map V.int))/\ns.length<=4000/\∀ (S:av) (f:Int->Bool) (n:Nat),H S=none->(n=ns.length↔ns.Nodup)->n<=ns.length->Q (.ref S) (upd H S (.set f n))):=by
 intro pins s σ H xs us Q I r h;obtain ⟨p,ns,rfl,hq,hn,q⟩:=h;obtain ⟨u,rfl,rx⟩:=vP r;cases rx
 have hf:H s.heap.objs.size=none:=I.hok.fresh (bq _);have le:=λ n=>CW (λ i=>ns.getD i 0) n;rcases hq with hq | hq
 ·obtain ⟨its,rv,pl,hz⟩:=I.list hq
  have hi:=uO rv;have sz:its.toArray.size=ns.length:=by rw [eV,<-rv.length,ao]
  refine call_set_list (I.ok.hd hc) pl.isList (by simpa using hi) (by rw [sz];unfold scanBound;omega) λ h' tk hS k=>?_;rw [sz] at hS;exact ⟨.ref s.heap.objs.size,_,I.laid (t':=tk) (λ b o e=>k b o (cm e) e) (bq _) (show ObjOk X.prog X.w _ h' _ (.set _ _) from hS),rfl,q _ _ _ hf (SetI.met_nodup ns) (le _)⟩
 ·obtain ⟨its,rv,tp,hz⟩:=I.tuple hq
  have hi:=uO rv;have sz:its.toArray.size=ns.length:=by rw [eV,<-rv.length,ao]
  refine SetI.call_setT (I.ok.hd hc) tp hi (by rw [sz];unfold scanBound;omega) λ h' tk hS k=>?_;rw [sz] at hS;exact ⟨.ref s.heap.objs.size,_,I.laid (t':=tk) k (bq _) (show ObjOk X.prog X.w _ h' _ (.set _ _) from hS),rfl,q _ _ _ hf (SetI.met_nodup ns) (le _)⟩
theorem kEO:xH X (.builtin "len") (λ xs H Q=>∃ (S:av) (f:Int->Bool) (n:Nat),xs=[.ref S]/\H S=some (.set f n)/\Q (.int n) H):=by
 intro pins s σ H xs us Q I r h;obtain ⟨S,f,n,rfl,hS,q⟩:=h;obtain ⟨u,rfl,rx⟩:=vP r;cases rx
 obtain ⟨o,es,ep,t,ho,hex,hd,_,_,hb,fit,rfl⟩:=I.hok S _ hS;exact call_len_set ho hex hd fit (by unfold scanBound at hb;omega) ⟨.int es.size,H,I.tok _,⟨_,rfl⟩,q⟩
end
end L2
namespace HT
open PySem PySem.Spec PyProof.Rows
section
variable {prog:eo} {w:iD} {A:fb} {E:ar->ay->Prop} {s:ay}
end
end HT
namespace L2
open PySem PySem.Spec PyProof.Rows
section
variable {X:Cx}
def uZ (n:Nat):List V:=(cu n).map λ (i:Nat)=>V.int (i:Int)
theorem kEV {n:Nat} {acc:Array ar} (h:ItemsOf (λ i v=>∃ t,v=.int ((0:Int)+i*1) t) acc n):Vals (uZ n) acc.toList:=by
 obtain ⟨h1,h2⟩:=h
 have:∀ (m:Nat) (l:List ar) (k:Nat),l.length=m->(∀ (j:Nat) (v:ar),l[j]?=some v->∃ t,v=qz (((k+j:Nat):Int)) t)->Vals ((jb k m).map λ (i:Nat)=>V.int (i:Int)) l:=λ m=>by
  induction m with
  | zero=>intro l k hl _;rw [iY.mp hl];exact .nil
  | succ m ih =>
   intro l k hl hv
   match l,hl with
   | x::l,hl =>
    rw [uj,ft];refine .cons ?_ (ih l (k+1) (by simpa using hl) λ j v e=>?_)
    ·obtain ⟨t,rfl⟩:=hv 0 x rfl
     exact ⟨t,by simp⟩
    ·obtain ⟨t,rfl⟩:=hv (j+1) v (by simpa using e)
     exact ⟨t,by congr 1;omega⟩
 unfold uZ;rw [Br];refine this n acc.toList 0 (by simpa using h1) λ j v e=>?_;obtain ⟨t,rfl⟩:=h2 j v (by simpa using e);exact ⟨t,by simp⟩
def kOP (tp:Bool) (ta:TA):TE:=λ σ H Q=>ta σ H λ vs H1=>∃ n:Nat,vs=[.int (n:Int)]/\n<=1000/\∀ l,H1 l=none->Q (.ref l) (upd H1 l (if tp then .tup (uZ n) else .lst (uZ n)))
theorem kIS {a:iJ} {ta:TA} {p p2 pos pos2:Pos} (hc:X.calm=true) (hg:Gl X "list") (hm:X.mg "list" = none) (hg2:Gl X "range") (hm2:X.mg "range" = none) (ha:PA X [a] ta) (hs:starEach [a] X.env=[(false,eval a X.env)]:=by rfl)
  (hs2:starEach [.Call (.Name "range" p2) [a] [] pos2] X.env=[(false,eval (.Call (.Name "range" p2) [a] [] pos2) X.env)]:=by rfl):PE X (.Call (.Name "list" p) [.Call (.Name "range" p2) [a] [] pos2] [] pos) (kOP false ta):=by
 intro pins s σ H Q I h;refine FT (vH I hg hm boot_list (ie ?_ hs2 rfl));refine FG (FT (vH I hg2 hm2 Dq (ie (thn (ha pos2 pins s σ H _ I h) λ us s1 ⟨vs,H1,I1,r1,q1⟩=>?_) hs rfl)));obtain ⟨n,rfl,hn,q⟩:=q1;obtain ⟨u,rfl,t,rfl⟩:=vP r1;refine call_range_1 ?_;refine FL ?_;have I2:Inv X pins σ H1 { s1 with heap:=s1.heap.push { cls:=.type "range",data:=.fields #[.int 0 s1.toks,.int n t,.int 1 (s1.toks+1)] },toks:=s1.toks+1+1 }:=I1.kept λ b o e=>au _ e
 refine call_list_range (n:=n) (I1.ok.hd hc) (FS ..) (small_one (by omega) (by omega) (by omega) (by omega)) (by rw [rangeSize_one];split<;>omega) (by omega) λ h' tk acc c' hk hl hacc=>?_;have I4:=I2.laid (t':=tk) (o:=.lst (uZ n)) hk (bq _) (show ObjOk X.prog X.w _ _ _ (.lst (uZ n)) from ⟨by unfold uZ;rw [ao,fv];exact iA hn (by decide),acc.toList,_,kEV hacc,by simpa using hl⟩);exact ⟨.ref _,_,I4,rfl,q _ (I2.hok.fresh (bq _))⟩
end
end L2
namespace Tri
open Cyc Rnd
theorem kGV {L W:Rows} {Os Ps:List (List Nat)} {O ms:List Nat} (Y:Lay L Os Ps O) (G:Half L O) (o3:O.length=3) (l3:3<=L.length) (rn:Ren L W ms) (nd:∀ (p:Nat) (row:List Nat),W[p]?=some row->row.Nodup) (sym:∀ a b,E W a b->E W b a) :
  E W (ms.getD 0 0) (ms.getD (L.length-1) 0)/\(nxt W (ms.getD 0 0,ms.getD (L.length-1) 0)).2=ms.getD 1 0:=by
 obtain ⟨B,f,M,l,C,s1,s2,s3⟩:=Y.step (L.length-3) (by omega);have e:=Y.last;rw [show L.length-3+1=L.length-2 by omega,e] at s3;have e:O=B++[f,L.length-3+2,l]++C:=bj s3;rw [show L.length-3+2=L.length-1 by omega] at e;have hl:=o3;rw [e] at hl;simp only [cg,eX,ir] at hl;have hB:B=[]:=iY.mp (by omega);have hC:C=[]:=iY.mp (by omega);rw [hB,hC] at e;have e:O=[f,L.length-1,l]:=by simpa using e
 obtain ⟨h0,h1⟩:=Y.ends;rw [e] at h0 h1;have hf:f=0:=by simpa using h0
 have hl1:l=1:=by simpa using h1
 rw [hf,hl1] at e;rw [e] at G
 have n1:Nx [0,L.length-1,1] (L.length-1) 1:=by
  first | exact .inl (.inr (.inl ⟨rfl,rfl⟩)) | (unfold Nx;simp [Adj])
 have n2:Nx [0,L.length-1,1] 0 (L.length-1):=by
  first | exact .inl (.inl ⟨rfl,rfl⟩) | (unfold Nx;simp [Adj])
 have r:=rn.r_to (G.out _ _ _ n1 n2);have rr:=r;obtain ⟨row,er,n⟩:=r;exact ⟨sym _ _ ⟨row,er,(qC n).2⟩,gR nd rr⟩
theorem aS {W:Rows} (G:Good W):(∀ t∈kP W,(nxt W (nxt W t)).2=t.1)/\(kP W).length+12=6*W.length:=by
 have S:=(Wb.of G).toNb;refine ⟨λ t ht=>?_,by rw [yW];exact G.tot⟩;obtain ⟨x,y⟩:=t;obtain ⟨z,r,en,_⟩:=yJ S (mem_steps.mp ht);rw [en];exact gR G.nd (G.tri _ _ _ r)
theorem kBA {W:Rows} {top ahead st:List Nat} {pl:Nat} (h:stF W top ahead pl=some st) :
  ∃ B f M l C,st=f::M++[l]/\top=B++(f::M++[l])++C/\(∀ q∈st,q∈ahead/\q∈W.getD pl [])/\∀ t∈st.zip st.tail,(nxt W t).2=pl:=by
 unfold stF at h;dsimp only at h;by_cases c1:(top.filter λ q=>decide (q∈ahead.filter λ q=>decide (q∈W.getD pl []))).length<2\/(top.filter λ q=>decide (q∈ahead.filter λ q=>decide (q∈W.getD pl []))).length≠(ahead.filter λ q=>decide (q∈W.getD pl [])).length
 ·rw [if_pos c1] at h
  cases h
 rw [if_neg c1] at h
 split at h
 ·cases h
 rename_i c2
 split at h
 ·rename_i c3
  have h:=bj h;have c2:=Decidable.not_not.mp c2;rw [h] at c1 c2 c3
  have mem:∀ q∈st,q∈ahead/\q∈W.getD pl []:=λ q hq=>by
   rw [<-h] at hq;have:=of_decide_eq_true (fj.mp hq).2;exact ⟨(fj.mp this).1,of_decide_eq_true (fj.mp this).2⟩
  have len:2<=st.length:=by omega
  obtain ⟨f,r,e1⟩ : ∃ a r,st=a::r:=by
   match st,len with
   | a::r,_=>exact ⟨a,r,rfl⟩
  have rn:r≠[]:=λ z=>by rw [e1,z] at len;simp at len
  refine ⟨top.take (top.idxOf (st.headD 0)),f,r.dropLast,r.getLast rn,(top.drop (top.idxOf (st.headD 0))).drop st.length,?_,?_,mem,λ t ht=>of_decide_eq_true (sh.mp c3 t ht)⟩
  ·rw [e1,iC,eR rn]
  ·rw [iC,eR rn,<-e1]
   have e2:top.drop (top.idxOf (st.headD 0))=st++(top.drop (top.idxOf (st.headD 0))).drop st.length:=by
    conv=>lhs;rw [<-eW st.length (top.drop (top.idxOf (st.headD 0))),c2]
   rw [cv,<-e2,eW]
 ·cases h
theorem lE {B:List Nat} {x:Nat} {C:List Nat} (h:x∉B):(B++x::C).idxOf x=B.length:=by
 have:=fM (m:=id) (B:=B) (x:=x) (C:=C) λ b hb e=>h (by rw [<-(show b=x from e)];exact hb);simpa using this
theorem fK {top B M C:List Nat} {f l pl:Nat} (e:top=B++(f::M++[l])++C) (nd:top.Nodup):poF top (f::M++[l]) pl=B++[f,pl,l]++C:=by
 subst e;have d1:=be.mp nd;have d2:=be.mp d1.1;have d3:=be.mp d2.2.1;have fB:f∉B:=λ h=>d2.2.2 f h f (by simp) rfl
 have lB:l∉B++(f::M):=λ h=>by
  rcases bz.mp h with z | z
  ·exact d2.2.2 l z l (by simp) rfl
  ·exact d3.2.2 l z l (by simp) rfl
 have e1:B++(f::M++[l])++C=B++f::(M++[l]++C):=by simp
 have e2:B++(f::M++[l])++C=(B++f::M)++l::C:=by simp
 have i1:(B++(f::M++[l])++C).idxOf f=B.length:=by rw [e1];exact lE fB
 have i2:(B++(f::M++[l])++C).idxOf l=(B++f::M).length:=by rw [e2];exact lE lB
 unfold poF;have gl:(f::M++[l]).getLastD 0=l:=by rw [iG,eY];rfl
 rw [show (f::M++[l]).headD 0=f from rfl,gl,i1,i2]
 have t1:(B++(f::M++[l])++C).take (B.length+1)=B++[f]:=by
  rw [e1,show B++f::(M++[l]++C)=(B++[f])++(M++[l]++C) by simp,qt (by simp)]
 have t2:(B++(f::M++[l])++C).drop (B++f::M).length=l::C:=by rw [e2,uf rfl]
 rw [t1,t2];simp
structure Top (W:Rows) (some top:List Nat):Prop where
 nd:top.Nodup
 sub:∀ x∈top,x∈some
 path:∀ x y,Adj top x y->E W x y
theorem Top.step {W:Rows} {ahead top st:List Nat} {pl:Nat} (T:Top W ahead top) (sym:∀ a b,E W a b->E W b a) (np:pl∉ahead) (h:stF W top ahead pl=some st) :
  Top W (ahead++[pl]) (poF top st pl)/\(∀ x∈st,x∈top)/\st≠[]/\∀ t∈st.zip st.tail,E W t.1 t.2:=by
 obtain ⟨B,f,M,l,C,rfl,et,mem,nx⟩:=kBA h;have nd:=T.nd;rw [fK et nd];have path:=T.path;have sub:=T.sub;rw [et] at nd path sub
 have E':∀ q,q∈f::M++[l]->E W pl q:=λ q hq=>by
  have:=(mem q hq).2;rw [ai] at this
  cases e:W[pl]? with
  | none=>rw [e] at this;cases this
  | some row=>rw [e] at this;exact ⟨row,e,this⟩
 have d1:=be.mp nd;have d2:=be.mp d1.1;have d3:=be.mp d2.2.1;have all:∀ x∈B++(f::M++[l])++C,x≠pl:=λ x hx e=>np (by rw [<-e];exact sub x hx);refine ⟨⟨?_,λ x hx=>?_,λ x y ad=>?_⟩,λ x hx=>by rw [et];exact az _ (bu _ hx),by simp,λ t ht=>?_⟩
 ·have fl:f≠l:=d3.2.2 f (by simp) l (by simp)
  have h1:B.Nodup:=d2.1;have h2:C.Nodup:=d1.2.1;refine be.mpr ⟨be.mpr ⟨h1,?_,λ x hx y hy=>?_⟩,h2,λ x hx y hy=>?_⟩
  ·have a:=all f (by simp)
   have b:=all l (by simp);simp [a,fl,b.symm]
  ·simp only [du,kh,or_false] at hy
   rcases hy with rfl | rfl | rfl
   ·exact d2.2.2 x hx _ (by simp)
   ·exact all x (by simp [hx])
   ·exact d2.2.2 x hx _ (by simp)
  ·rcases bz.mp hx with z | z
   ·exact d1.2.2 x (az _ z) y hy
   ·simp only [du,kh,or_false] at z
    rcases z with rfl | rfl | rfl
    ·exact d1.2.2 _ (by simp) y hy
    ·exact λ e=>all y (by simp [hy]) e.symm
    ·exact d1.2.2 _ (by simp) y hy
 ·rcases bz.mp hx with z | z
  ·rcases bz.mp z with z | z
   ·exact az _ (sub x (by simp [z]))
   ·simp only [du,kh,or_false] at z
    rcases z with rfl | rfl | rfl
    ·exact az _ (sub _ (by simp))
    ·simp
    ·exact az _ (sub _ (by simp))
  ·exact az _ (sub x (by simp [z]))
 ·have e1:B++[f,pl,l]++C=B++f::(pl::(l::C)):=by simp
  have p1:B++(f::M++[l])++C=B++f::(M++l::C):=by simp
  have p2:B++(f::M++[l])++C=(B++f::M)++l::C:=by simp
  rw [e1,qY] at ad;rcases ad with z | z
  ·exact path x y (by rw [p1,qY];exact .inl z)
  ·rw [uQ] at z
   rcases z with ⟨rfl,rfl⟩ | z
   ·exact sym _ _ (E' _ (by simp))
   ·rw [uQ] at z
    rcases z with ⟨rfl,rfl⟩ | z
    ·exact E' _ (by simp)
    ·exact path x y (by rw [p2,qY];exact .inr z)
 ·obtain ⟨a,b⟩:=t
  have ad:=uH ht;have e:f::M++[l]++C=(f::M)++l::C:=by simp
  have this:Adj (f::(M++l::C)) a b:=by
   have:Adj ((f::M)++l::C) a b:=by
    rw [qY];exact .inl ad
   exact this
  refine path a b ?_;rw [show B++(f::M++[l])++C=B++f::(M++l::C) by simp,qY];exact .inr this
theorem bV {W:Rows} {ms:List Nat} {i:Nat} (h:goF W ms i=none):∀ j,goF W ms (i+j)=none
 | 0=>h
 | j+1=>by
  have:=bV h j;show goF W ms (i+j+1)=none;unfold goF;rw [this]
def xW (W:Rows) (a b c:Nat) (ms:List Nat):Option (List (List Nat)×List (List Nat)) :=
 if ms[0]?=some a/\ms[1]?=some b/\ms.getLast?=some c then goF W ms (ms.length-2) else none
theorem lH {W:Rows} {ms:List Nat} {i:Nat} {fs ts:List (List Nat)} (h:goF W ms i=some (fs,ts)) (z:stF W (ts.getLastD []) (ms.take (i+2)) (ms.getD (i+2) 0)=none):goF W ms (i+1)=none:=by
 unfold goF;rw [h];dsimp only;rw [z]
theorem pF {W:Rows} {ms:List Nat} {i:Nat} {fs ts:List (List Nat)} {st:List Nat} (h:goF W ms i=some (fs,ts)) (z:stF W (ts.getLastD []) (ms.take (i+2)) (ms.getD (i+2) 0)=some st):goF W ms (i+1)=some (fs++[st],ts++[poF (ts.getLastD []) st (ms.getD (i+2) 0)]):=by
 unfold goF;rw [h];dsimp only;rw [z]
theorem hV {α:Type} (l:List (List α)) (x:List α):(l++[x]).getLastD []=x:=by
 rw [iG,eY]
 rfl
theorem Top.len {W:Rows} {some top:List Nat} (T:Top W some top):top.length<=some.length:=de T.nd T.sub
end Tri
namespace HT
open PySem PySem.Spec PyProof.Rows
section
variable {M:wq} {A:fb} {E:ar->ay->Prop} {s:ay}
theorem nfe_own {scope:qa} {globals:av} {closure:List (Str×av)} {qual:Str} {func:Option av} {code:ar} {outer:Env} {builtins:av} {Q:Env->ay->Prop}
  (hQ:Q (newEnv scope s.heap.objs.size globals (cellsFrom (s.heap.objs.size+1) scope.names closure) qual func code (some outer) builtins)
   { s with heap:=pushCells (s.heap.push { cls:=.type "dict",data:=.dict #[] }) scope.names }) :
  eD M A (newFunctionEnv scope globals closure [] qual func code (some outer) builtins) Q E s:=by
 simp only [newFunctionEnv,CL,if_true];refine ae (wpAny_alloc ?_);refine ae (wpAny_layCells _ (λ name kind cells=>by cases hkc:kind == iZ<;>simp [hkc]) _ _ _ _ ?_);rw [show ({ s with heap:=s.heap.push { cls:=.type "dict",data:=.dict #[] } }:ay).heap.objs.size=s.heap.objs.size+1 from iu ..]
 refine ae (bx (bx ?_));exact hQ
end
theorem cells_of:∀ (names:List (Str×kl)) (lo:Nat) (acc:List (Str×av)) (x:Str) (c:av),(cellsFrom lo names acc).lookup x=some c->(lo<=c/\(x,iZ)∈names)\/acc.lookup x=some c
 | [],_,_,_,_,h=>.inr h
 | (n,k)::r,lo,acc,x,c,h=>by
  unfold cellsFrom at h
  split at h
  ·rename_i hk
   have hk:k=.cell:=by simpa using hk
   rcases cells_of r (lo+1) _ x c h with ⟨a,b⟩ | b
   ·exact .inl ⟨by omega,dj _ b⟩
   ·rw [qc] at b
    cases e:x == n with
    | true =>
     rw [e] at b;cases b
     rw [beq_iff_eq.mp e,hk];exact .inl ⟨bq _,eQ⟩
    | false =>
     rw [e] at b;exact .inr b
  ·rcases cells_of r lo acc x c h with ⟨a,b⟩ | b
   ·exact .inl ⟨a,dj _ b⟩
   ·exact .inr b
theorem cells_keep:∀ (names:List (Str×kl)) (lo:Nat) (acc:List (Str×av)) (x:Str),(x,iZ)∉names->(cellsFrom lo names acc).lookup x=acc.lookup x
 | [],_,_,_,_=>rfl
 | (n,k)::r,lo,acc,x,h=>by
  have hr:(x,iZ)∉r:=λ z=>h (dj _ z);unfold cellsFrom
  split
  ·rename_i hk
   have hk:k=.cell:=by simpa using hk
   rw [cells_keep r _ _ x hr,qc]
   cases e:x == n with
   | true =>
    rw [beq_iff_eq.mp e,hk] at h;exact absurd eQ h
   | false=>rfl
  ·exact cells_keep r _ _ x hr
theorem cells_has:∀ (names:List (Str×kl)) (lo:Nat) (acc:List (Str×av)) (x:Str),(x,iZ)∈names\/(∃ c,acc.lookup x=some c)->∃ c,(cellsFrom lo names acc).lookup x=some c
 | [],_,_,_,h=>h.elim (λ z=>nomatch z) id
 | (n,k)::r,lo,acc,x,h=>by
  unfold cellsFrom
  split
  ·refine cells_has r _ _ x ?_
   by_cases e:x=n
   ·subst e
    exact .inr ⟨lo,by rw [qc];simp⟩
   ·rcases h with h | ⟨c,h⟩
    ·rcases du.mp h with z | z
     ·exact absurd (congrArg Ab z) e
     ·exact .inl z
    ·refine .inr ⟨c,?_⟩
     rw [qc,show (x == n)=false by simpa using e];exact h
  ·rename_i hk
   refine cells_has r _ _ x ?_;rcases h with h | h
   ·rcases du.mp h with z | z
    ·have z2:iZ=k:=congrArg BH z
     exact absurd (by rw [<-z2];rfl) hk
    ·exact .inl z
   ·exact .inr h
theorem cells_inj:∀ (names:List (Str×kl)) (lo:Nat) (acc:List (Str×av)),(∀ x c,acc.lookup x=some c->c<lo)->(∀ x y c,acc.lookup x=some c->acc.lookup y=some c->x=y) ->
  ∀ x y c,(cellsFrom lo names acc).lookup x=some c->(cellsFrom lo names acc).lookup y=some c->x=y
 | [],_,_,_,h,x,y,c,e1,e2=>h x y c e1 e2
 | (n,k)::r,lo,acc,hl,h,x,y,c,e1,e2=>by
  unfold cellsFrom at e1 e2
  split at e1
  ·rename_i hk
   rw [if_pos hk] at e2
   have look:∀ z d,((n,lo)::acc).lookup z=some d->(z=n/\d=lo)\/(z≠n/\acc.lookup z=some d):=λ z d q=>by
    rw [qc] at q
    cases e:z == n with
    | true =>
     rw [e] at q;cases q
     exact .inl ⟨beq_iff_eq.mp e,rfl⟩
    | false =>
     rw [e] at q;exact .inr ⟨by simpa using e,q⟩
   refine cells_inj r (lo+1) ((n,lo)::acc) (λ z d q=>?_) (λ z z' d q q'=>?_) x y c e1 e2
   ·rcases look z d q with ⟨_,b⟩ | ⟨_,b⟩
    ·rw [b];exact DP _
    ·exact vp (hl z d b)
   ·rcases look z d q with ⟨a,b⟩ | ⟨a,b⟩<;>rcases look z' d q' with ⟨a',b'⟩ | ⟨a',b'⟩
    ·rw [a,a']
    ·exact absurd (hl z' d b') (by rw [b];exact jv _)
    ·exact absurd (hl z d b) (by rw [b'];exact jv _)
    ·exact h z z' d b b'
  ·rename_i hk
   rw [if_neg hk] at e2;exact cells_inj r lo acc hl h x y c e1 e2
theorem cells_own:∀ (names:List (Str×kl)) (lo:Nat) (acc:List (Str×av)) (x:Str) (c:av),(x,iZ)∈names->(cellsFrom lo names acc).lookup x=some c->lo<=c
 | (n,k)::r,lo,acc,x,c,m,h=>by
  unfold cellsFrom at h;by_cases mr:(x,iZ)∈r
  ·split at h
   ·exact vq (cells_own r (lo+1) _ x c mr h)
   ·exact cells_own r lo acc x c mr h
  ·rcases du.mp m with z | z
   ·injection z with z1 z2
    subst z1 z2;rw [if_pos (by rfl),cells_keep r _ _ x mr,qc] at h;simp at h;exact Cn h
   ·exact absurd z mr
end HT
namespace L2
open PySem PySem.Spec PyProof.Rows
structure CS2 (sc S0:qa):Prop where
 kind:sc.kind=.function
 names:∀ y∈sc.names,y.2=.local->sc.names.lookup y.1=some .local
 own:∀ y∈sc.names,y.2=.cell->sc.names.lookup y.1=some .cell
 nof:∀ x,sc.names.lookup x=some .free->(x,iZ)∉sc.names
 free:∀ y∈sc.names,y.2=.free->S0.names.lookup y.1=some .cell
def cxD (X:Cx) (Nc:List Str) (sc:qa) (C:av) (s₂:ay) (H₂:Hp) (fp:List av) (pins:List (av×Obj)):Cx :=
 { X with N:=Nc,s₀:=s₂,H₀:=H₂,env:=compEnvC sc (cellsFrom (C+1) sc.names (zF sc X.env)) C X.env,outer:=X.stack,ex:=fp,fn:=λ x=>decide ((x,iZ)∈sc.names),pn:=X.pn++pins }
section
variable {X:Cx} {pins:List (av×Obj)} {σ:St} {H:Hp} {s:ay} {sc:qa} {Nc:List Str} {js:List (Option Nat)} {fp:List av}
theorem kGI (I:Inv X pins σ H s) (S:CS2 sc X.env.scope) (f:∀ b∈fp,zD X pins H b) (hlt:∀ b∈fp,b<s.heap.objs.size) {C:av} (hC:s.heap.objs.size<=C):(cxD X Nc sc C s H fp pins).Ok:=by
 have inX:∀ x c,(zF sc X.env).lookup x=some c->X.env.cells.lookup x=some c:=λ x c e=>aB sc.names [] (λ z=>nomatch z) e
 have low:∀ x c,(zF sc X.env).lookup x=some c->c<C+1:=λ x c e=>by
  obtain ⟨v,ic⟩:=I.cell x c (inX x c e);exact vp (cj ic.lt hC)
 refine ⟨I.ok.mod,S.kind,I.ok.glob,I.ok.blt,hC,HT.cells_inj sc.names (C+1) _ low λ x y c e1 e2=>I.ok.inj x y c (inX x c e1) (inX y c e2),λ x hx=>?_,λ x c z e=>?_,I.ok.hd,I.ok.frames,.inl rfl,λ b hb=>⟨?_,λ x c e=>?_⟩,I.bs,iA I.ok.bsz I.sz,λ b o e hb=>?_,λ b hb hs=>?_,I.stack,I.stkFree⟩
 ·have hx':(sc.names.map (xE X.env)).lookup x=some .cell\/(sc.names.map (xE X.env)).lookup x=some .free:=hx
  rw [vY] at hx';refine HT.cells_has sc.names (C+1) _ x ?_
  cases e:sc.names.lookup x with
  | none=>rw [e] at hx';rcases hx' with z | z<;>cases z
  | some k =>
   rw [e] at hx';have m:(x,k)∈sc.names:=iQ e
   have kf:k=.free\/k=.cell:=by
    unfold xE at hx';by_cases hk:(k == xc)=true
    ·exact .inl (by simpa using hk)
    ·have hk':(k == xc)=false:=by simpa using hk
     simp only [hk',Bm,ph] at hx';rcases hx' with z | z
     ·exact .inr (by simpa using z)
     ·exact .inl (by simpa using z)
   rcases kf with rfl | rfl
   ·have hx2:=S.free _ m rfl
    obtain ⟨c,hc⟩:=I.ok.has x (.inl hx2);exact .inr (lS sc.names [] ⟨c,hc⟩ (.inr m))
   ·exact .inl m
 ·exact iA hC (vq (HT.cells_own sc.names (C+1) _ x c (of_decide_eq_true z) e))
 ·exact dc (cj (hlt b hb) hC)
 ·rcases HT.cells_of sc.names (C+1) _ x c e with ⟨a,_⟩ | q
  ·exact (dc (cj (hlt b hb) (iA hC (vq a)))).symm
  ·exact (f b hb).2.2.2.2.1 x c (inX x c q)
 ·obtain ⟨h0,h1,h2,h3,h4,h5⟩:=f b hb
  rcases h3 with z | z
  ·exact I.ok.noex b o e z
  ·exact absurd (cj (cm (I.ok.bs b o e).1) z) (jv _)
 ·obtain ⟨h0,h1,h2,h3,h4,h5⟩:=f b hb
  rcases du.mp (I.stkSub b hs) with z | z
  ·exact h1 z
  ·exact h2 z
end
section
variable {X:Cx} {pins:List (av×Obj)} {σ:St} {H:Hp} {s:ay} {sc:qa} {Nc:List Str} {js:List (Option Nat)} {fp:List av}
theorem kDY (I:Inv X pins σ H s) (S:CS2 sc X.env.scope) (f:∀ b∈fp,zD X pins H b) (hlt:∀ b∈fp,b<s.heap.objs.size) (cap:cD js Nc X.N sc.names=true) {C D:av} {o:HO} {h₁:gy} {m:Str->Option ar} {tk:Nat}
  (hC:s.heap.objs.size<=C) (hD:s.heap.objs.size<=D) (hDC:D<C) (hcl:∀ x c,(x,iZ)∈sc.names->(cellsFrom (C+1) sc.names (zF sc X.env)).lookup x=some c->h₁.IsCell c none) (hk:∀ b ob,s.heap.get? b=some ob->h₁.get? b=some ob) (hns:h₁.Ns C m) (new:ObjOk X.prog X.w (upd H D o) h₁ D o) :
  Inv (cxD X Nc sc C s H fp pins) [] (uG js σ) (upd H D o) { s with heap:=h₁,toks:=tk }:=by
 have inX:∀ x c,(zF sc X.env).lookup x=some c->X.env.cells.lookup x=some c:=λ x c e=>aB sc.names [] (λ z=>nomatch z) e;have fresh:∀ a,s.heap.objs.size<=a->H a=none:=λ a ha=>I.hok.fresh ha;obtain ⟨cl,cp⟩:=kHU cap;refine ⟨kGI I S f hlt hC,rfl,I.bare,Un.laid hk hD (fresh D hD),⟨m,hns,λ i x v e1 e2 e3=>?_⟩,λ x c e=>?_,?_,λ x c e=>?_,λ p hp=>?_,I.hok.laid hk hD new,?_⟩
 ·-- a name of the frame's
  unfold uG at e2;rw [bh] at e2
  cases ej:js[i]? with
  | none=>rw [ej] at e2;cases e2
  | some oj =>
   rw [ej] at e2
   cases oj with
   | none=>cases e2
   | some j =>
    obtain ⟨hN,hfree⟩:=cp i j x ej e1
    have hv:σ[j]?=some (some v):=by
     simp only [ph,DJ,Cp] at e2
     cases e:σ[j]? with
     | none=>rw [e] at e2;cases e2
     | some w=>rw [e] at e2;exact congrArg some e2
    have kc:X.env.kindOf x=some .cell:=S.free _ (iQ hfree) rfl;obtain ⟨m',hn',hl⟩:=I.loc;obtain ⟨u,r,lk⟩:=hl j x v hN hv (.inr (.inl kc));refine ⟨u,r,.inr ⟨.inl ?_,?_⟩⟩
    ·show (sc.names.map (xE X.env)).lookup x=some .cell
     rw [vY,hfree];unfold xE;simp [I.ok.kind,kc]
    ·rcases lk with ⟨z,_⟩ | ⟨_,c,hc,ic⟩
     ·rw [kc] at z;cases z
     ·obtain ⟨c',hc'⟩:=lS sc.names [] ⟨c,hc⟩ (.inr (iQ hfree))
      have:c'=c:=bj ((inX x c' hc').symm.trans hc);subst this;exact ⟨c',by show (cellsFrom (C+1) sc.names (zF sc X.env)).lookup x=some c';rw [HT.cells_keep _ _ _ x (S.nof x hfree)];exact hc',ic.keeps hk⟩
 ·by_cases own:(x,iZ)∈sc.names
  ·exact ⟨none,hcl x c own e⟩
  ·have e':(zF sc X.env).lookup x=some c:=by rw [<-HT.cells_keep sc.names (C+1) _ x own];exact e
   obtain ⟨v,ic⟩:=I.cell x c (inX x c e');exact ⟨v,ic.keeps hk⟩
 ·show upd H D o C=none
  rw [kO (dc hDC).symm];exact fresh C hC
 ·by_cases own:(x,iZ)∈sc.names
  ·have lo:=HT.cells_own sc.names (C+1) _ x c own e
   show upd H D o c=none;rw [kO (dc (FF hDC (Nat.lt_of_succ_le lo))).symm];exact fresh c (iA hC (vq lo))
  ·have e':(zF sc X.env).lookup x=some c:=by rw [<-HT.cells_keep sc.names (C+1) _ x own];exact e
   have q:=inX x c e';obtain ⟨v,ic⟩:=I.cell x c q;show upd H D o c=none;rw [kO (dc (cj ic.lt hD))];exact I.freeC x c q
 ·have hp':p∈X.pn++pins:=by
   rcases bz.mp hp with z | z
   ·exact z
   ·exact absurd z (by simp)
  obtain ⟨a1,a2,a3,a4,a5⟩:=I.pin p hp';have lt:=cm a1;refine ⟨hk _ _ a1,?_,dc (cj lt hC),λ z=>?_,a5⟩
  ·rw [kO (dc (cj lt hD))]
   exact a2
  ·rcases du.mp (I.stkSub _ z) with z | z
   ·exact a3 z
   ·exact a4 z
 ·unfold uG
  rw [ao];exact cl
theorem kDZ {C:av} {σ':St} {H':Hp} {s':ay} {h':gy} (I:Inv X pins σ H s) (f:∀ b∈fp,zD X pins H b) (hC:s.heap.objs.size<=C) (J:Inv (cxD X Nc sc C s H fp pins) [] σ' H' s') (hs:jd C s'.heap h') :
  Inv X pins σ H' { s' with heap:=h' }:=by
 have u:=J.base;have nC:H' C=none:=J.free;have stay:∀ b ob,b≠C->s'.heap.get? b=some ob->h'.get? b=some ob:=λ b ob hb e=>hs.extBut b ob hb e;have neC:∀ b ob,s.heap.get? b=some ob->b≠C:=λ b ob e=>dc (cj (cm e) hC);refine I.call' (ch:=fp) J.os ?_ (λ b v e=>?_) J.bare λ b hb=>⟨(f b hb).2.2.2.1,(f b hb).2.1,(f b hb).2.2.2.2.1,(f b hb).2.2.2.2.2⟩
 ·refine ⟨λ b ob e n h1 h2=>stay b ob (neC b ob e) (u.keep b ob e n h1 h2),λ b ob e n h1 h2=>?_,u.free,λ b ob e h2=>?_,u.tups,u.frzs,u.tbls⟩
  ·obtain ⟨sl,q⟩:=u.slot b ob e n h1 h2
   exact ⟨sl,stay b _ (neC b ob e) q⟩
  ·obtain ⟨o',q⟩:=u.there b ob e h2
   exact ⟨o',stay b _ (neC b ob e) q⟩
 ·have nb:∀ c w,H' c=some w->c≠C:=λ c w e z=>by rw [z,nC] at e;cases e
  refine (J.hok b v e).stay (λ c w hc q=>stay c w ?_ q) (λ _ q=>q) λ _ _ q=>q;rcases hc with z | z
  ·rw [z];exact nb b v e
  ·exact nb c _ z
end
end L2
namespace HT
open PySem PySem.Spec PyProof.Rows
theorem cells_none:∀ (names:List (Str×kl)) (h:gy) (acc:List (Str×av)) (x:Str) (c:av),(x,iZ)∈names->(cellsFrom h.objs.size names acc).lookup x=some c->(pushCells h names).IsCell c none
 | (n,k)::r,h,acc,x,c,m,e=>by
  unfold cellsFrom at e;unfold pushCells;by_cases mr:(x,iZ)∈r
  ·split at e
   ·rename_i hk
    rw [if_pos hk];refine cells_none r _ ((n,h.objs.size)::acc) x c mr ?_;rw [iu];exact e
   ·rename_i hk
    rw [if_neg hk];exact cells_none r _ _ x c mr e
  ·rcases du.mp m with z | z
   ·injection z with z1 z2
    subst z1 z2;rw [if_pos (by rfl),cells_keep r _ _ x mr,qc] at e;simp at e;subst e;rw [if_pos (by rfl)]
    have q:(h.push { cls:=.type "cell",data:=.cell none }).IsCell h.objs.size none:=by
     first
      | exact ⟨_,cn _ rfl,rfl⟩
      | exact ⟨_,cn _ rfl⟩
      | exact cn _ rfl
    exact q.keeps λ b o hb=>AC r _ b o hb
   ·exact absurd z mr
end HT
namespace L2
open PySem PySem.Spec PyProof.Rows
section
variable {X:Cx} {e tg iter el:iJ} {ifs:List iJ} {gens rest:List Ax} {sc:qa} {pos:Pos} {Nc:List Str} {js:List (Option Nat)} {wi:TI}
end
def kOD (sc S0:qa):Bool:=(sc.names.all λ y=>(y.2 != .local || sc.names.lookup y.1 == some .local) && (y.2 != .cell || sc.names.lookup y.1 == some .cell) && (y.2 != .free || S0.names.lookup y.1 == some .cell))
theorem CS2.of {sc S0:qa} (k:sc.kind=.function) (h:kOD sc S0=true):CS2 sc S0:=by
 have q:∀ y∈sc.names,_:=sh.mp h
 have own:∀ y∈sc.names,y.2=.cell->sc.names.lookup y.1=some .cell:=λ y hy e=>by
  have z:=q y hy;rw [eZ,eZ] at z;obtain ⟨⟨z1,z2⟩,z3⟩:=z;rw [e] at z2;simpa using z2
 refine ⟨k,λ y hy e=>?_,own,λ x e m=>?_,λ y hy e=>?_⟩
 ·have z:=q y hy
  rw [eZ,eZ] at z;obtain ⟨⟨z1,z2⟩,z3⟩:=z;rw [e] at z1;simpa using z1
 ·have:=own _ m rfl
  rw [e] at this;cases this
 ·have z:=q y hy
  rw [eZ,eZ] at z;obtain ⟨⟨z1,z2⟩,z3⟩:=z;rw [e] at z3;simpa using z3
section
variable {X:Cx} {tg iter el:iJ} {ifs:List iJ} {sc:qa} {pos py spos:Pos} {Nc:List Str} {js:List (Option Nat)} {wi:TI} {i:Nat} {y:Str}
theorem kIQ {g:TG} {bd:av->TB} (hx:X.xe=λ _ _=>False) (hc:X.calm=true) (hN:X.N.Nodup) (hiN:X.N[i]?=some y) (hy:Loc X.env.scope y) (hi:PI X tg iter wi) (S:CS2 sc X.env.scope) (cap:cD js Nc X.N sc.names=true)
  (hg:∀ C s₂ H₂ fp pins,PG (cxD X Nc sc C s₂ H₂ fp pins) tg g)
  (hb:∀ C s₂ H₂ fp pins D L,PTl (cxD X Nc sc C s₂ H₂ fp pins) (yI ifs (cxD X Nc sc C s₂ H₂ fp pins).env (do let _ <-call (.builtin "list.append") [.ref D,<-eval el (cxD X Nc sc C s₂ H₂ fp pins).env]) L) L (bd D))
  (hs:∀ x,foldedSetIterable iter X.env x=pure x:=by intro _;rfl)
  (hsw:swapsWith (.ListComp el [⟨tg,iter,ifs,0⟩] sc pos) (some (.Name y py)) spos.line X.env=pure true:=by rfl)
  (hf:X.fn y=true\/X.env.scope.names.lookup y=some .local:=by first | exact .inl rfl | exact .inr rfl | assumption) :
  PS X (.Assign [.Name y py] (.ListComp el [⟨tg,iter,ifs,0⟩] sc pos) spos) (kIG (tLC js wi g bd) (sJ i)):=by
 intro pins s σ H D0 I h;have hcl:closureFor sc X.env=pure (zF sc X.env):=wC λ y hy hf=>I.ok.has y.1 (.inl (S.free y hy hf));rw [Bg _ _ _ _ hsw];refine ae (ub (ae ?_));show eD _ X.A (do let _ <-comprehension (.ListComp el [⟨tg,iter,ifs,0⟩] sc pos) sc X.env _ (newList []) false (eval iter X.env) (some (assign (.Name y py) X.env))) _ _ s
 refine ae (xy (om (use:=some (assign (.Name y py) X.env)) (Q:=λ _ s'=>SP X pins D0 .next s') rfl hs hcl S.kind S.names
  (thn (hi pins s σ H _ I h) λ v s1 h1=>thn h1 λ itv s2 h2=>?_)) (λ _ s' hq=>bx (bx hq)) λ _ _ e=>e)
 obtain ⟨it,fp,tn,J,H2,e,I2,T,st2,f2,hw⟩:=h2;subst e;have hlt:∀ b∈fp,b<s2.heap.objs.size:=λ b hb=>let ⟨o,ho,_⟩:=T.obj _ _ st2 b hb;cm ho;refine iX (HT.nfe_own ?_);dsimp only;generalize hH2:s2.heap.push { cls:=.type "list",dict:=none,data:=.seq ([]:List ar).toArray }=G;have hCs:G.objs.size=s2.heap.objs.size+1:=by rw [<-hH2,iu]
 have hDC:s2.heap.objs.size<G.objs.size:=by omega
 have hCle:s2.heap.objs.size<=G.objs.size:=by omega
 generalize hh₁:pushCells (G.push { cls:=.type "dict",data:=.dict #[] }) sc.names=h₁;have old:∀ b o,s2.heap.get? b=some o->h₁.get? b=some o:=λ b o e=>hh₁ ▸ AC sc.names _ b o (au _ (hH2 ▸ au _ e));have hacc:h₁.get? s2.heap.objs.size=some { cls:=.type "list",dict:=none,data:=.seq ([]:List ar).toArray }:=hh₁ ▸ AC sc.names _ _ _ (au _ (hH2 ▸ cn _ rfl))
 have hns₁:h₁.Ns G.objs.size λ _=>none:=by
  obtain ⟨o,es,k,a,b⟩:=Heap.Ns.new G (.type "dict");exact ⟨o,es,k,hh₁ ▸ AC sc.names _ _ _ a,b⟩
 have hcl₁:∀ x c,(x,iZ)∈sc.names->(cellsFrom (G.objs.size+1) sc.names (zF sc X.env)).lookup x=some c->h₁.IsCell c none:=λ x c m e=>by
  rw [<-hh₁];refine HT.cells_none sc.names _ (zF sc X.env) x c m ?_;rw [iu];exact e
 have new:ObjOk X.prog X.w (upd H2 s2.heap.objs.size (.lst [])) h₁ s2.heap.objs.size (.lst []):=⟨gm _,[],_,.nil,hacc⟩;have I4:=kDY (js:=js) (Nc:=Nc) (tk:=s2.toks) I2 S f2 hlt cap hCle (bq _) hDC hcl₁ old hns₁ new;have hn:H2 s2.heap.objs.size=none:=I2.fresh
 have f4:∀ b∈fp,zD (cxD X Nc sc G.objs.size s2 H2 fp pins) [] (upd H2 s2.heap.objs.size (.lst [])) b:=λ b hb=>by
  obtain ⟨h0,h1,h2,h3,h4,h5⟩:=f2 b hb;refine ⟨?_,dc (cj (hlt b hb) hCle),λ z=>?_,.inl hb,λ x c z=>?_,λ p hp=>?_⟩
  ·rw [kO (dc (hlt b hb))];exact h0
  ·rcases du.mp (I2.stkSub b z) with q | q
   ·exact h1 q
   ·exact h2 q
  ·rcases HT.cells_of sc.names (G.objs.size+1) _ x c z with ⟨a,_⟩ | q
   ·exact (dc (cj (hlt b hb) (iA hCle (vq a)))).symm
   ·exact h4 x c (aB sc.names [] (λ z=>nomatch z) q)
  ·rcases bz.mp hp with z | z
   ·exact h5 p z
   ·exact absurd z (by simp)
 have st4:tn 0 h₁:=T.keep _ _ _ st2 λ b hb o e=>old b o e
 have loop:codeAny (model X.prog X.w) X.A (.compLoop (.ListComp el [⟨tg,iter,ifs,0⟩] sc pos) 0 (.ref it) (.ref s2.heap.objs.size) (compEnvC sc (cellsFrom (G.objs.size+1) sc.names (zF sc X.env)) G.objs.size X.env))
   (compPost (model X.prog X.w) X.A X.xe (some (assign (.Name y py) X.env)) (λ _ s'=>SP X pins D0 .next s') (.ref s2.heap.objs.size) G.objs.size) { s2 with heap:=h₁,toks:=s2.toks }:=by
  refine zN (X:=cxD X Nc sc G.objs.size s2 H2 fp pins) (.inl ⟨el,rfl⟩) hx hc (nN _ _ _ _ _ _ _ _ _) T (hg _ _ _ _ _) (hb _ _ _ _ _ _ _) I4 st4 f4 (hw _ hn) λ σ' H' s' I' q=>?_;obtain ⟨m',hm',_⟩:=I'.loc;have IB:Inv X pins σ H' { s' with heap:=s'.heap }:=kDZ I2 f2 hCle I' (yj ..)
  have nC:H' G.objs.size=none:=I'.free;have fC:zD X pins H' G.objs.size:=I2.fpOk hCle nC;show eD _ X.A (assign (.Name y py) X.env (.ref s2.heap.objs.size)) _ _ s';refine Ai (cI (v:=.ref s2.heap.objs.size) IB hN hiN hy rfl (λ s'' IC hsb=>?_) hf);obtain ⟨a,sb,ha⟩:=hsb
  have aC:G.objs.size≠a:=by
   rcases ha with rfl | ha
   ·exact fC.2.1
   ·exact λ z=>fC.2.2.2.2.1 y a ha z.symm
  refine ⟨m',hm'.sameBut sb aC,λ h' hs'=>?_⟩;exact ⟨_,H',IC.turnedL (t':=s''.toks) (ch:=[G.objs.size]) (λ b o hb' e=>hs'.extBut b o (λ z=>hb' (by simp [z])) e) (λ b hb'=>by rw [cy.mp hb'];exact fC),q⟩
 exact yV (.inl ⟨el,rfl⟩) rfl rfl loop (T.self _ _ _ _ _ st4 loop)
end
end L2
namespace HT
open PySem PySem.Spec PyProof.Rows
theorem pick_rev (its:List ar):slicePick its.toArray none none (some (-1))=its.reverse.toArray:=by
 unfold slicePick;have h1:(sliceBounds none none (some (-1)) its.toArray.size).1=(its.length:Int)-1:=by simp [sliceBounds]
 have h2:(sliceBounds none none (some (-1)) its.toArray.size).2.1 = -1:=by simp [sliceBounds]
 have h3:(sliceBounds none none (some (-1)) its.toArray.size).2.2 = -1:=by simp [sliceBounds]
 rw [h1,h2,h3];unfold sliceRange;dsimp only
 have hc:(if (-1:Int)>0 then if (its.length:Int)-1 < -1 then (-1-((its.length:Int)-1) + -1-1) / -1 else 0 else if (its.length:Int)-1 > -1 then ((its.length:Int)-1 - -1 - -1-1) / - -1 else 0).toNat=its.length:=by
  rw [if_neg (by decide)]
  split
  ·simp only [Int.neg_neg,FD]
   omega
  ·omega
 rw [hc,AY]
 congr 1
 rw [<-kFR its];refine lK _ λ k hk=>?_;show its.toArray[((its.length:Int)-1 + -1*(k:Int)).toNat]?=_;rw [Bj]
 congr 2
 omega
end HT
namespace L2
open PySem PySem.Spec PyProof.Rows
section
variable {X:Cx}
def kMY (K:cf) (te:TE) (ts:TO):TE:=λ σ H Q=>te σ H λ x H1=>ts σ H1 λ o H2=>∃ a xs,x=.ref a/\o=some (-1)/\H2 a=some (.lst xs)/\∀ p,H2 p=none->Q (.ref p) (upd H2 p (.lst xs.reverse))
theorem kIT {e st:iJ} {te:TE} {ts:TO} {p2 pos:Pos} (he:PE X e te) (hs:PO X (some st) ts):PE X (.Subscript e (.Slice none none (some st) p2) pos) (kMY X.K te ts):=by
 intro pins s σ H Q I h;refine Dv (thn (he pins s σ H _ I h) λ v s1 ⟨x,H1,I1,r1,q1⟩=>?_);refine wpAny_Slice ?_;rw [CD];refine bx ?_;refine bx (thn (hs pins s1 σ H1 _ I1 q1) λ vt s3 ⟨o,H3,I3,pu,q3⟩=>?_);obtain ⟨a,xs,rfl,rfl,ha,q⟩:=q3;cases r1
 cases pu with
 | int i tk =>
  have I4:Inv X pins σ H3 { s3 with heap:=s3.heap.push { cls:=.type "slice",data:=.fields #[.none,.none,.int (-1) tk] } }:=I3.kept (t':=s3.toks) λ b ob q=>au _ q
  obtain ⟨its,r,ht,hz⟩:=I4.list (SqL.of (K:=X.K) ha);have hl:=r.length;show eD (model X.prog X.w) X.A (subscriptTail e (.Slice none none (some st) p2) (.ref a) (.ref s3.heap.objs.size)) (EP X pins σ Q) X.xe { s3 with heap:=s3.heap.push { cls:=.type "slice",data:=.fields #[.none,.none,.int (-1) tk] } }
  refine tail_any (ops:=[.ref a,.ref s3.heap.objs.size]) ht.isList.typeIs Al.lookup ?_ (by with_unfolding_all rfl);refine Aw (lo:=none) (hi:=none) (st:=some (-1)) ht.isList (CK ..) .none .none (.int _ _) (by simp) ?_ (by rw [eV]<;>omega);rw [HT.pick_rev];refine ⟨.ref _,_,I4.laid (t':=s3.toks) (o:=.lst xs.reverse) (λ b ob q=>au _ q) (bq _) ?_,rfl,q _ (I4.hok.fresh (bq _))⟩;exact ⟨by rw [wg];exact hz,its.reverse,0,r.reverse,cn _ rfl⟩
end
end L2
namespace Fc
open Cyc Rnd Tri
def mgN (a b x:Nat):Nat:=if x=b then a else x
def goL (m:List Nat) (ls:List (Nat×Nat)):List Nat:=ls.foldl (λ m l=>m.map (mgN (m.getD l.1 0) (m.getD l.2 0))) m
theorem bT (m:List Nat) (l:Nat×Nat) (ls:List (Nat×Nat)):goL m (l::ls)=goL (m.map (mgN (m.getD l.1 0) (m.getD l.2 0))) ls:=rfl
theorem kBT:∀ (ls:List (Nat×Nat)) (m:List Nat),(goL m ls).length=m.length
 | [],_=>rfl
 | l::ls,m=>by rw [bT,kBT ls,ao]
theorem mW:∀ (ls:List (Nat×Nat)) (m:List Nat) (c:Nat),(∀ x∈goL m ls,x=c)->∃ V:List Nat,V.length<=ls.length+1/\∀ x∈m,x∈V
 | [],m,c,h=>⟨[c],by simp,λ x hx=>by rw [h x hx];simp⟩
 | l::ls,m,c,h=>by
  rw [bT] at h;obtain ⟨V,h1,h2⟩:=mW ls _ c h;refine ⟨m.getD l.2 0::V,by simp;omega,λ x hx=>?_⟩;have:=h2 _ (iO.mpr ⟨x,hx,rfl⟩);unfold mgN at this
  split at this
  ·rename_i e
   rw [e];exact eQ ..
  ·exact dj _ this
theorem bN {m:List Nat} {f:Nat->Nat} {i:Nat} (h:i<m.length):(m.map f).getD i 0=f (m.getD i 0):=by
 rw [ai,ai,bh,aa h]
 rfl
theorem sH:∀ (ls:List (Nat×Nat)) (m:List Nat) (i j:Nat),i<m.length->j<m.length->m.getD i 0=m.getD j 0->(goL m ls).getD i 0=(goL m ls).getD j 0
 | [],_,_,_,_,_,h=>h
 | l::ls,m,i,j,hi,hj,h=>by
  rw [bT];refine sH ls _ i j (by rw [ao];exact hi) (by rw [ao];exact hj) ?_;rw [bN hi,bN hj,h]
theorem sI:∀ (ls:List (Nat×Nat)) (m:List Nat) (i j:Nat),i<m.length->j<m.length->(i,j)∈ls->(goL m ls).getD i 0=(goL m ls).getD j 0
 | l::ls,m,i,j,hi,hj,h=>by
  rw [bT];have hi':i<(m.map (mgN (m.getD l.1 0) (m.getD l.2 0))).length:=by rw [ao];exact hi
  have hj':j<(m.map (mgN (m.getD l.1 0) (m.getD l.2 0))).length:=by rw [ao];exact hj
  rcases du.mp h with e | h
  ·refine sH ls _ i j hi' hj' ?_
   rw [<-e,bN hi,bN hj];unfold mgN;simp only
   split<;>simp
  ·exact sI ls _ i j hi' hj' h
theorem kAL {F:Nat} {ls:List (Nat×Nat)} (rng:∀ l∈ls,l.1<F/\l.2<F) (all:∀ m:List Nat,m.length=F->(∀ l∈ls,m.getD l.1 0=m.getD l.2 0)->∀ i,i<F->m.getD i 0=m.getD 0 0):F<=ls.length+1:=by
 have hl:=kBT ls (cu F);rw [fv] at hl;have a:=all (goL (cu F) ls) hl λ l hl'=>sI ls _ l.1 l.2 (by rw [fv];exact (rng l hl').1) (by rw [fv];exact (rng l hl').2) hl'
 obtain ⟨V,h1,h2⟩:=mW ls (cu F) ((goL (cu F) ls).getD 0 0) λ x hx=>by
  obtain ⟨i,hi,rfl⟩:=eU.mp hx;rw [<-a i (by omega),ai,aa hi]
  rfl
 have:=de si h2;rw [fv] at this;omega
theorem kBM {p:Nat->Prop} (h:∃ k,p k):∃ k,p k/\∀ j,j<k->¬ p j:=by
 obtain ⟨k,hk⟩:=h
 induction k using Bd with
 | _ k ih =>
  by_cases c:∃ j,j<k/\p j
  ·obtain ⟨j,hj,hp⟩:=c
   exact ih j hj hp
  ·exact ⟨k,hk,λ j hj hp=>c ⟨j,hj,hp⟩⟩
theorem aG {row:List Nat} (nd:row.Nodup) {P:Nat->Prop} {y w0:Nat} (hy:y∈row) (h0:w0∈row) (p0:P w0) (st:∀ w v,w∈row->w≠y->xV row w=some v->P w->P v):P y:=by
 obtain ⟨jy,hj,rfl⟩:=eU.mp hy;obtain ⟨i0,hi,rfl⟩:=eU.mp h0;have idx:∀ i (h:i<row.length),row.idxOf row[i]=i:=λ i h=>(sd nd).mp (CY (gh (gk h)));have ne:∀ i (h:i<row.length),i≠jy->row[i]≠row[jy]:=λ i h n z=>n ((sd nd).mp z)
 have step:∀ i (h:i+1<row.length),i+1≠jy->P row[i+1]->P row[i]:=λ i h n p=>by
  refine st _ _ (gk h) (ne _ h n) ?_ p;unfold xV;rw [idx _ h,if_neg (by omega),show i+1-1=i by omega,aa (by omega)]
 have wrap:∀ (h:0<row.length),0≠jy->P row[0]->P (row[row.length-1]'(by omega)):=λ h n p=>by
  refine st _ _ (gk h) (ne _ h n) ?_ p;unfold xV;rw [idx _ h,if_pos rfl,eh,aa (by omega)]
 have down:∀ k i (h:i+k<row.length),(∀ t,i<t->t<=i+k->t≠jy)->P row[i+k]->P (row[i]'(by omega)):=λ k=>by
  induction k with
  | zero=>exact λ i h _ p=>p
  | succ k ih =>
   intro i h n p;exact ih i (by omega) (λ t h1 h2=>n t h1 (by omega)) (step (i+k) (by omega) (n _ (by omega) (by omega)) p)
 rcases fe i0 jy with c | c
 ·have a:=down i0 0 (by omega) (λ t h1 h2=>by omega) (by simpa using p0)
  have b:=wrap (by omega) (by omega) a;have:=down (row.length-1-jy) jy (by omega) (λ t h1 h2=>by omega) (by simpa [show jy+(row.length-1-jy)=row.length-1 by omega] using b);exact this
 ·have:=down (i0-jy) jy (by omega) (λ t h1 h2=>by omega) (by simpa [show jy+(i0-jy)=i0 by omega] using p0)
  exact this
section
variable {W:Rows} {par dist:Nat->Nat}
theorem kCC (dist:Nat->Nat):∀ n:Nat,∃ N,∀ v,v<n->dist v<=N
 | 0=>⟨0,λ v h=>by omega⟩
 | n+1=>by
  obtain ⟨N,h⟩:=kCC dist n;refine ⟨max N (dist n),λ v hv=>?_⟩;rcases fe v n with c | c
  ·have:=h v c
   omega
  ·rw [show v=n by omega]
   omega
end
section
variable {W:Rows} {par dist:Nat->Nat}
theorem kIL (S:Nb W):∃ R:List (Nat×Nat),R.length=(facesS W).length/\(∀ r∈R,r∈kP W)/\(∀ t∈kP W,∃ i,∃ (h:i<R.length),t∈rnd W R[i])/\∀ t i j (hi:i<R.length) (hj:j<R.length),t∈rnd W R[i]->t∈rnd W R[j]->i=j:=by
 have sub:∀ t∈stepsS W,t∈kP W:=λ t ht=>(sortP_perm _).mem_iff.mp ht;have I:=fgo_ok S (stepsS W) sub;obtain ⟨R,r1,r2,r3⟩:=I.reps
 have lf:(facesS W).length=R.length:=by
  rw [show (facesS W).length=(facesU W).length from (sortL_perm _).length_eq];show (fgo W (stepsS W)).1.length=_;rw [r2,ao]
 have nd:=I.nd;rw [r3] at nd;have pw:=(Bh.mp nd).2;refine ⟨R,lf.symm,λ r hr=>sub r (r1 r hr),λ t ht=>?_,λ t i j hi hj h1 h2=>?_⟩
 ·have:=I.cov t ((sortP_perm _).mem_iff.mpr ht)
  rw [r3] at this;obtain ⟨r,hr,h⟩:=yw.mp this;obtain ⟨i,hi,rfl⟩:=eU.mp hr;exact ⟨i,hi,h⟩
 ·rcases yk i j with c | c | c
  ·exact absurd rfl (jc.mp pw i j hi hj c t h1 t h2)
  ·exact c
  ·exact absurd rfl (jc.mp pw j i hj hi c t h2 t h1)
end
section
variable {W W':Rows}
end
section
variable {W W' L:Rows}
end
section
variable {W W':Rows}
end
def RC (W:Rows) (C:List Nat):Nat->Nat->Prop
 | 0,v=>v∈C
 | k+1,v=>∃ u,RC W C k u/\E W u v
theorem kNG {W:Rows} {C:List Nat} {c v:Nat} (hc:c∈C) (h:Reach W c v):∃ k,RC W C k v:=by
 induction h with
 | here=>exact ⟨0,hc⟩
 | more _ e ih =>
  obtain ⟨k,hk⟩:=ih;exact ⟨k+1,_,hk,e⟩
structure CTree (W:Rows) (C:List Nat) (par dist:Nat->Nat):Prop where
 e:∀ v,v<W.length->v∉C->E W (par v) v
 d:∀ v,v<W.length->v∉C->dist (par v)+1=dist v
theorem kHS {W:Rows} {C:List Nat} (con:∀ v,v<W.length->∃ c∈C,Reach W c v):∃ par dist,CTree W C par dist:=by
 have h1:∀ v,∃ k,v<W.length->RC W C k v/\∀ j,j<k->¬ RC W C j v:=λ v=>by
  by_cases c:v<W.length
  ·obtain ⟨c0,hc0,r⟩:=con v c
   obtain ⟨k,hk⟩:=kBM (kNG hc0 r);exact ⟨k,λ _=>hk⟩
  ·exact ⟨0,λ z=>absurd z c⟩
 have hd:=λ v=>nh (h1 v);generalize hD:(λ v=>uk (h1 v))=dist at *
 have hd:∀ v,v<W.length->RC W C (dist v) v/\∀ j,j<dist v->¬ RC W C j v:=λ v hv=>by
  rw [<-hD];exact hd v hv
 have h2:∀ v,∃ u,v<W.length->v∉C->E W u v/\dist u+1=dist v:=λ v=>by
  by_cases c:v<W.length/\v∉C
  ·obtain ⟨a,b⟩:=hd v c.1
   cases e:dist v with
   | zero =>
    rw [e] at a;exact absurd a c.2
   | succ k =>
    rw [e] at a b;obtain ⟨u,hu,eu⟩:=a
    have ul:u<W.length:=by
     obtain ⟨row,er,_⟩:=eu;exact (aq.mp er).1
    obtain ⟨a',b'⟩:=hd u ul;refine ⟨u,λ _ _=>⟨eu,?_⟩⟩;have q1:¬ k<dist u:=λ z=>b' k z hu;have q2:¬ dist u+1<k+1:=λ z=>b _ z ⟨u,a',eu⟩;omega
  ·exact ⟨0,λ z1 z2=>absurd ⟨z1,z2⟩ c⟩
 exact ⟨λ v=>uk (h2 v),dist,λ v h n=>(nh (h2 v) h n).1,λ v h n=>(nh (h2 v) h n).2⟩
section
variable {W:Rows} {C:List Nat} {par dist:Nat->Nat} {lab:Nat->Nat->Nat}
theorem oG (S:Nb W) {z:Nat} (hz:z<W.length):∃ r,W[z]?=some r/\r.Nodup/\(∀ w,w∈r↔E W z w)/\∀ w v,xV r w=some v->nxt W (w,z)=(z,v):=by
 refine ⟨W[z],aa hz,S.nd z _ (aa hz),λ w=>⟨λ m=>⟨_,aa hz,m⟩,λ ⟨r,er,m⟩=>?_⟩,λ w v h=>?_⟩
 ·rw [aa hz] at er
  cases er
  exact m
 ·show (z,(xV (W.getD z []) w).getD 0)=(z,v)
  rw [ai,aa hz];show (z,(xV W[z] w).getD 0)=(z,v);rw [h]
  rfl
def Fit (W:Rows) (lab:Nat->Nat->Nat):Prop:=∀ x y v,E W x y->nxt W (x,y)=(y,v)->lab y v=lab x y
theorem kJP (S:Nb W) (T:CTree W C par dist) (c1:Fit W lab)
  (c2:∀ x y,E W x y->¬ ((y∉C/\par y=x)\/(x∉C/\par x=y)\/Nx C x y\/Nx C y x)->lab x y=lab y x):∀ x y,E W x y->¬ Nx C x y->¬ Nx C y x->lab x y=lab y x:=by
 obtain ⟨N,hN⟩:=kCC dist W.length
 have child:∀ k z,z<W.length->z∉C->N-dist z=k->lab (par z) z=lab z (par z):=λ k=>by
  induction k using Bd with
  | _ k ih =>
   intro z hz z0 hk;obtain ⟨r,er,nd,mem,nx⟩:=oG S hz;have ep:=T.e z hz z0;obtain ⟨v,rv,nv,ev⟩:=yJ S ep;refine (aG nd (P:=λ w=>lab z w=lab (par z) z) ((mem _).mpr (S.sym _ _ ep)) ((mem v).mpr ev) (c1 _ _ _ ep nv) λ w u hw nw hu pw=>?_).symm;have ew:=(mem w).mp hw
   have back:lab z w=lab w z:=by
    by_cases t:(w∉C/\par w=z)\/(z∉C/\par z=w)\/Nx C z w\/Nx C w z
    ·rcases t with ⟨w0',pw'⟩ | ⟨_,pz⟩ | h | h
     ·have hwl:=(S.e ew).2.1
      have d1:=T.d w hwl w0';rw [pw'] at d1;have:=hN w hwl;have q:=ih (N-dist w) (by omega) w hwl w0' rfl;rwa [pw'] at q
     ·exact absurd pz.symm nw
     ·exact absurd (qC h).1 z0
     ·exact absurd (qC h).2 z0
    ·exact c2 z w ew t
   rw [c1 w z u (S.sym _ _ ew) (nx w u hu),<-back,pw]
 intro x y e n1 n2;by_cases t:(y∉C/\par y=x)\/(x∉C/\par x=y)\/Nx C x y\/Nx C y x
 ·rcases t with ⟨h,rfl⟩ | ⟨h,rfl⟩ | h | h
  ·exact child _ y (S.e e).2.1 h rfl
  ·exact (child _ x (S.e e).1 h rfl).symm
  ·exact absurd h n1
  ·exact absurd h n2
 ·exact c2 x y e t
theorem kBP (S:Nb W) (c1:Fit W lab) (sy:∀ x y,E W x y->¬ Nx C x y->¬ Nx C y x->lab x y=lab y x) {z w w':Nat} (hz:z∉C) (e:E W z w) (e':E W z w'):lab z w=lab z w':=by
 obtain ⟨r,er,nd,mem,nx⟩:=oG S (S.e e).1;refine aG nd (P:=λ u=>lab z u=lab z w') ((mem w).mpr e) ((mem w').mpr e') rfl λ u v hu _ hv p=>?_;have eu:=(mem u).mp hu;rw [c1 u z v (S.sym _ _ eu) (nx u v hv),<-sy z u eu (λ h=>hz (qC h).1) (λ h=>hz (qC h).2)];exact p
theorem fL (S:Nb W) (nd:C.Nodup) (c1:Fit W lab) (ce:∀ p q,Nx C p q->E W p q) (sy:∀ x y,E W x y->¬ Nx C x y->¬ Nx C y x->lab x y=lab y x) {p c n:Nat} (h1:Nx C p c) (h2:Nx C c n):lab c n=lab p c:=by
 have e1:=ce _ _ h1;have e2:=ce _ _ h2;obtain ⟨r,er,ndr,mem,nx⟩:=oG S (S.e e2).1;obtain ⟨v,rv,nv,ev⟩:=yJ S e1;refine aG ndr (P:=λ u=>lab c u=lab p c) ((mem n).mpr e2) ((mem v).mpr ev) (c1 _ _ _ e1 nv) λ u v hu ne hv q=>?_;have eu:=(mem u).mp hu;rw [c1 u c v (S.sym _ _ eu) (nx u v hv)];by_cases up:u=p
 ·rw [up]
 ·rw [<-sy c u eu (λ h=>ne (jU nd h h2)) (λ h=>up (xC nd h h1))]
  exact q
theorem kJO (S:Nb W) (nd:C.Nodup) (c1:Fit W lab) (ce:∀ p q,Nx C p q->E W p q) (sy:∀ x y,E W x y->¬ Nx C x y->¬ Nx C y x->lab x y=lab y x) {p c n w:Nat} (h1:Nx C p c) (h2:Nx C c n) (e:E W c w):lab c w=lab p c\/lab c w=lab n c:=by
 have e2:=ce _ _ h2;obtain ⟨r,er,ndr,mem,nx⟩:=oG S (S.e e2).1;refine aG ndr (P:=λ u=>lab c u=lab p c\/lab c u=lab n c) ((mem w).mpr e) ((mem n).mpr e2) (.inl (fL S nd c1 ce sy h1 h2)) λ u v hu ne hv q=>?_;have eu:=(mem u).mp hu;rw [c1 u c v (S.sym _ _ eu) (nx u v hv)];by_cases un:u=n
 ·exact .inr (by rw [un])
 ·by_cases up:u=p
  ·exact .inl (by rw [up])
  ·rw [<-sy c u eu (λ h=>un (jU nd h h2)) (λ h=>up (xC nd h h1))]
   exact q
theorem kJQ (S:Nb W) (T:CTree W C par dist) (nd:C.Nodup) (c1:Fit W lab) (ce:∀ p q,Nx C p q->E W p q) (sy:∀ x y,E W x y->¬ Nx C x y->¬ Nx C y x->lab x y=lab y x) {p q:Nat} (h:Nx C p q) (eq:lab p q=lab q p) :
  ∀ x y,E W x y->lab x y=lab p q:=by
 have one:∀ c n,Nx C c n->lab c n=lab p q->lab n c=lab p q->∀ w,E W c w->lab c w=lab p q:=λ c n hn a b w e=>by
  obtain ⟨v,hv⟩:=oJ (qC hn).1;have hv:=uL nd (qC hn).1 hv;rcases kJO S nd c1 ce sy hv hn e with z | z
  ·rw [z,<-fL S nd c1 ce sy hv hn,a]
  ·rw [z,b]
 have onC:∀ y∈C,∀ w,E W y w->lab y w=lab p q:=λ y hy=>by
  refine aG nd (P:=λ c=>∀ w,E W c w->lab c w=lab p q) hy (qC h).1 (one p q h rfl eq.symm) λ c v hc _ hv z=>?_;have hv:=uL nd hc hv;obtain ⟨n,hn⟩:=vF hc;refine one v c hv ?_ (z v (S.sym _ _ (ce _ _ hv)));rw [<-fL S nd c1 ce sy hv hn];exact z n (ce _ _ hn)
 have tree:∀ k z,z<W.length->dist z=k->∀ w,E W z w->lab z w=lab p q:=λ k=>by
  induction k using Bd with
  | _ k ih =>
   intro z hz hk w e;by_cases hc:z∈C
   ·exact onC z hc w e
   ·have ep:=T.e z hz hc
    have d1:=T.d z hz hc;rw [kBP S c1 sy hc e (S.sym _ _ ep),<-sy _ _ ep (λ h=>hc (qC h).2) (λ h=>hc (qC h).1)];exact ih _ (by omega) _ (S.e ep).1 rfl _ ep
 exact λ x y e=>tree _ x (S.e e).1 rfl y e
def rC (v u:Nat):Nat×Nat:=if v<u then (v,u) else (u,v)
theorem kFB {v u w x:Nat} (h:rC v u=rC w x):(v=w/\u=x)\/(v=x/\u=w):=by
 unfold rC at h
 split at h<;>split at h<;>injection h with h1 h2<;>omega
theorem kLW {v w:Nat} (nd:C.Nodup) (h1:Nx C v w) (h2:Nx C w v):C.length<=2:=by
 have all:∀ x∈C,x=v\/x=w:=λ x hx=>by
  refine aG nd (P:=λ x=>x=v\/x=w) hx (qC h1).1 (.inl rfl) λ y u hy _ hu p=>?_;have hu:=uL nd hy hu;rcases p with rfl | rfl
  ·exact .inr (xC nd hu h2)
  ·exact .inl (xC nd hu h1)
 have:=de nd (l₂:=[v,w]) λ x hx=>by
  rcases all x hx with rfl | rfl<;>simp
 simpa using this
def CtP (C:List Nat) (par:Nat->Nat) (t:Nat×Nat):Prop:=(t.2∉C/\par t.2=t.1)\/(t.1∉C/\par t.1=t.2)\/Nx C t.1 t.2\/Nx C t.2 t.1
open Classical in
theorem sQ (S:Nb W) (T:CTree W C par dist) (nd:C.Nodup) (l3:3<=C.length) (ce:∀ p q,Nx C p q->E W p q):W.length<=((tiesS W).filter λ t=>decide (CtP C par t)).length:=by
 have up:∀ v,∃ u,v<W.length->(v∈C/\Nx C v u)\/(v∉C/\u=par v):=λ v=>by
  by_cases c:v∈C
  ·obtain ⟨u,hu⟩:=vF c
   exact ⟨u,λ _=>.inl ⟨c,hu⟩⟩
  ·exact ⟨par v,λ _=>.inr ⟨c,rfl⟩⟩
 have ups:=λ v=>nh (up v);generalize hU:(λ v=>uk (up v))=f at *
 have ups:∀ v,v<W.length->(v∈C/\Nx C v (f v))\/(v∉C/\f v=par v):=λ v hv=>by
  rw [<-hU];exact ups v hv
 have ndl:((cu W.length).map λ v=>rC v (f v)).Nodup:=by
  refine ke.mpr (BW.imp_of_mem λ {a b} ha hb hab e=>?_);have ha:=gw.mp ha;have hb:=gw.mp hb;rcases kFB e with ⟨z,_⟩ | ⟨z1,z2⟩
  ·omega
  ·rcases ups a ha with ⟨ca,na⟩ | ⟨ca,na⟩<;>rcases ups b hb with ⟨cb,nb⟩ | ⟨cb,nb⟩
   ·rw [z2] at na
    rw [<-z1] at nb;have:=kLW nd na nb;omega
   ·rw [z2] at na
    exact cb (qC na).2
   ·rw [<-z1] at nb
    exact ca (qC nb).2
   ·have da:=T.d a ha ca
    have db:=T.d b hb cb;rw [<-na,z2] at da;rw [<-nb,<-z1] at db;omega
 have:=de ndl (l₂:=(tiesS W).filter λ t=>decide (CtP C par t)) λ t ht=>by
  obtain ⟨v,hv,rfl⟩:=iO.mp ht;have hv:=gw.mp hv
  have two:E W v (f v)/\CtP C par (v,f v)/\CtP C par (f v,v):=by
   rcases ups v hv with ⟨c,n⟩ | ⟨c,n⟩
   ·exact ⟨ce _ _ n,.inr (.inr (.inl n)),.inr (.inr (.inr n))⟩
   ·rw [n]
    exact ⟨S.sym _ _ (T.e v hv c),.inr (.inl ⟨c,rfl⟩),.inl ⟨c,rfl⟩⟩
  obtain ⟨e,p1,p2⟩:=two;have ne:=(S.e e).2.2;unfold rC tiesS;rw [fj,fj,mem_stepsS]
  split
  ·rename_i c
   exact ⟨⟨e,decide_eq_true c⟩,decide_eq_true p1⟩
  ·rename_i c
   exact ⟨⟨S.sym _ _ e,decide_eq_true (by show f v<v;omega)⟩,decide_eq_true p2⟩
 rw [ao,fv] at this;exact this
open Classical in
theorem kMJ (S:Nb W) (con:∀ v,v<W.length->Reach W 0 v) (fl:W.length+(facesS W).length=(tiesS W).length+2) (nd:C.Nodup) (l3:3<=C.length) (ce:∀ p q,Nx C p q->E W p q) :
  ∃ lab:Nat->Nat->Nat,Fit W lab/\(∀ x y,E W x y->¬ Nx C x y->¬ Nx C y x->lab x y=lab y x)/\∀ p q,Nx C p q->lab p q≠lab q p:=by
 refine iV λ no=>?_
 obtain ⟨c0,hc0⟩ : ∃ c,c∈C:=by
  cases C with
  | nil=>simp at l3
  | cons c C=>exact ⟨c,eQ⟩
 obtain ⟨c1,hc1⟩:=vF hc0;have e01:=ce _ _ hc1;have lc:=(S.e e01).1;obtain ⟨par,dist,T⟩:=kHS (C:=C) λ v hv=>⟨c0,hc0,(Reach.symm S.sym (con c0 lc)).trans (con v hv)⟩;obtain ⟨R,lR,rS,cov,uni⟩:=kIL S
 have hfi:∀ t,∃ i,t∈kP W->∃ (h:i<R.length),t∈rnd W R[i]:=λ t=>by
  by_cases c:t∈kP W
  ·obtain ⟨i,h,m⟩:=cov t c
   exact ⟨i,λ _=>⟨h,m⟩⟩
  ·exact ⟨0,λ z=>absurd z c⟩
 have fis:=λ t=>nh (hfi t);generalize hF:(λ t=>uk (hfi t))=fi at *
 have fis:∀ t,t∈kP W->∃ (h:fi t<R.length),t∈rnd W R[fi t]:=λ t ht=>by
  subst hF;exact fis t ht
 have fnx:∀ t,t∈kP W->fi (nxt W t)=fi t:=λ t ht=>by
  obtain ⟨h1,m1⟩:=fis t ht;have hn:=rJ S (rS _ (gk h1)) m1;have hs:=rnd_sub S (rS _ (gk h1)) hn;obtain ⟨h2,m2⟩:=fis _ hs;exact uni _ _ _ h2 h1 m2 hn
 have frp:∀ i (h:i<R.length),fi R[i]=i:=λ i h=>by
  have hr:=rS _ (gk h);obtain ⟨h2,m2⟩:=fis _ hr;exact uni _ _ _ h2 h m2 (rnd_self S hr)
 have st:∀ x y,E W x y->(x,y)∈kP W:=λ x y e=>mem_steps.mpr e
 have ls:R.length<=(((tiesS W).filter λ t=>!decide (CtP C par t)).map λ t=>(fi t,fi (t.2,t.1))).length+1:=by
  refine kAL (λ l hl=>?_) λ m lm hl i hi=>?_
  ·obtain ⟨t,ht,rfl⟩:=iO.mp hl
   have ht:=(fj.mp ht).1;unfold tiesS at ht;have e:=mem_stepsS.mp (fj.mp ht).1;exact ⟨(fis t (st _ _ e)).1,(fis (t.2,t.1) (st _ _ (S.sym _ _ e))).1⟩
  ·have f1:Fit W (λ x y=>m.getD (fi (x,y)) 0):=λ x y v e n=>by
    have:=fnx _ (st x y e);rw [n] at this;show m.getD (fi (y,v)) 0=_;rw [this]
   have sy:=kJP (lab:=λ x y=>m.getD (fi (x,y)) 0) S T f1 λ x y e nt=>by
    show m.getD (fi (x,y)) 0=m.getD (fi (y,x)) 0;have ne:=(S.e e).2.2;rcases fe x y with c | c
    ·exact hl (fi (x,y),fi (y,x)) (iO.mpr ⟨(x,y),fj.mpr ⟨fj.mpr ⟨mem_stepsS.mpr e,decide_eq_true c⟩,by rw [decide_eq_false (show ¬ CtP C par (x,y) from nt)];rfl⟩,rfl⟩)
    ·have nt':¬ CtP C par (y,x):=λ z=>nt (by
      rcases z with z | z | z | z
      ·exact .inr (.inl z)
      ·exact .inl z
      ·exact .inr (.inr (.inr z))
      ·exact .inr (.inr (.inl z)))
     exact (hl (fi (y,x),fi (x,y)) (iO.mpr ⟨(y,x),fj.mpr ⟨fj.mpr ⟨mem_stepsS.mpr (S.sym _ _ e),decide_eq_true (by show y<x;omega)⟩,by rw [decide_eq_false nt'];rfl⟩,rfl⟩)).symm
   have ex:∃ p q,Nx C p q/\m.getD (fi (p,q)) 0=m.getD (fi (q,p)) 0:=iV λ z=>no ⟨_,f1,sy,λ p q h e=>z ⟨p,q,h,e⟩⟩;obtain ⟨p,q,h,e⟩:=ex;have all:=kJQ S T nd f1 ce sy h e
   have key:∀ i,i<R.length->m.getD i 0=m.getD (fi (p,q)) 0:=λ i hi=>by
    have e:E W R[i].1 R[i].2:=mem_steps.mp (rS _ (gk hi));have:=all _ _ e;rw [show (R[i].1,R[i].2)=R[i] from rfl,frp i hi] at this;exact this
   rw [key i hi,key 0 (by omega)]
 have tc:=sQ S T nd l3 ce
 have sum:((tiesS W).filter λ t=>decide (CtP C par t)).length+((tiesS W).filter λ t=>!decide (CtP C par t)).length=(tiesS W).length:=by
  have:∀ l:List (Nat×Nat),(l.filter λ t=>decide (CtP C par t)).length+(l.filter λ t=>!decide (CtP C par t)).length=l.length:=λ l=>by
   induction l with
   | nil=>rfl
   | cons t l ih =>
    rw [tz,tz]
    cases decide (CtP C par t)<;>simp<;>omega
  exact this _
 rw [ao] at ls;omega
end
end Fc
namespace Tri
open Cyc Rnd
theorem cJ {W:Rows} {top ahead st:List Nat} {pl:Nat} (nd:top.Nodup) (h:stF W top ahead pl=some st) :
  ∃ B f M l C,st=f::M++[l]/\top=B++(f::M++[l])++C/\(∀ q,q∈st↔q∈ahead/\q∈W.getD pl [])/\∀ t∈st.zip st.tail,(nxt W t).2=pl:=by
 obtain ⟨B,f,M,l,C,e1,e2,mem,nx⟩:=kBA h;refine ⟨B,f,M,l,C,e1,e2,λ q=>⟨mem q,λ hq=>?_⟩,nx⟩
 have snd:st.Nodup:=by
  rw [e2] at nd;rw [e1];exact (be.mp (be.mp nd).1).2.1
 have len:st.length=(ahead.filter λ q=>decide (q∈W.getD pl [])).length:=by
  unfold stF at h;dsimp only at h;by_cases c1:(top.filter λ q=>decide (q∈ahead.filter λ q=>decide (q∈W.getD pl []))).length<2\/(top.filter λ q=>decide (q∈ahead.filter λ q=>decide (q∈W.getD pl []))).length≠(ahead.filter λ q=>decide (q∈W.getD pl [])).length
  ·rw [if_pos c1] at h
   cases h
  rw [if_neg c1] at h
  split at h
  ·cases h
  split at h
  ·have h:=bj h
   rw [h] at c1;omega
  ·cases h
 by_cases c:q∈st
 ·exact c
 ·exfalso
  have:=de (fc.mpr ⟨c,snd⟩) (l₂:=ahead.filter λ q=>decide (q∈W.getD pl [])) λ x hx=>by
   rcases du.mp hx with rfl | z
   ·exact fj.mpr ⟨hq.1,decide_eq_true hq.2⟩
   ·exact fj.mpr ⟨(mem x z).1,decide_eq_true (mem x z).2⟩
  rw [eX] at this;omega
theorem kFH {W:Rows} {top ahead B M C:List Nat} {f l pl:Nat} (nd:top.Nodup) (and_:ahead.Nodup) (e:top=B++(f::M++[l])++C) (sub:∀ q∈top,q∈ahead) (mem:∀ q,q∈f::M++[l]↔q∈ahead/\q∈W.getD pl []) (nx:∀ t∈(f::M++[l]).zip (f::M++[l]).tail,(nxt W t).2=pl) :
  stF W top ahead pl=some (f::M++[l]):=by
 have nd0:=nd;rw [e] at nd0;have d1:=be.mp nd0;have d2:=be.mp d1.1
 have bel:∀ q,q∈(ahead.filter λ q=>decide (q∈W.getD pl []))↔q∈f::M++[l]:=λ q=>by
  rw [fj,decide_eq_true_iff,mem]
 have pm:(ahead.filter λ q=>decide (q∈W.getD pl [])).Perm (f::M++[l]):=(mo (and_.filter _) d2.2.1).mpr bel
 have es:(top.filter λ q=>decide (q∈ahead.filter λ q=>decide (q∈W.getD pl [])))=f::M++[l]:=by
  have e0:(λ q=>decide (q∈ahead.filter λ q=>decide (q∈W.getD pl [])))=λ q=>decide (q∈f::M++[l]):=by
   funext q
   rw [gx,decide_eq_true_iff,decide_eq_true_iff,bel]
  rw [e0,e,jz,jz];have fB:B.filter (λ q=>decide (q∈f::M++[l]))=[]:=qb.mpr λ q hq h=>d2.2.2 q hq q (of_decide_eq_true h) rfl;have fC:C.filter (λ q=>decide (q∈f::M++[l]))=[]:=qb.mpr λ q hq h=>d1.2.2 q (bu _ (of_decide_eq_true h)) q hq rfl;rw [fB,fC,AF.mpr λ q hq=>decide_eq_true hq];simp
 have lP:(f::M++[l]).length=M.length+2:=by simp
 have fB:f∉B:=λ h=>d2.2.2 f h f (by simp) rfl
 have i1:top.idxOf f=B.length:=by
  rw [e,show B++(f::M++[l])++C=B++f::(M++[l]++C) by simp];exact lE fB
 unfold stF;dsimp only;rw [es,pm.length_eq,if_neg (by rw [lP];omega),if_neg,if_pos]
 ·exact sh.mpr λ t ht=>decide_eq_true (nx t ht)
 ·intro h
  refine h ?_;rw [show (f::M++[l]).headD 0=f from rfl,i1,e,cv,uf rfl,qt rfl]
section
variable {W:Rows} {T ahead su sv:List Nat} {u v:Nat}
end
theorem uP {W:Rows} {ms:List Nat} (msn:ms.Nodup) (sym:∀ a b,E W a b->E W b a) (h0:Top W (ms.take 2) (ms.take 2)):∀ {i:Nat} {fs ts:List (List Nat)},i+2<=ms.length->goF W ms i=some (fs,ts)->Top W (ms.take (i+2)) (ts.getLastD [])
 | 0,fs,ts,_,h=>by
  unfold goF at h;have h:=bj h;injection h with h1 h2
  rw [<-h2];exact h0
 | i+1,fs,ts,hl,h=>by
  cases e:goF W ms i with
  | none =>
   have:=bV e 1;rw [show i+1=i+1 from rfl,this] at h;cases h
  | some x =>
   obtain ⟨f,t⟩:=x;have ih:=uP msn sym h0 (by omega) e
   cases s:stF W (t.getLastD []) (ms.take (i+2)) (ms.getD (i+2) 0) with
   | none=>rw [lH e s] at h;cases h
   | some st =>
    rw [pF e s] at h;have h:=bj h;injection h with h1 h2
    have np:ms.getD (i+2) 0∉ms.take (i+2):=by
     rw [ai,aa (by omega)];intro z;obtain ⟨j,hj,e⟩:=eU.mp z;rw [eK] at hj;rw [yn] at e;have:=(sd msn).mp e;omega
    have tk:ms.take (i+1+2)=ms.take (i+2)++[ms.getD (i+2) 0]:=by
     rw [show i+1+2=i+2+1 by omega,ig,ai,aa (show i+2<ms.length by omega)]
     rfl
    rw [<-h2,hV,tk];exact (ih.step sym np s).1
theorem bU {W:Rows} {ms:List Nat} {i j:Nat} {Fs Ts:List (List Nat)} (h:goF W ms (i+j)=some (Fs,Ts)):∃ fs ts,goF W ms i=some (fs,ts):=by
 cases e:goF W ms i with
 | none=>rw [bV e j] at h;cases h
 | some x=>exact ⟨x.1,x.2,rfl⟩
theorem uF {W:Rows} {ms:List Nat} {i:Nat} {fs ts Fs Ts:List (List Nat)} (h:goF W ms i=some (fs,ts)) (h':goF W ms (i+1)=some (Fs,Ts)):∃ st,stF W (ts.getLastD []) (ms.take (i+2)) (ms.getD (i+2) 0)=some st/\Fs=fs++[st]/\Ts=ts++[poF (ts.getLastD []) st (ms.getD (i+2) 0)]:=by
 cases s:stF W (ts.getLastD []) (ms.take (i+2)) (ms.getD (i+2) 0) with
 | none=>rw [lH h s] at h';cases h'
 | some st =>
  rw [pF h s] at h';have h':=bj h';injection h' with h1 h2
  exact ⟨st,rfl,h1.symm,h2.symm⟩
theorem kHF {W:Rows} {ms:List Nat}:∀ {i:Nat} {fs ts:List (List Nat)},goF W ms i=some (fs,ts)->fs.length=i/\ts.length=i+1:=by
 intro i
 induction i with
 | zero =>
  intro fs ts h;unfold goF at h;have h:=bj h;injection h with h1 h2
  rw [<-h1,<-h2];exact ⟨rfl,rfl⟩
 | succ i ih =>
  intro fs ts h;obtain ⟨f,t,e⟩:=bU (i:=i) (j:=1) h;obtain ⟨st,_,e1,e2⟩:=uF e h;obtain ⟨p,q⟩:=ih e;rw [e1,e2,cg,cg,p,q];exact ⟨rfl,rfl⟩
theorem cY {ms:List Nat} (msn:ms.Nodup) {k j:Nat} (h:k<=j) (hj:j<ms.length):ms.getD j 0∉ms.take k:=by
 rw [ai,aa hj];intro z;obtain ⟨m,hm,e⟩:=eU.mp z;rw [eK] at hm;rw [yn] at e;have:=(sd msn).mp e;omega
section
variable {ms:List Nat} {k:Nat}
variable {W:Rows} {a b c:Nat} {Fs Ts:List (List Nat)}
end
end Tri
namespace Fc
open Cyc Rnd Tri
section
variable {W:Rows} {C:List Nat} {lab:Nat->Nat->Nat}
theorem vE (A:List Nat) (x y:Nat) (B:List Nat):Nx (A++x::y::B) x y:=by
 show Adj ((A++x::y::B)++(A++x::y::B).head?.toList) x y;rw [cv];exact (qY A x _ x y).mpr (.inr (.inl ⟨rfl,rfl⟩))
theorem kCF:∀ {l:List Nat} {p q:Nat},Adj l.reverse p q->Adj l q p
 | [],_,_,h=>h.elim
 | [x],_,_,h=>h.elim
 | x::y::r,p,q,h=>by
  rw [yh,yh,cv] at h;rcases (qY _ y [x] p q).mp h with h | h
  ·refine .inr (kCF (l:=y::r) ?_)
   rw [yh];exact h
  ·rcases h with ⟨rfl,rfl⟩ | h
   ·exact .inl ⟨rfl,rfl⟩
   ·exact h.elim
theorem kGY (S:Nb W) (c1:Fit W lab) {k t:Nat} {row A B:List Nat} (er:W[k]?=some row):∀ (seg:List Nat),Ro row (A++seg++t::B)->(∀ z∈seg.tail,lab k z=lab z k)->∀ z∈seg,lab k z=lab t k:=by
 have one:∀ (u v:Nat) (A B:List Nat),Ro row (A++u::v::B)->lab k u=lab v k:=λ u v A B ro=>by
  have r:R W k u v:=⟨row,er,(ro.nx u v).mpr (vE A u v B)⟩;exact c1 v k u (S.sym _ _ (kAS r).2) (oX S.nd r)
 suffices H:∀ (n:Nat) (seg A B:List Nat) (t:Nat),seg.length=n->Ro row (A++seg++t::B)->(∀ z∈seg.tail,lab k z=lab z k)->∀ z∈seg,lab k z=lab t k from λ seg=>H _ seg A B t rfl
 intro n
 induction n with
 | zero =>
  intro seg A B t hn _ _ z hz;rw [iY.mp hn] at hz;cases hz
 | succ n ih =>
  intro seg A B t hn ro sy z hz;have ne:seg≠[]:=λ e=>by rw [e] at hn;cases hn
  obtain ⟨I,u,rfl⟩ : ∃ I u,seg=I++[u]:=⟨seg.dropLast,seg.getLast ne,(eR ne).symm⟩;have hu:lab k u=lab t k:=one u t (A++I) B (by simpa using ro);rcases bz.mp hz with m | m
  ·have ln:I.length=n:=by simpa using hn
   have q:=ih I A (t::B) u ln (by simpa using ro) (λ z hz=>by
    cases I with
    | nil=>cases hz
    | cons i I=>exact sy z (by simp at hz ⊢;exact .inl hz)) z m
   rw [q,<-hu]
   cases I with
   | nil=>cases m
   | cons i I=>exact (sy u (by simp)).symm
  ·rw [cy.mp m]
   exact hu
theorem kGX (S:Nb W) (c1:Fit W lab) {k:Nat} {row:List Nat} (er:W[k]?=some row):∀ (seg A B:List Nat) (t:Nat),Ro row (A++t::(seg++B))->(∀ z∈seg,lab k z=lab z k)->∀ z∈seg,lab k z=lab k t
 | [],_,_,_,_,_,z,hz=>by cases hz
 | u::seg,A,B,t,ro,sy,z,hz=>by
  have r:R W k t u:=⟨row,er,(ro.nx t u).mpr (vE A t u _)⟩;have hu:lab k t=lab u k:=c1 u k t (S.sym _ _ (kAS r).2) (oX S.nd r);have hu':lab k u=lab k t:=by rw [sy u (by simp),hu]
  rcases du.mp hz with rfl | m
  ·exact hu'
  ·rw [<-hu']
   exact kGX S c1 er seg (A++[t]) B u (by simpa using ro) (λ z hz=>sy z (dj _ hz)) z m
theorem dD (S:Nb W) (c1:Fit W lab) (sy:∀ x y,E W x y->¬ Nx C x y->¬ Nx C y x->lab x y=lab y x) {β:Nat}:∀ (D:List Nat) (e0:Nat),(∀ p q,Adj (e0::D) p q->E W p q)->(∀ d∈D,d∉C)->(∀ d1,D.head?=some d1->lab e0 d1=β)->∀ d∈D,∀ w,E W d w->lab d w=β
 | [],_,_,_,_,d,hd,_,_=>by cases hd
 | d1::D,e0,ad,nc,h1,d,hd,w,e=>by
  have e1:=ad e0 d1 (.inl ⟨rfl,rfl⟩);have n1:=nc d1 (by simp);have a:=h1 d1 rfl;have b:lab d1 e0=β:=by rw [<-sy e0 d1 e1 (λ h=>n1 (qC h).2) (λ h=>n1 (qC h).1)];exact a
  have all:∀ w,E W d1 w->lab d1 w=β:=λ w e=>by rw [kBP S c1 sy n1 e (S.sym _ _ e1)];exact b
  rcases du.mp hd with rfl | m
  ·exact all w e
  ·exact dD S c1 sy D d1 (λ p q h=>ad p q (.inr h)) (λ d hd=>nc d (dj _ hd)) (λ d2 h2=>by
    cases D with
    | nil=>cases h2
    | cons d3 D =>
     cases h2
     exact all d2 (ad d1 d2 (.inr (.inl ⟨rfl,rfl⟩)))) d m w e
theorem kJY (S:Nb W) (nd:C.Nodup) (c1:Fit W lab) (ce:∀ p q,Nx C p q->E W p q) (sy:∀ x y,E W x y->¬ Nx C x y->¬ Nx C y x->lab x y=lab y x) {p q p' q':Nat} (h:Nx C p q) (h':Nx C p' q'):lab p q=lab p' q':=by
 have:=aG nd (P:=λ c=>∀ n,Nx C c n->lab c n=lab p' q') (qC h).1 (qC h').1 (λ n hn=>by rw [jU nd hn h']) (λ c v hc _ hv z n hn=>by
  have hv:=uL nd hc hv;have:=jU nd hn hv;subst this;obtain ⟨m,hm⟩:=vF hc;rw [<-fL S nd c1 ce sy hv hm];exact z m hm)
 exact this q h
end
structure Pel (W:Rows) (a b:Nat) (T off:List Nat):Prop where
 nd:T.Nodup
 hd:T.head?=some a
 lt:T.getLast?=some b
 two:2<=T.length
 out:∀ x∈T,x∉off
 nof:off.Nodup
 inn:∀ x y,x∉off->x∉T->E W x y->y∉off
 row:∀ u v w,Nx T u v->Nx T v w->∃ row ins outs,W[v]?=some row/\Ro row (ins++outs)/\(∀ x∈ins,x∉off)/\(∀ x∈outs,x∈off)/\ins.head?=some u/\ins.getLast?=some w
section
variable {W:Rows} {T off:List Nat} {a b:Nat}
theorem Pel.path (h:Pel W a b T off) {u v:Nat} (n:Nx T u v):E W v u:=by
 obtain ⟨w,hw⟩:=vF (qC n).2;obtain ⟨row,ins,outs,er,ro,_,_,hh,_⟩:=h.row u v w n hw;refine ⟨row,er,(ro.mem u).mpr ?_⟩
 cases ins with
 | nil=>cases hh
 | cons i ins =>
  cases hh
  simp
theorem kED {W:Rows} (G:Good W):W.length+(facesS W).length=(tiesS W).length+2:=((three_cornered (Wb.of G).toNb).mpr (aS G)).1
theorem vI {l:List Nat} {x:Nat} (h:l.getLast?=some x):∃ I,l=I++[x]:=by
 have ne:l≠[]:=λ z=>by rw [z] at h;cases h
 rw [eN ne] at h;exact ⟨l.dropLast,by rw [<-bj h];exact (eR ne).symm⟩
theorem aM {l:List Nat} {x:Nat} (h:l.head?=some x):∃ I,l=x::I:=by
 cases l with
 | nil=>cases h
 | cons y l=>cases h;exact ⟨l,rfl⟩
theorem kOE (G:Good W) (h:Pel W a b T off) {A D M:List Nat} {x y k l:Nat} (e:T=A++(x::(k::M)++[y])++D) (ch:E W x y) (hl:l∈A++D) (ek:E W k l):False:=by
 have S:=(Wb.of G).toNb;have ndT:=h.nd;rw [e] at ndT;have d1:=be.mp ndT;have d2:=be.mp d1.1;have ndC:(x::(k::M)++[y]).Nodup:=d2.2.1
 have lC:l∉x::(k::M)++[y]:=λ z=>by
  rcases bz.mp hl with m | m
  ·exact d2.2.2 l m l z rfl
  ·exact d1.2.2 l (bu _ z) l m rfl
 have lT:l∈T:=by
  rw [e];rcases bz.mp hl with m | m
  ·exact az _ (az _ m)
  ·exact bu _ m
 have nT:∀ u v,Adj (x::(k::M)++[y]) u v->Nx T u v:=λ u v j=>by
  rw [e];exact (nxO u v).mpr (.inl j)
 have nC:∀ u v,Adj (x::(k::M)++[y]) u v->Nx (x::(k::M)++[y]) u v:=λ u v j=>(nxP (k::M) x y u v).mpr (.inl j);have nyx:Nx (x::(k::M)++[y]) y x:=(nxP (k::M) x y y x).mpr (.inr ⟨rfl,rfl⟩)
 have ce:∀ p q,Nx (x::(k::M)++[y]) p q->E W p q:=λ p q hn=>by
  rcases (nxP (k::M) x y p q).mp hn with j | ⟨rfl,rfl⟩
  ·exact S.sym _ _ (h.path (nT p q j))
  ·exact S.sym _ _ ch
 obtain ⟨lab,c1,sy,uneq⟩:=kMJ S G.con (kED G) ndC (by simp) ce
 have nonc:∀ {v p n z:Nat},Nx (x::(k::M)++[y]) p v->Nx (x::(k::M)++[y]) v n->E W v z->z≠p->z≠n->lab v z=lab z v:=λ hp hn ez n1 n2=>sy _ _ ez (λ hh=>n2 (jU ndC hh hn)) (λ hh=>n1 (xC ndC hh hp))
 have jxk:Adj (x::(k::M)++[y]) x k:=.inl ⟨rfl,rfl⟩
 obtain ⟨n,jkn⟩ : ∃ n,Adj (x::(k::M)++[y]) k n:=by
  cases M with
  | nil=>exact ⟨y,.inr (.inl ⟨rfl,rfl⟩)⟩
  | cons m M=>exact ⟨m,.inr (.inl ⟨rfl,rfl⟩)⟩
 have kA:lab k l=lab n k:=by
  obtain ⟨row,ins,outs,er,ro,hin,hout,hh,ht⟩:=h.row x k n (nT _ _ jxk) (nT _ _ jkn);obtain ⟨row',er',ml⟩:=id ek;rw [er] at er'
  cases er'
  have ndi:(ins++outs).Nodup:=ro.nd.mp (S.nd _ _ er)
  have li:l∈ins:=by
   rcases bz.mp ((ro.mem l).mp ml) with z | z
   ·exact z
   ·exact absurd (hout l z) (h.out l lT)
  obtain ⟨I,rfl⟩:=vI ht;have ndI:=(be.mp ndi).1
  have lI:l∈I:=by
   rcases bz.mp li with z | z
   ·exact z
   ·rw [cy.mp z] at lC
    exact absurd (qC (nC _ _ jkn)).2 lC
  refine kGY S c1 (A:=[]) (B:=outs) (t:=n) er I (by simpa using ro) (λ z hz=>?_) l lI;have zI:z∈I:=wc hz;refine nonc (nC _ _ jxk) (nC _ _ jkn) ⟨row,er,(ro.mem z).mpr (by simp [zI])⟩ (λ zx=>?_) (λ zn=>?_)
  ·cases I with
   | nil=>cases hz
   | cons i I =>
    have:i=x:=bj hh;rw [iC,fc] at ndI;exact ndI.1 (az _ (by rw [this,<-zx];exact hz))
  ·exact (be.mp ndI).2.2 z zI n (by simp) zn
 have back:∃ p q,Nx (x::(k::M)++[y]) p q/\lab l k=lab p q:=by
  rcases bz.mp hl with m | m
  ·-- ahead of x
   have neA:A≠[]:=CZ m;obtain ⟨A',p0,rfl⟩ : ∃ I u,A=I++[u]:=⟨A.dropLast,A.getLast neA,(eR neA).symm⟩
   have np0:Nx T p0 x:=by
    rw [e,show A'++[p0]++(x::(k::M)++[y])++D=A'++p0::x::((k::M)++[y]++D) by simp];exact vE _ _ _ _
   have key:lab x p0=lab y x:=by
    obtain ⟨row,ins,outs,er,ro,hin,hout,hh,ht⟩:=h.row p0 x k np0 (nT _ _ jxk);have ndi:(ins++outs).Nodup:=ro.nd.mp (S.nd _ _ er);have ndI:=(be.mp ndi).1;obtain ⟨row',er',my⟩:=id ch;rw [er] at er'
    cases er'
    have yT:y∈T:=by rw [e];simp
    have yi:y∈ins:=by
     rcases bz.mp ((ro.mem y).mp my) with z | z
     ·exact z
     ·exact absurd (hout y z) (h.out y yT)
    obtain ⟨I1,I2,rfl⟩:=ux yi;have p0y:p0≠y:=λ z=>d2.2.2 p0 (by simp) y (by simp) z
    have ky:k≠y:=λ z=>by
     rw [z] at ndC;simp at ndC
    have p0I:p0∈I1:=by
     cases I1 with
     | nil=>exact absurd (bj hh).symm p0y
     | cons i I1=>rw [show p0=i from (bj hh).symm];simp
    refine kGY S c1 (A:=[]) (B:=I2++outs) (t:=y) er I1 (by simpa using ro) (λ z hz=>?_) p0 p0I;have zI:z∈I1:=wc hz;refine nonc nyx (nC _ _ jxk) ⟨row,er,(ro.mem z).mpr (by simp [zI])⟩ (λ zy=>?_) (λ zk=>?_)
    ·exact (be.mp ndI).2.2 z zI y (by simp) zy
    ·obtain ⟨J,hJ⟩:=vI ht
     have kI:k∈y::I2:=by
      have:(I1++y::I2).getLast?=(y::I2).getLast?:=by rw [eY,eN (wm y I2)];rfl
      rw [this] at ht;exact zi ht
     exact (be.mp ndI).2.2 z zI k kI zk
   refine ⟨y,x,nyx,?_⟩;refine dD S c1 sy (A'++[p0]).reverse x (λ p q j=>?_) (λ d hd hc=>?_) (λ d1 hd=>?_) l (qe.mpr m) k (S.sym _ _ ek)
   ·have j':Adj (A'++[p0]++[x]).reverse p q:=by
     rw [we];exact j
    have j2:=kCF j';refine h.path (u:=q) (v:=p) ?_;rw [e];show Adj (A'++[p0]++(x::(k::M)++[y])++D++_) q p;rw [show A'++[p0]++(x::(k::M)++[y])++D=(A'++[p0])++x::((k::M)++[y]++D) by simp,cv (A'++[p0])];exact (qY _ x _ q p).mpr (.inl j2)
   ·exact d2.2.2 d (qe.mp hd) d hc rfl
   ·rw [we] at hd
    cases hd
    exact key
  ·-- behind y
   have neD:D≠[]:=CZ m
   obtain ⟨d0,D',rfl⟩ : ∃ d0 D',D=d0::D':=by
    cases D with
    | nil=>exact absurd rfl neD
    | cons d0 D'=>exact ⟨d0,D',rfl⟩
   obtain ⟨Q,p,hQ⟩ : ∃ Q p,k::M=Q++[p]:=⟨(k::M).dropLast,(k::M).getLast (by simp),(eR (by simp)).symm⟩
   have jpy:Adj (x::(k::M)++[y]) p y:=by
    rw [hQ,show x::(Q++[p])++[y]=(x::Q)++p::[y] by simp];exact (qY (x::Q) p [y] p y).mpr (.inr (.inl ⟨rfl,rfl⟩))
   have nyd:Nx T y d0:=by
    rw [e,show A++(x::(k::M)++[y])++d0::D'=(A++x::(k::M))++y::d0::D' by simp];exact vE _ _ _ _
   have px:p≠x:=λ z=>by
    rw [hQ,z] at ndC;simp at ndC
   have key:lab y d0=lab y x:=by
    obtain ⟨row,ins,outs,er,ro,hin,hout,hh,ht⟩:=h.row p y d0 (nT _ _ jpy) nyd;have ndi:(ins++outs).Nodup:=ro.nd.mp (S.nd _ _ er);have ndI:=(be.mp ndi).1;obtain ⟨row',er',mx⟩:=S.sym _ _ ch;rw [er] at er'
    cases er'
    have xT:x∈T:=by rw [e];simp
    have xi:x∈ins:=by
     rcases bz.mp ((ro.mem x).mp mx) with z | z
     ·exact z
     ·exact absurd (hout x z) (h.out x xT)
    obtain ⟨I1,I2,rfl⟩:=ux xi;have d0x:d0≠x:=λ z=>d1.2.2 x (by simp) d0 (by simp) z.symm
    have dI:d0∈I2:=by
     have e2:(I1++x::I2).getLast?=(x::I2).getLast?:=by rw [eY,eN (wm x I2)];rfl
     rw [e2] at ht;rcases du.mp (zi ht) with z | z
     ·exact absurd z d0x
     ·exact z
    have pI:p∈I1:=by
     cases I1 with
     | nil=>exact absurd (bj hh).symm px
     | cons i I1=>rw [show p=i from (bj hh).symm];simp
    refine kGX S c1 er I2 I1 outs x (by simpa using ro) (λ z hz=>?_) d0 dI;refine nonc (nC _ _ jpy) nyx ⟨row,er,(ro.mem z).mpr (by simp [hz])⟩ (λ zp=>?_) (λ zx=>?_)
    ·exact (be.mp ndI).2.2 p pI z (by simp [hz]) zp.symm
    ·have:=(be.mp ndI).2.1
     rw [fc] at this;exact this.1 (zx ▸ hz)
   refine ⟨y,x,nyx,?_⟩;refine dD S c1 sy (d0::D') y (λ p q j=>?_) (λ d hd hc=>?_) (λ d1 hd=>?_) l m k (S.sym _ _ ek)
   ·refine S.sym _ _ (h.path (u:=p) (v:=q) ?_)
    rw [e];show Adj (A++(x::(k::M)++[y])++d0::D'++_) p q;rw [show A++(x::(k::M)++[y])++d0::D'=(A++x::(k::M))++y::(d0::D') by simp,cv (A++x::(k::M))];refine (qY _ y _ p q).mpr (.inr ?_)
    have:∀ (l s:List Nat),Adj l p q->Adj (l++s) p q:=λ l=>by
     induction l with
     | nil=>intro s h;exact h.elim
     | cons i l ih =>
      intro s h
      cases l with
      | nil=>exact h.elim
      | cons i2 l =>
       rcases h with h | h
       ·exact .inl h
       ·exact .inr (ih s h)
    exact this (y::d0::D') _ j
   ·exact d1.2.2 d (bu _ hc) d hd rfl
   ·cases hd
    exact key
 obtain ⟨p,q,hpq,hlk⟩:=back;have s1:lab k l=lab l k:=sy k l ek (λ hh=>lC (qC hh).2) (λ hh=>lC (qC hh).1);refine uneq k n (nC _ _ jkn) ?_;rw [kJY S ndC c1 ce sy (nC _ _ jkn) hpq,<-hlk,<-s1,kA]
end
theorem sU:∀ {l:List Nat} {p q:Nat} (s:List Nat),Adj l p q->Adj (l++s) p q
 | [],_,_,_,h=>h.elim
 | [_],_,_,_,h=>h.elim
 | i::j::l,p,q,s,h=>by
  rcases h with h | h
  ·exact .inl h
  ·exact .inr (sU (l:=j::l) s h)
theorem kHY {l:List Nat} {p q:Nat} (r:List Nat) (h:Adj l p q):Nx (l++r) p q:=by
 show Adj (l++r++_) p q;rw [cv];exact sU _ h
section
variable {W:Rows} {T off:List Nat} {a b:Nat}
theorem kPG {T:List Nat} {i d:Nat} (hd:2<=d) (h:i+d<T.length):∃ M,T=T.take i++(T.getD i 0::(T.getD (i+1) 0::M)++[T.getD (i+d) 0])++T.drop (i+d+1):=by
 refine ⟨(T.drop (i+2)).take (d-2),?_⟩
 have g:∀ k,k<T.length->T.drop k=T.getD k 0::T.drop (k+1):=λ k hk=>by
  rw [md hk,ai,aa hk]
  rfl
 conv=>lhs;rw [<-eW i T,g i (by omega),g (i+1) (by omega),<-eW (d-2) (T.drop (i+1+1)),BJ,show i+1+1+(d-2)=i+d by omega,g (i+d) h]
 simp
theorem Pel.loose (G:Good W) (h:Pel W a b T off) (l3:3<=T.length):∃ i,0<i/\i+1<T.length/\∀ j,j<T.length->E W (T.getD i 0) (T.getD j 0)->j+1=i\/j=i+1:=by
 refine iV λ no=>?_;have S:=(Wb.of G).toNb;have ch:∀ i,0<i->i+1<T.length->∃ j,j<T.length/\E W (T.getD i 0) (T.getD j 0)/\j+1≠i/\j≠i+1/\j≠i:=λ i h0 h1=>iV λ z=>no ⟨i,h0,h1,λ j hj e=>iV λ y=>z ⟨j,hj,e,λ q=>y (.inl q),λ q=>y (.inr q),λ q=>by subst q;exact (S.e e).2.2 rfl⟩⟩
 have ex:∃ d,2<=d/\∃ i,i+d<T.length/\¬ (i=0/\i+d+1=T.length)/\E W (T.getD i 0) (T.getD (i+d) 0):=by
  obtain ⟨j,hj,e,n1,n2,n3⟩:=ch 1 (by omega) (by omega);exact ⟨j-1,by omega,1,by omega,by omega,by rw [show 1+(j-1)=j by omega];exact e⟩
 obtain ⟨d,⟨d2,i,hd,nb,e⟩,mn⟩:=kBM ex;obtain ⟨l,hl,ek,n1,n2,n3⟩:=ch (i+1) (by omega) (by omega);by_cases c:i<=l/\l<=i+d
 ·refine mn (l-(i+1)) (by omega) ⟨by omega,i+1,by omega,by omega,?_⟩
  rw [show i+1+(l-(i+1))=l by omega];exact ek
 ·obtain ⟨M,eT⟩:=kPG d2 hd
  refine kOE G h eT e ?_ ek;have gl:T[l]?=some (T.getD l 0):=by rw [ai,aa hl];rfl
  rcases fe l i with z | z
  ·refine az _ (eg (i:=l) ?_)
   rw [oh z];exact gl
  ·refine bu _ (eg (i:=l-(i+d+1)) ?_)
   rw [List.getElem?_drop,show i+d+1+(l-(i+d+1))=l by omega];exact gl
theorem Pel.step (G:Good W) (h:Pel W a b T off) {A D:List Nat} {u v w:Nat} (e:T=A++[u,v,w]++D) (lo:∀ z∈T,E W v z->z=u\/z=w) :
  ∃ mid row outs,W[v]?=some row/\Ro row ((u::mid++[w])++outs)/\(∀ x∈outs,x∈off)/\(∀ x∈u::mid++[w],x∉off)/\Pel W a b (A++(u::mid++[w])++D) (off++[v]):=by
 have S:=(Wb.of G).toNb;have ndT:=h.nd;rw [e] at ndT;have nT:∀ p q,Nx T p q↔(p=u/\q=v)\/(p=v/\q=w)\/Adj (w::(D++A)++[u]) p q:=λ p q=>by rw [e];exact kLY p q
 obtain ⟨row,ins,outs,er,ro,hin,hout,hh,ht⟩:=h.row u v w ((nT _ _).mpr (.inl ⟨rfl,rfl⟩)) ((nT _ _).mpr (.inr (.inl ⟨rfl,rfl⟩)))
 have uw:u≠w:=λ z=>by
  have:=(be.mp (be.mp ndT).1).2.1;rw [z] at this;simp at this
 obtain ⟨mid,rfl⟩ : ∃ mid,ins=u::mid++[w]:=by
  obtain ⟨I,rfl⟩:=aM hh;obtain ⟨J,hJ⟩:=vI ht
  cases J with
  | nil =>
   injection hJ with h1 h2
   exact absurd h1 uw
  | cons j J =>
   injection hJ with h1 h2
   exact ⟨J,by rw [h2];rfl⟩
 have ndi:((u::mid++[w])++outs).Nodup:=ro.nd.mp (S.nd _ _ er);have ndI:=(be.mp ndi).1;have vT:v∈T:=by rw [e];simp
 have inv:∀ z∈u::mid++[w],E W v z:=λ z hz=>⟨row,er,(ro.mem z).mpr (az _ hz)⟩
 have midT:∀ z∈mid,z∉T:=λ z hz hT=>by
  have n1:=(be.mp ndI).1;rcases lo z hT (inv z (by simp [hz])) with rfl | rfl
  ·exact (fc.mp n1).1 hz
  ·exact (be.mp ndI).2.2 z (by simp [hz]) z (by simp) rfl
 have vi:v∉u::mid++[w]:=λ z=>(S.e (inv v z)).2.2 rfl;have q1:=be.mp ndT;have q2:=be.mp q1.1
 have st:Str A mid D u w v:=by
  refine ⟨?_,?_⟩
  ·rw [be]
   refine ⟨?_,q1.2.1,λ x hx y hy z=>?_⟩
   ·rw [be]
    refine ⟨q2.1,ndI,λ x hx y hy z=>?_⟩;subst z;by_cases m:x∈mid
    ·exact midT x m (by rw [e];simp [hx])
    ·refine q2.2.2 x hx x ?_ rfl
     simp at hy ⊢;rcases hy with rfl | z | rfl
     ·exact .inl rfl
     ·exact absurd z m
     ·exact .inr (.inr rfl)
   ·subst z
    rcases bz.mp hx with m | m
    ·exact q1.2.2 x (az _ m) x hy rfl
    ·by_cases c:x∈mid
     ·exact midT x c (by rw [e];simp [hy])
     ·refine q1.2.2 x (bu _ ?_) x hy rfl
      simp at m ⊢;rcases m with rfl | z | rfl
      ·exact .inl rfl
      ·exact absurd z c
      ·exact .inr (.inr rfl)
  ·intro z
   rcases bz.mp z with z | z
   ·rcases bz.mp z with z | z
    ·exact q2.2.2 v z v (by simp) rfl
    ·exact vi z
   ·exact q1.2.2 v (by simp) v z rfl
 obtain ⟨f1,f2,f3,f4,f5,f6,f7,f8⟩:=st.facts;have voff:=h.out v vT
 have noff:∀ {x:Nat},x∉off->x≠v->x∉off++[v]:=λ h1 h2 z=>by
  rcases bz.mp z with z | z
  ·exact h1 z
  ·exact h2 (cy.mp z)
 have rv:∀ {p q:Nat},Adj (u::mid++[w]) p q->R W v p q:=λ {p q} j=>⟨row,er,(ro.nx p q).mpr (kHY outs j)⟩;refine ⟨mid,row,outs,er,ro,hout,hin,st.nd,?_,?_,by simp;omega,λ x hx=>?_,?_,λ x y hx hxT exy=>?_,λ p z n hp hn=>?_⟩
 ·have:=h.hd
  rw [e] at this
  cases A with
  | nil=>exact this
  | cons i A=>exact this
 ·have:=h.lt
  rw [e] at this;rcases qi D with rfl | ⟨D',d,rfl⟩
  ·rw [iN] at this ⊢
   rw [show A++[u,v,w]=(A++[u,v])++[w] by simp,jt] at this;rw [show A++(u::mid++[w])=(A++(u::mid))++[w] by simp,jt];exact this
  ·rw [uo,<-cv,jt] at this ⊢
   exact this
 ·have xv:x≠v:=λ z=>st.fr (z ▸ hx)
  refine noff ?_ xv;by_cases m:x∈u::mid++[w]
  ·exact hin x m
  ·refine h.out x ?_
   rw [e];simp at hx m ⊢
   grind
 ·rw [be]
  exact ⟨h.nof,by simp,λ x hx y hy z=>voff (by rw [<-cy.mp hy,<-z];exact hx)⟩
 ·have xo:x∉off:=λ z=>hx (az _ z)
  have xv:x≠v:=λ z=>hx (by rw [z];simp)
  have xT:x∉T:=λ z=>hxT (by
   rw [e] at z;simp at z ⊢
   grind)
  refine noff (h.inn x y xo xT exy) λ z=>hxT ?_;subst z;obtain ⟨r',er',mr⟩:=S.sym _ _ exy;rw [er] at er'
  cases er'
  rcases bz.mp ((ro.mem x).mp mr) with m | m
  ·exact az _ (bu _ m)
  ·exact absurd (hout x m) xo
 ·rcases (nxO p z).mp hp with j1 | j1<;>rcases (nxO z n).mp hn with j2 | j2
  ·-- a place that comes to the row
   obtain ⟨_,z2,_,z4⟩:=st.kk j1;obtain ⟨_,_,z6,_⟩:=st.kk j2
   have zm:z∈mid:=by
    simp at z2;rcases z2 with q | q | q
    ·exact absurd q z4
    ·exact q
    ·exact absurd q z6
   have r1:=G.tri _ _ _ (G.tri _ _ _ (rv j1));have r2:=G.tri _ _ _ (rv j2);obtain ⟨rz,ez,x1⟩:=r1;obtain ⟨rz',ez',x2⟩:=r2;rw [ez] at ez'
   cases ez'
   have ndz:=S.nd _ _ ez;obtain ⟨X,Y,rfl⟩:=ux (qC x1).1;have roz:Ro (X++v::Y) ((Y++X)++[v]):=⟨X++[v],Y,by simp,by simp⟩;have roz':Ro (X++v::Y) (v::(Y++X)):=⟨X,v::Y,by simp,by simp⟩;have ndl:=roz.nd.mp ndz;generalize Y++X=L at *;have pv:p≠v:=λ q=>vi (q ▸ (st.kk j1).1);refine ⟨_,L,[v],ez,roz,λ x hx=>?_,λ x hx=>by rw [cy.mp hx];simp,?_,?_⟩
   ·have zo:=h.inn z x (hin z (by simp [zm])) (midT z zm) ⟨_,ez,(roz.mem x).mpr (by simp [hx])⟩
    refine noff zo λ q=>?_;exact (be.mp ndl).2.2 x hx v (by simp) q
   ·cases L with
    | nil =>
     have:=qC ((roz'.nx v p).mp x1);simp at this;exact absurd this pv
    | cons p' L =>
     have:=jU ndz x1 ((roz'.nx v p').mpr (vE [] v p' L));rw [this]
     rfl
   ·rcases qi L with rfl | ⟨L',n',rfl⟩
    ·have:=qC ((roz'.nx v p).mp x1)
     simp at this;exact absurd this pv
    ·have:=xC ndz x2 ((roz.nx n' v).mpr (by rw [uo,cv];exact vE L' n' v []))
     rw [this,uo,jt]
  ·-- w
   have zw:z=w:=by
    obtain ⟨_,z2,_,z4⟩:=st.kk j1;rcases (st.j j2).1 with q | q
    ·exact q
    ·obtain ⟨a1,a2,a3⟩:=f4 z q
     simp at z2;rcases z2 with q | q | q
     ·exact absurd q a1
     ·exact absurd q a3
     ·exact q
   subst zw;obtain ⟨rz,ins2,outs2,ez,roz,hin2,hout2,hh2,ht2⟩:=h.row v z n ((nT _ _).mpr (.inr (.inl ⟨rfl,rfl⟩))) ((nT _ _).mpr (.inr (.inr j2)));have r1:=G.tri _ _ _ (G.tri _ _ _ (rv j1));obtain ⟨rz',ez',x1⟩:=r1;rw [ez] at ez'
   cases ez'
   have ndz:=S.nd _ _ ez;have ndl:=roz.nd.mp ndz
   have nv:n≠v:=λ q=>by
    rcases (st.j j2).2 with y | y
    ·exact f5 (by rw [<-y,q])
    ·exact f8 (q ▸ y)
   obtain ⟨I,rfl⟩:=aM hh2
   cases I with
   | nil=>exact absurd (bj ht2).symm nv
   | cons p' I =>
    have pp:=jU ndz x1 ((roz.nx v p').mpr (vE [] v p' (I++outs2)));refine ⟨rz,p'::I,outs2++[v],ez,?_,λ x hx=>?_,λ x hx=>?_,by rw [pp];rfl,?_⟩
    ·exact roz.trans ⟨[v],p'::I++outs2,by simp,by simp⟩
    ·refine noff (hin2 x (dj _ hx)) λ q=>?_
     have:=(be.mp ndl).1;exact (fc.mp this).1 (q ▸ hx)
    ·rcases bz.mp hx with m | m
     ·exact az _ (hout2 x m)
     ·exact bu _ m
    ·rw [yd] at ht2
     exact ht2
  ·-- u
   have zu:z=u:=by
    obtain ⟨z2,_,z4,_⟩:=st.kk j2;rcases (st.j j1).2 with q | q
    ·exact q
    ·obtain ⟨a1,a2,a3⟩:=f4 z q
     simp at z2;rcases z2 with q | q | q
     ·exact q
     ·exact absurd q a3
     ·exact absurd q a2
   subst zu;obtain ⟨rz,ins2,outs2,ez,roz,hin2,hout2,hh2,ht2⟩:=h.row p z v ((nT _ _).mpr (.inr (.inr j1))) ((nT _ _).mpr (.inl ⟨rfl,rfl⟩));have r1:=G.tri _ _ _ (rv j2);obtain ⟨rz',ez',x1⟩:=r1;rw [ez] at ez'
   cases ez'
   have ndz:=S.nd _ _ ez;have ndl:=roz.nd.mp ndz
   have pv:p≠v:=λ q=>by
    rcases (st.j j1).1 with y | y
    ·exact f6 (by rw [<-y,q])
    ·exact f8 (q ▸ y)
   obtain ⟨J,rfl⟩:=vI ht2;rcases qi J with rfl | ⟨J',n',rfl⟩
   ·exact absurd (bj hh2).symm pv
   ·rw [uo] at *
    have pp:=xC ndz x1 ((roz.nx n' v).mpr (by rw [cv,cv];exact vE J' n' v outs2));refine ⟨rz,J'++[n'],v::outs2,ez,?_,λ x hx=>?_,λ x hx=>?_,?_,by rw [pp,jt]⟩
    ·have:J'++[n']++v::outs2=J'++[n']++[v]++outs2:=by simp
     rw [this];exact roz
    ·refine noff (hin2 x (az _ hx)) λ q=>?_
     have:=(be.mp ndl).1;exact (be.mp this).2.2 x hx v (by simp) q
    ·rcases du.mp hx with m | m
     ·rw [m];simp
     ·exact az _ (hout2 x m)
    ·cases J' with
     | nil=>exact hh2
     | cons i J'=>exact hh2
  ·-- the others
   have zo:z∈D++A:=by
    rcases (st.j j1).2 with q | q
    ·rcases (st.j j2).1 with y | y
     ·exact absurd (q.symm.trans y) uw
     ·exact y
    ·exact q
   obtain ⟨rz,ins2,outs2,ez,roz,hin2,hout2,hh2,ht2⟩:=h.row p z n ((nT _ _).mpr (.inr (.inr j1))) ((nT _ _).mpr (.inr (.inr j2)));refine ⟨rz,ins2,outs2,ez,roz,λ x hx=>noff (hin2 x hx) λ q=>?_,λ x hx=>az _ (hout2 x hx),hh2,ht2⟩;subst q;have ezx:E W z x:=⟨rz,ez,(roz.mem x).mpr (az _ hx)⟩;obtain ⟨a1,a2,a3⟩:=f4 z zo
   have zT:z∈T:=by
    rw [e];simp at zo ⊢
    grind
   rcases lo z zT (S.sym _ _ ezx) with y | y
   ·exact a1 y
   ·exact a2 y
end
section
variable {W:Rows} {a b c:Nat}
theorem kFO (S:Nb W) {z n p:Nat} (h:R W z n p) (np:n≠p):∃ row ins,W[z]?=some row/\Ro row ins/\ins.head?=some p/\ins.getLast?=some n:=by
 obtain ⟨row,er,x⟩:=h;have nd:=S.nd _ _ er;obtain ⟨X,Y,rfl⟩:=ux (qC x).2;have ro:Ro (X++p::Y) (p::(Y++X)):=⟨X,p::Y,rfl,by simp⟩;have ro':Ro (X++p::Y) ((Y++X)++[p]):=⟨X++[p],Y,by simp,by simp⟩;refine ⟨_,p::(Y++X),er,ro,rfl,?_⟩;generalize Y++X=L at *;rcases qi L with rfl | ⟨L',n',rfl⟩
 ·have:=(qC ((ro.nx n p).mp x)).1
  simp at this;exact absurd this np
 ·rw [uo] at *
  have:=xC nd x ((ro'.nx n' p).mpr (by rw [cv];exact vE L' n' p []));rw [this,<-iC,jt]
theorem kCD (G:Good W) (h:R W c b a):a≠c/\b≠c/\a≠b:=by
 obtain ⟨_,_,_,h1,h2⟩:=kFU G h;obtain ⟨_,_,_,h3,_⟩:=kFU G (G.tri _ _ _ h);exact ⟨h2,h1,h3⟩
theorem Pel.start (G:Good W) (h:R W c b a):Pel W a b [a,c,b] []:=by
 have S:=(Wb.of G).toNb;obtain ⟨n1,n2,n3⟩:=kCD G h;have h2:=G.tri _ _ _ h;have h3:=G.tri _ _ _ h2;refine ⟨by simp;exact ⟨⟨n1,n3⟩,n2.symm⟩,rfl,rfl,by simp,by simp,by simp,λ _ _ _ _ _=>by simp,λ u v w hu hw=>?_⟩
 have key:∀ {z n p:Nat},R W z n p->n≠p->∃ row ins outs,W[z]?=some row/\Ro row (ins++outs)/\(∀ x∈ins,x∉([]:List Nat))/\(∀ x∈outs,x∈([]:List Nat))/\ins.head?=some p/\ins.getLast?=some n:=λ hr ne=>by
  obtain ⟨row,ins,e1,e2,e3,e4⟩:=kFO S hr ne;exact ⟨row,ins,[],e1,by rw [iN];exact e2,by simp,by simp,e3,e4⟩
 rw [nx3] at hu hw;rcases hu with ⟨rfl,rfl⟩ | ⟨rfl,rfl⟩ | ⟨rfl,rfl⟩
 ·rcases hw with ⟨z,_⟩ | ⟨_,rfl⟩ | ⟨z,_⟩
  ·exact absurd z.symm n1
  ·exact key h n3.symm
  ·exact absurd z.symm n2
 ·rcases hw with ⟨z,_⟩ | ⟨z,_⟩ | ⟨_,rfl⟩
  ·exact absurd z.symm n3
  ·exact absurd z n2
  ·exact key h2 n1
 ·rcases hw with ⟨_,rfl⟩ | ⟨z,_⟩ | ⟨z,_⟩
  ·exact key h3 n2.symm
  ·exact absurd z n1
  ·exact absurd z n3
theorem Pel.stop (G:Good W) {off:List Nat} (h:Pel W a b [a,b] off):∀ x,x<W.length->x∈off\/x=a\/x=b:=by
 have S:=(Wb.of G).toNb
 have nx:∀ p q,Nx [a,b] p q↔(p=a/\q=b)\/(p=b/\q=a):=λ p q=>by
  show Adj [a,b,a] p q↔_;simp only [Adj,or_false]
 have only:∀ y z,Nx [a,b] z y->Nx [a,b] y z->∀ x,E W y x->x∈off\/x=z:=λ y z h1 h2 x e=>by
  obtain ⟨row,ins,outs,er,ro,hin,hout,hh,ht⟩:=h.row z y z h1 h2;obtain ⟨row',er',m⟩:=e;rw [er] at er'
  cases er'
  have nd:=(be.mp (ro.nd.mp (S.nd _ _ er))).1;rcases bz.mp ((ro.mem x).mp m) with q | q
  ·obtain ⟨I,rfl⟩:=aM hh
   rcases qi I with rfl | ⟨I',i,rfl⟩
   ·exact .inr (cy.mp q)
   ·rw [uo,<-iC,jt] at ht
    rw [bj ht] at nd;simp at nd
  ·exact .inl (hout x q)
 have ab:∀ x,E W a x->x∈off\/x=b:=only a b ((nx b a).mpr (.inr ⟨rfl,rfl⟩)) ((nx a b).mpr (.inl ⟨rfl,rfl⟩));have ba:∀ x,E W b x->x∈off\/x=a:=only b a ((nx a b).mpr (.inl ⟨rfl,rfl⟩)) ((nx b a).mpr (.inr ⟨rfl,rfl⟩));intro x hx;refine iV λ no=>?_;have al:a<W.length:=(S.e (h.path ((nx b a).mpr (.inr ⟨rfl,rfl⟩)))).1;have r:Reach W x a:=(Reach.symm S.sym (G.con x hx)).trans (G.con a al)
 have key:∀ y,Reach W x y->y∉off/\y≠a/\y≠b:=λ y r=>by
  induction r with
  | here=>exact ⟨λ z=>no (.inl z),λ z=>no (.inr (.inl z)),λ z=>no (.inr (.inr z))⟩
  | more _ e ih =>
   rename_i y z _
   obtain ⟨i1,i2,i3⟩:=ih;refine ⟨h.inn y z i1 (by simp;exact ⟨i2,i3⟩) e,λ q=>?_,λ q=>?_⟩
   ·subst q
    rcases ab y (S.sym _ _ e) with q | q
    ·exact i1 q
    ·exact i3 q
   ·subst q
    rcases ba y (S.sym _ _ e) with q | q
    ·exact i1 q
    ·exact i2 q
 exact (key a r).2.1 rfl
inductive Peels (W:Rows) (a b:Nat):List Nat->List Nat->List Nat->Prop
 | done {off:List Nat}:Pel W a b [a,b] off->Peels W a b [a,b] off []
 | step {A D mid off rest row outs:List Nat} {u v w:Nat}:Pel W a b (A++[u,v,w]++D) off->W[v]?=some row->Ro row ((u::mid++[w])++outs)->(∀ x∈outs,x∈off)->Peels W a b (A++(u::mid++[w])++D) (off++[v]) rest->Peels W a b (A++[u,v,w]++D) off (v::rest)
theorem Peels.pel {T off rest:List Nat} (h:Peels W a b T off rest):Pel W a b T off:=by
 cases h with
 | done h=>exact h
 | step h _ _ _ _=>exact h
theorem Peels.end_ {T off rest:List Nat} (h:Peels W a b T off rest):Pel W a b [a,b] (off++rest):=by
 induction h with
 | done h=>rw [iN];exact h
 | step _ _ _ _ _ ih =>
  rw [cv] at ih;exact ih
theorem Peels.sub {T off rest:List Nat} (h:Peels W a b T off rest):∀ x∈T,x=a\/x=b\/x∈rest:=by
 induction h with
 | done h =>
  intro x hx;simp at hx;rcases hx with q | q
  ·exact .inl q
  ·exact .inr (.inl q)
 | step _ _ _ _ _ ih =>
  rename_i A D mid off rest row outs u v w _ _ _ _ _
  intro x hx;by_cases q:x=v
  ·exact .inr (.inr (by rw [q];simp))
  ·rcases ih x (by simp at hx ⊢;grind) with q | q | q
   ·exact .inl q
   ·exact .inr (.inl q)
   ·exact .inr (.inr (dj _ q))
theorem Peels.go (G:Good W) {T off rest:List Nat} (h:Peels W a b T off rest):∀ more,∃ fs ts,goF W (a::b::(rest.reverse++more)) rest.length=some (fs,ts)/\ts.getLastD []=T:=by
 have S:=(Wb.of G).toNb
 induction h with
 | done h=>exact λ more=>⟨[],[[a,b]],rfl,rfl⟩
 | step hp er ro hout hs ih =>
  rename_i A D mid off rest row outs u v w
  intro more;obtain ⟨fs,ts,g,lt⟩:=ih (v::more);have e1:(v::rest).reverse++more=rest.reverse++v::more:=by simp
  rw [e1]
  have tk:(a::b::(rest.reverse++v::more)).take (rest.length+2)=a::b::rest.reverse:=by
   rw [show a::b::(rest.reverse++v::more)=(a::b::rest.reverse)++v::more by simp,qt (by simp)]
  have gt:(a::b::(rest.reverse++v::more)).getD (rest.length+2) 0=v:=by
   rw [ai,show a::b::(rest.reverse++v::more)=(a::b::rest.reverse)++v::more by simp,bb (by simp)];simp
  have pe:=hs.end_;have ps:=hs.pel;have out:=pe.out;have nof:=pe.nof;have an:a∉(off++[v])++rest:=out a (by simp);have bn:b∉(off++[v])++rest:=out b (by simp)
  have ab:a≠b:=by
   have:=pe.nd;simpa using this
  have nrest:rest.Nodup:=(be.mp nof).2.1
  have z:stF W (ts.getLastD []) ((a::b::(rest.reverse++v::more)).take (rest.length+2)) ((a::b::(rest.reverse++v::more)).getD (rest.length+2) 0)=some (u::mid++[w]):=by
   rw [lt,tk,gt];have gv:W.getD v []=row:=by rw [ai,er];rfl
   refine kFH ps.nd ?_ rfl (λ q hq=>?_) (λ q=>?_) (λ t ht=>?_)
   ·rw [fc,fc,du,qe,qe]
    exact ⟨λ z=>z.elim ab λ q=>an (bu _ q),λ q=>bn (bu _ q),(Ar rest).nodup_iff.mpr nrest⟩
   ·rcases hs.sub q hq with y | y | y
    ·simp [y]
    ·simp [y]
    ·simp [y]
   ·rw [gv]
    constructor
    ·intro hq
     refine ⟨?_,(ro.mem q).mpr (az _ hq)⟩;rcases hs.sub q (az _ (bu _ hq)) with y | y | y
     ·simp [y]
     ·simp [y]
     ·simp [y]
    ·rintro ⟨h1,h2⟩
     rcases bz.mp ((ro.mem q).mp h2) with y | y
     ·exact y
     ·have qo:=hout q y
      exfalso;simp only [du,qe] at h1;rcases h1 with rfl | rfl | h1
      ·exact an (az _ (az _ qo))
      ·exact bn (az _ (az _ qo))
      ·exact (be.mp nof).2.2 q (az _ qo) q h1 rfl
   ·have j:=uH (show (t.1,t.2)∈_ from ht)
    have r:R W v t.1 t.2:=⟨row,er,(ro.nx _ _).mpr (kHY outs j)⟩;have:=oX S.nd (G.tri _ _ _ (G.tri _ _ _ r));rw [show t=(t.1,t.2) from rfl,this]
  refine ⟨_,_,pF g z,?_⟩;rw [hV,lt,gt,fK rfl ps.nd]
theorem Peels.laid (G:Good W) {rest:List Nat} (h:Peels W a b [a,c,b] [] rest) (hb:R W c b a) :
  (a::b::rest.reverse).Perm (cu W.length)/\∃ Fs Ts,xW W a b c (a::b::rest.reverse)=some (Fs,Ts):=by
 have S:=(Wb.of G).toNb;have pe:=h.end_;rw [jr] at pe;have an:a∉rest:=pe.out a (by simp);have bn:b∉rest:=pe.out b (by simp);obtain ⟨n1,n2,n3⟩:=kCD G hb;obtain ⟨l1,l2,l3,_,_⟩:=kFU G hb
 have lrest:∀ {T off rest:List Nat},Peels W a b T off rest->∀ x∈rest,x<W.length:=λ h=>by
  induction h with
  | done=>intro x hx;cases hx
  | step _ er _ _ _ ih =>
   intro x hx;rcases du.mp hx with rfl | q
   ·exact (aq.mp er).1
   ·exact ih x q
 have cl:∃ r',rest=c::r':=by
  generalize hT:[a,c,b]=T at h
  cases h with
  | done=>simp at hT
  | step _ _ _ _ _ =>
   rename_i A D mid rest row outs u v w _ _ _ _ _
   have hl:=congrArg fz hT;simp at hl;have hA:A=[]:=iY.mp (by omega);subst hA;simp at hT;exact ⟨rest,by rw [hT.2.1]⟩
 obtain ⟨r',hr'⟩:=cl;refine ⟨?_,?_⟩
 ·refine (mo ?_ si).mpr λ x=>?_
  ·rw [fc,fc,du,qe,qe]
   exact ⟨λ z=>z.elim n3 an,bn,(Ar rest).nodup_iff.mpr pe.nof⟩
  ·rw [du,du,qe,gw]
   constructor
   ·rintro (rfl | rfl | q)
    ·exact l3
    ·exact l2
    ·exact lrest h x q
   ·intro hx
    rcases pe.stop G x hx with q | q | q
    ·exact .inr (.inr q)
    ·exact .inl q
    ·exact .inr (.inl q)
 ·obtain ⟨fs,ts,g,_⟩:=h.go G []
  rw [iN] at g;refine ⟨fs,ts,?_⟩;unfold xW;rw [if_pos]
  ·rw [show (a::b::rest.reverse).length-2=rest.length by simp]
   exact g
  ·refine ⟨rfl,rfl,?_⟩
   rw [hr',yh,<-iC,<-iC,jt]
end
def looseN (W:Rows) (T:List Nat) (i:Nat):Nat:=(T.filter λ q=>decide (q∈W.getD (T.getD i 0) [])).length
section
variable {W:Rows} {T off:List Nat} {a b:Nat}
theorem mem_getD {v z:Nat}:z∈W.getD v []↔E W v z:=by
 rw [ai];constructor
 ·intro h
  cases e:W[v]? with
  | none=>rw [e] at h;cases h
  | some row =>
   rw [e] at h;exact ⟨row,e,h⟩
 ·rintro ⟨row,e,m⟩
  rw [e];exact m
theorem kOC {i:Nat} (h0:0<i) (h1:i+1<T.length):T=T.take (i-1)++[T.getD (i-1) 0,T.getD i 0,T.getD (i+1) 0]++T.drop (i+2):=by
 have g:∀ k,k<T.length->T.drop k=T.getD k 0::T.drop (k+1):=λ k hk=>by
  rw [md hk,ai,aa hk]
  rfl
 conv=>lhs;rw [<-eW (i-1) T,g (i-1) (by omega),show i-1+1=i by omega,g i (by omega),g (i+1) (by omega)]
 simp
theorem Pel.beside (h:Pel W a b T off) {A D:List Nat} {u v w:Nat} (e:T=A++[u,v,w]++D):E W v u/\E W w v:=by
 have nT:∀ p q,Nx T p q↔(p=u/\q=v)\/(p=v/\q=w)\/Adj (w::(D++A)++[u]) p q:=λ p q=>by rw [e];exact kLY p q
 exact ⟨h.path ((nT _ _).mpr (.inl ⟨rfl,rfl⟩)),h.path ((nT _ _).mpr (.inr (.inl ⟨rfl,rfl⟩)))⟩
theorem kHG {T:List Nat} (nd:T.Nodup) {i j:Nat} (hi:i<T.length) (hj:j<T.length) (e:T.getD i 0=T.getD j 0):i=j:=by
 rw [ai,ai,aa hi,aa hj] at e;exact (sd nd).mp e
theorem mP (S:Nb W) (h:Pel W a b T off) {i:Nat} (h0:0<i) (h1:i+1<T.length):looseN W T i=2↔∀ z∈T,E W (T.getD i 0) z->z=T.getD (i-1) 0\/z=T.getD (i+1) 0:=by
 have e:=kOC h0 h1;obtain ⟨b1,b2⟩:=h.beside e;have b2:=S.sym _ _ b2
 have uw:T.getD (i-1) 0≠T.getD (i+1) 0:=λ z=>by
  have:=kHG h.nd (by omega) (by omega) z;omega
 have uT:T.getD (i-1) 0∈T:=by rw [ai,aa (by omega)];exact gk _
 have wT:T.getD (i+1) 0∈T:=by rw [ai,aa (by omega)];exact gk _
 have two:∀ z∈[T.getD (i-1) 0,T.getD (i+1) 0],z∈T.filter λ q=>decide (q∈W.getD (T.getD i 0) []):=λ z hz=>by
  simp only [du,kh,or_false] at hz;rcases hz with rfl | rfl
  ·exact fj.mpr ⟨uT,decide_eq_true (mem_getD.mpr b1)⟩
  ·exact fj.mpr ⟨wT,decide_eq_true (mem_getD.mpr b2)⟩
 have nd2:[T.getD (i-1) 0,T.getD (i+1) 0].Nodup:=by
  rw [fc,cy];exact ⟨uw,by simp⟩
 have ndf:(T.filter λ q=>decide (q∈W.getD (T.getD i 0) [])).Nodup:=h.nd.filter _;have le:=de nd2 two;constructor
 ·intro l z hz ez
  refine iV λ no=>?_
  have nd3:(z::[T.getD (i-1) 0,T.getD (i+1) 0]).Nodup:=by
   rw [fc];refine ⟨λ m=>no ?_,nd2⟩;rcases du.mp m with q | q
   ·exact .inl q
   ·exact .inr (cy.mp q)
  have:=de nd3 (l₂:=T.filter λ q=>decide (q∈W.getD (T.getD i 0) [])) λ x hx=>by
   rcases du.mp hx with rfl | m
   ·exact fj.mpr ⟨hz,decide_eq_true (mem_getD.mpr ez)⟩
   ·exact two x m
  unfold looseN at l;simp only [eX,ir] at this;omega
 ·intro l
  have:=de ndf (l₂:=[T.getD (i-1) 0,T.getD (i+1) 0]) λ x hx=>by
   obtain ⟨m1,m2⟩:=fj.mp hx;rcases l x m1 (mem_getD.mp (of_decide_eq_true m2)) with z | z
   ·rw [z];simp
   ·rw [z];simp
  unfold looseN;simp only [eX,ir] at this le;omega
theorem Pel.looseN (G:Good W) (h:Pel W a b T off) (l3:3<=T.length):∃ i,0<i/\i+1<T.length/\looseN W T i=2:=by
 obtain ⟨i,h0,h1,hl⟩:=h.loose G l3;refine ⟨i,h0,h1,(mP (Wb.of G).toNb h h0 h1).mpr λ z hz ez=>?_⟩;obtain ⟨j,hj,rfl⟩:=eU.mp hz;have gj:T.getD j 0=T[j]:=by rw [ai,aa hj];rfl
 rcases hl j hj (by rw [gj];exact ez) with q | q
 ·exact .inl (by rw [<-gj,show i-1=j by omega])
 ·exact .inr (by rw [<-gj,q])
theorem kLH {row X:List Nat} {u:Nat} (nd:row.Nodup) (h:Ro row (u::X)):rot row u=u::X:=by
 obtain ⟨A,B,rfl,e⟩:=h;unfold rot
 cases B with
 | nil =>
  rw [jr] at e;subst e;simp
 | cons b B =>
  injection e with e1 e2
  subst e1;have nA:u∉A:=λ z=>(be.mp nd).2.2 u z u (by simp) rfl;rw [lE nA,uf rfl,qt rfl,e2]
  rfl
theorem Pel.turn (G:Good W) (h:Pel W a b T off) {i:Nat} (h0:0<i) (h1:i+1<T.length) (lo:Fc.looseN W T i=2) :
  ∃ mid row,W[T.getD i 0]?=some row/\T.getD (i-1) 0∈row/\T.getD (i+1) 0∈row/\(rot row (T.getD (i-1) 0)).take ((rot row (T.getD (i-1) 0)).idxOf (T.getD (i+1) 0)+1)=T.getD (i-1) 0::mid++[T.getD (i+1) 0] /\
   Pel W a b (T.take (i-1)++(T.getD (i-1) 0::mid++[T.getD (i+1) 0])++T.drop (i+2)) (off++[T.getD i 0]) /\
   ∀ rest,Peels W a b (T.take (i-1)++(T.getD (i-1) 0::mid++[T.getD (i+1) 0])++T.drop (i+2)) (off++[T.getD i 0]) rest->Peels W a b T off (T.getD i 0::rest):=by
 have S:=(Wb.of G).toNb;have e:=kOC h0 h1;obtain ⟨mid,row,outs,er,ro,hout,hin,hp⟩:=h.step G e ((mP S h h0 h1).mp lo);have nd:=S.nd _ _ er;have rt:rot row (T.getD (i-1) 0)=(T.getD (i-1) 0::mid++[T.getD (i+1) 0])++outs:=kLH nd ro;have ndr:=ro.nd.mp nd;refine ⟨mid,row,er,(ro.mem _).mpr (by simp),(ro.mem _).mpr (by simp),?_,hp,λ rest hr=>?_⟩
 ·rw [rt,show (T.getD (i-1) 0::mid++[T.getD (i+1) 0])++outs=(T.getD (i-1) 0::mid)++T.getD (i+1) 0::outs by simp]
  have n1:T.getD (i+1) 0∉T.getD (i-1) 0::mid:=λ z=>(be.mp (be.mp ndr).1).2.2 _ z _ (by simp) rfl;rw [lE n1,show (T.getD (i-1) 0::mid)++T.getD (i+1) 0::outs=(T.getD (i-1) 0::mid++[T.getD (i+1) 0])++outs by simp,qt (by simp)]
 ·have h':=h
  conv=>arg 4;rw [e]
  rw [e] at h';exact .step h' er ro hout hr
theorem Pel.two_end (h:Pel W a b T off) (l:T.length=2):T=[a,b]:=by
 have h1:=h.hd;have h2:=h.lt
 match T,l with
 | [x,y],_ =>
  cases h1
  cases h2
  rfl
end
end Fc
namespace Tri
open Cyc Rnd
section
variable {W W':Rows} {g:Nat->Nat} {n:Nat}
end
section
variable {W M:Rows}
end
section
variable {W V:Rows} {ns:List Nat}
end
section
variable {W W':Rows}
theorem tF {a b:Nat} (S:Nb W) (e:E W a b):Top W [a,b] [a,b]:=by
 refine ⟨?_,λ x hx=>hx,λ x y ad=>?_⟩
 ·have:=(S.e e).2.2
  simp [this.symm]
 ·rcases ad with ⟨rfl,rfl⟩ | z
  ·exact e
  ·exact absurd z id
theorem kML (sym:∀ a b,E W a b->E W b a) {ms:List Nat} (msn:ms.Nodup) (h0:Top W (ms.take 2) (ms.take 2)) :
  ∀ {i:Nat} {fs ts:List (List Nat)},i+2<=ms.length->goF W ms i=some (fs,ts)->(∀ T∈ts,T.Nodup/\∀ x∈T,x∈ms)/\∀ T∈fs,T.Nodup/\∀ x∈T,x∈ms:=by
 intro i
 induction i with
 | zero =>
  intro fs ts _ h;unfold goF at h;have h:=bj h;injection h with h1 h2
  rw [<-h1,<-h2];refine ⟨λ T hT=>?_,λ T hT=>by cases hT⟩;rw [cy.mp hT];exact ⟨h0.nd,λ x hx=>rj hx⟩
 | succ i ih =>
  intro fs ts hl h;obtain ⟨f1,t1,e⟩:=bU (i:=i) (j:=1) h;obtain ⟨st,z,e1,e2⟩:=uF e h;have TT:=uP msn sym h0 (by omega) e;have T2:=uP msn sym h0 (by omega) h;obtain ⟨i1,i2⟩:=ih (by omega) e;obtain ⟨B,f,M,l,C,s1,et,mem,nx⟩:=cJ TT.nd z;refine ⟨λ T hT=>?_,λ T hT=>?_⟩
  ·rw [e2] at hT
   rcases bz.mp hT with m | m
   ·exact i1 T m
   ·have:T=ts.getLastD []:=by
     rw [cy.mp m,e2];generalize poF (t1.getLastD []) st (ms.getD (i+2) 0)=Z;rw [iG,eY]
     rfl
    rw [this];exact ⟨T2.nd,λ x hx=>rj (T2.sub x hx)⟩
  ·rw [e1] at hT
   rcases bz.mp hT with m | m
   ·exact i2 T m
   ·rw [cy.mp m]
    refine ⟨?_,λ x hx=>rj ((mem x).mp hx).1⟩;have:=TT.nd;rw [et] at this;rw [s1];exact (be.mp (be.mp this).1).2.1
theorem mQ {a b c:Nat} {ms:List Nat} {Fs Ts:List (List Nat)} (l3:3<=ms.length) (h:xW W a b c ms=some (Fs,Ts)):∃ r,ms=a::b::r/\r.getLast?=some c/\goF W ms r.length=some (Fs,Ts):=by
 unfold xW at h
 split at h
 ·rename_i q
  obtain ⟨q0,q1,q2⟩:=q
  match ms,l3,q0,q1,q2,h with
  | x::y::z::r,_,q0,q1,q2,h =>
   have e0:x=a:=bj q0;have e1:y=b:=bj q1;subst e0;subst e1;refine ⟨z::r,rfl,?_,h⟩;rw [yd,yd] at q2;exact q2
 ·cases h
theorem kJN {a b c:Nat} {ms:List Nat} {Fs Ts:List (List Nat)} (S:Nb W) (e:E W a b) (msn:ms.Nodup) (l3:3<=ms.length) (h:xW W a b c ms=some (Fs,Ts)):(∀ T∈Ts,T.Nodup/\∀ x∈T,x∈ms)/\∀ T∈Fs,T.Nodup/\∀ x∈T,x∈ms:=by
 obtain ⟨r,rfl,hc,h⟩:=mQ l3 h;exact kML S.sym msn (tF S e) (by simp) h
end
end Tri
namespace Fc
open Tri Cyc Rnd
section
variable {W:Rows}
theorem tR (S:Nb W):∃ R:List (Nat×Nat),facesU W=R.map (λ r=>(rnd W r).map (·.1))/\(∀ r∈R,r∈kP W/\∀ u∈rnd W r,leP r u=true)/\∀ t∈kP W,∃ r∈R,t∈rnd W r:=by
 have hT:∀ t∈stepsS W,t∈kP W:=λ t h=>(sortP_perm _).mem_iff.mp h;have srt:(stepsS W).Pairwise (λ a b=>leP a b=true):=nZ (kP W)
 have key:∀ n,n<=(stepsS W).length->∃ R:List (Nat×Nat),(fgo W ((stepsS W).take n)).1=R.map (λ r=>(rnd W r).map (·.1))/\(fgo W ((stepsS W).take n)).2=R.flatMap (rnd W)/\∀ r∈R,r∈kP W/\∀ u∈rnd W r,leP r u=true:=λ n=>by
  induction n with
  | zero=>intro _;exact ⟨[],rfl,rfl,by simp⟩
  | succ n ih =>
   intro hn;obtain ⟨R,h1,h2,h3⟩:=ih (by omega);have fi:=fgo_ok S ((stepsS W).take n) λ t h=>hT t (rj h);have hn':n<(stepsS W).length:=by omega
   have e:(stepsS W).take (n+1)=(stepsS W).take n++[(stepsS W)[n]]:=by rw [ig,aa hn'];rfl
   have tm:=hT _ (gk hn');rw [e,fgo_snoc];unfold fstep
   split
   ·exact ⟨R,h1,h2,h3⟩
   ·rename_i c
    refine ⟨R++[(stepsS W)[n]],by rw [eI,h1];rfl,by rw [wx,h2,va],λ r hr=>?_⟩;rcases bz.mp hr with z | z
    ·exact h3 r z
    ·rw [cy.mp z]
     refine ⟨tm,λ u hu=>?_⟩;have us:=rnd_sub S tm hu;have um:u∈stepsS W:=(sortP_perm _).mem_iff.mpr us;obtain ⟨m,hm,rfl⟩:=eU.mp um;rcases fe m n with l | l
     ·exfalso
      have hu2:=fi.cov _ (eU.mpr ⟨m,by rw [eK];omega,by rw [yn]⟩ : (stepsS W)[m]∈(stepsS W).take n);obtain ⟨j,ej⟩:=(uN S tm).mp hu;obtain ⟨p0,_,back,_⟩:=gK S tm;rw [<-ej] at hu2;generalize (stepsS W)[n]=t at *
      have:Rnd.it (nxt W) (per W t*(j+1)-j) (Rnd.it (nxt W) j t)=t:=by
       have le:j<=per W t*(j+1):=iA (zh j) (BU _ p0);rw [<-uC,CT le,kAN _ _ back,Cu]
       rfl
      rw [<-this] at c;exact c (fi.it hu2 _)
     ·rcases Nat.eq_or_lt_of_le l with e | l
      ·subst e
       rw [leP_iff];omega
      ·exact (jc.mp srt) n m hn' hm l
 obtain ⟨R,h1,h2,h3⟩:=key _ (bq _);rw [ji] at h1 h2;refine ⟨R,h1,h3,λ t ht=>?_⟩;have:=(lU S).mem_iff.mpr ht;rw [h2] at this;exact yw.mp this
def lst3 (x y v:Nat):Nat:=if y<x then (if v<y then v else y) else if v<x then v else x
def nf (x y v:Nat):List Nat:=if lst3 x y v=x then [x,y,v] else if lst3 x y v=y then [y,v,x] else [v,x,y]
theorem nf_rot (x y v:Nat):nf x y v=[x,y,v]\/nf x y v=[y,v,x]\/nf x y v=[v,x,y]:=by
 unfold nf
 split
 ·exact .inl rfl
 ·split
  ·exact .inr (.inl rfl)
  ·exact .inr (.inr rfl)
theorem nf_mem {x y v z:Nat}:z∈nf x y v↔z=x\/z=y\/z=v:=by
 rcases nf_rot x y v with e | e | e<;>rw [e]<;>simp<;>omega
theorem kGM {p q s:Nat} (h:p<q) (h':p<s):nf p q s=[p,q,s]/\nf q s p=[p,q,s]/\nf s p q=[p,q,s]:=by
 have e1:lst3 p q s=p:=by unfold lst3;rw [if_neg (by omega),if_neg (by omega)]
 have e2:lst3 q s p=p:=by
  unfold lst3;by_cases c:s<q
  ·rw [if_pos c,if_pos h']
  ·rw [if_neg c,if_pos h]
 have e3:lst3 s p q=p:=by unfold lst3;rw [if_pos h',if_neg (by omega)]
 refine ⟨?_,?_,?_⟩
 ·unfold nf;rw [e1,if_pos rfl]
 ·unfold nf;rw [e2,if_neg (by omega),if_neg (by omega)]
 ·unfold nf;rw [e3,if_neg (by omega),if_pos rfl]
theorem kMB {x y x' y' v:Nat} (h1:x≠v) (h2:y≠v) (h3:x'≠v) (h4:y'≠v) (e:nf x y v=nf x' y' v):x=x'/\y=y':=by
 rcases nf_rot x y v with a | a | a<;>rcases nf_rot x' y' v with b | b | b<;>rw [a,b] at e<;>simp at e<;>omega
theorem kOX (S:Nb W) (three:∀ t∈kP W,(nxt W (nxt W t)).2=t.1) {p q:Nat} (h:E W p q):rnd W (p,q)=[(p,q),(q,(nxt W (p,q)).2),((nxt W (p,q)).2,p)]:=by
 have hs:(p,q)∈kP W:=mem_steps.mpr h;have ne:p≠q:=λ z=>(S.e h).2.2 z.symm;obtain ⟨s,r1,n1,e1⟩:=yJ S h;have t1:=three _ hs;have t2:=three (q,s) (mem_steps.mpr e1);rw [n1] at t1;have n2:nxt W (q,s)=(s,p):=qk rfl t1;rw [n2] at t2;have n3:nxt W (s,p)=(p,q):=qk rfl t2
 have pk:per W (p,q)=3:=by
  refine per_is (by omega) ?_ λ j j0 j3=>?_
  ·show nxt W (nxt W (nxt W (p,q)))=_
   rw [n1,n2,n3]
  ·rcases (by omega:j=1\/j=2) with rfl | rfl
   ·show nxt W (p,q)≠_
    rw [n1];exact λ z=>ne (congrArg Ab z).symm
   ·show nxt W (nxt W (p,q))≠_
    rw [n1,n2];exact λ z=>ne (congrArg BH z)
 unfold rnd;rw [pk,n1];show [(p,q),nxt W (p,q),nxt W (nxt W (p,q))]=_;rw [n1,n2]
theorem mO (S:Nb W) (three:∀ t∈kP W,(nxt W (nxt W t)).2=t.1) {x y:Nat} (h:E W x y):nf x y (nxt W (x,y)).2∈facesU W:=by
 obtain ⟨R,e,h1,h2⟩:=tR S;obtain ⟨⟨p,q⟩,hr,hm⟩:=h2 (x,y) (mem_steps.mpr h);obtain ⟨ht,hl⟩:=h1 _ hr;have hE:=mem_steps.mp ht;have r3:=kOX S three hE;obtain ⟨s,r1,n1,e1⟩:=yJ S hE;have t1:=three _ ht;have t2:=three (q,s) (mem_steps.mpr e1);rw [n1] at t1;have n2:nxt W (q,s)=(s,p):=qk rfl t1;rw [n2] at t2;have n3:nxt W (s,p)=(p,q):=qk rfl t2;rw [n1] at r3
 have eps:E W s p:=by
  obtain ⟨s',_,n',e'⟩:=yJ S e1;rw [n2] at n';have:=congrArg BH n';simp only at this;rw [this];exact e'
 rw [r3] at hl hm;have l1:=leP_iff.mp (hl (q,s) (by simp));have l2:=leP_iff.mp (hl (s,p) (by simp));have ne1:p≠q:=λ z=>(S.e hE).2.2 z.symm;have ne2:s≠p:=λ z=>(S.e eps).2.2 z.symm;simp only at l1 l2;obtain ⟨m1,m2,m3⟩:=kGM (p:=p) (q:=q) (s:=s) (by omega) (by omega)
 have mem:[p,q,s]∈facesU W:=by
  rw [e];exact iO.mpr ⟨(p,q),hr,by rw [r3];rfl⟩
 simp only [du,kh,or_false,Prod.mk.injEq] at hm;rcases hm with ⟨rfl,rfl⟩ | ⟨rfl,rfl⟩ | ⟨rfl,rfl⟩
 ·rw [n1]
  exact m1 ▸ mem
 ·rw [n2]
  exact m2 ▸ mem
 ·rw [n3]
  exact m3 ▸ mem
theorem dR {α:Type} [DecidableEq α]:∀ {L M:List α},L.Nodup->(∀ x∈L,x∈M)->M.length<=L.length->L.Perm M
 | [],M,_,_,h=>by
  rw [ir,Nat.le_zero] at h;rw [iY.mp h]
 | x::L,M,nd,sub,h=>by
  have hx:=sub x (eQ ..);have nd':=fc.mp nd;refine .trans ?_ (List.perm_cons_erase hx).symm;refine .cons x (dR nd'.2 (λ y hy=>?_) ?_)
  ·exact (List.mem_erase_of_ne λ z:y=x=>nd'.1 (z ▸ hy)).mpr (sub y (dj _ hy))
  ·rw [List.length_erase_of_mem hx]
   rw [eX] at h;omega
def pf (F:List Nat) (v:Nat):List (List Nat):=(F.zip F.tail).map λ t=>nf t.1 t.2 v
def mkF (ms:List Nat) (Fs:List (List Nat)):List (List Nat):=(cu Fs.length).flatMap λ k=>pf (Fs.getD k []) (ms.getD (k+2) 0)
theorem mkF_snoc (ms:List Nat) (fs:List (List Nat)) (st:List Nat):mkF ms (fs++[st])=mkF ms fs++pf st (ms.getD (fs.length+2) 0):=by
 unfold mkF;rw [cg,gi,yv,wx,va]
 congr 1
 ·show ((cu fs.length).map _).flatten=((cu fs.length).map _).flatten
  congr 1
  refine AE λ k hk=>?_;have:=gw.mp hk;have q:(fs++[st]).getD k []=fs.getD k []:=by rw [ai,ai,bg this]
  rw [q]
 ·have q:(fs++[st]).getD fs.length []=st:=by rw [ai,iE];rfl
  rw [q]
end
section
variable {W:Rows}
structure LF (W:Rows) (ms:List Nat) (a b i:Nat) (fs ts:List (List Nat)):Prop where
 lf:fs.length=i
 lt:ts.length=i+1
 inF:∀ f∈mkF ms fs,f∈facesU W/\∀ x∈f,x∈ms.take (i+2)
 nd:(mkF ms fs).Nodup
 cnt:(mkF ms fs).length+(ts.getLastD []).length=2+2*i
 top:∀ (k:Nat) (T:List Nat),ts[k]?=some T->Top W (ms.take (k+2)) T/\T.head?=some a/\T.getLast?=some b/\ms.getD (k+1) 0∈T
 st:∀ (k:Nat) (F T T':List Nat),fs[k]?=some F->ts[k]?=some T->ts[k+1]?=some T'->T'.length+F.length=T.length+3/\2<=F.length/\∀ x∈T',x∈T\/x=ms.getD (k+2) 0
theorem fP {F:List Nat} (h:F.Nodup):(F.zip F.tail).Nodup:=by
 refine jc.mpr λ i j hi hj ij e=>?_;rw [xr] at hi hj;rw [DQ,DQ] at e;have:=(sd h).mp (congrArg Ab e);omega
theorem aV {F:List Nat} {x y:Nat} (h:(x,y)∈F.zip F.tail):x∈F/\y∈F:=⟨(AW h).1,wc (AW h).2⟩
theorem kFZ {F:List Nat} {v:Nat} (h:F.Nodup) (hv:v∉F):(pf F v).Nodup:=by
 unfold pf;refine ke.mpr ((fP h).imp_of_mem λ {s t} hs ht ne e=>ne ?_);have ne':∀ {z},z∈F->z≠v:=λ hz q=>hv (q ▸ hz);obtain ⟨s1,s2⟩:=aV (show (s.1,s.2)∈_ from hs);obtain ⟨t1,t2⟩:=aV (show (t.1,t.2)∈_ from ht);obtain ⟨e1,e2⟩:=kMB (ne' s1) (ne' s2) (ne' t1) (ne' t2) e;exact qk e1 e2
theorem pf_len (F:List Nat) (v:Nat):(pf F v).length=F.length-1:=by
 unfold pf;rw [ao,xr,DR];omega
theorem LF.of (S:Nb W) (three:∀ t∈kP W,(nxt W (nxt W t)).2=t.1) {ms:List Nat} {a b:Nat} (msn:ms.Nodup) (e2:ms.take 2=[a,b]) (eab:E W a b) :
  ∀ {i:Nat} {fs ts:List (List Nat)},i+2<=ms.length->goF W ms i=some (fs,ts)->LF W ms a b i fs ts:=by
 have h0:Top W (ms.take 2) (ms.take 2):=by rw [e2];exact tF S eab
 intro i
 induction i with
 | zero =>
  intro fs ts hl h;unfold goF at h;have h:=bj h;injection h with h1 h2
  rw [<-h1,<-h2,e2]
  have e1:ms.getD 1 0=b:=by
   match ms,e2 with
   | x::y::r,e=>simp at e;exact e.2
  refine ⟨rfl,rfl,(by intro f hf;simp [mkF] at hf),(by simp [mkF]),(by simp [mkF]),λ k T e=>?_,λ k F T T' e=>by simp at e⟩
  match k,e with
  | 0,e =>
   cases e
   refine ⟨by rw [<-e2];exact h0,rfl,rfl,by rw [e1];simp⟩
  | k+1,e=>simp at e
 | succ i ih =>
  intro fs ts hl h;obtain ⟨f1,t1,e⟩:=bU (i:=i) (j:=1) h;obtain ⟨st,z,e1,e3⟩:=uF e h;have L:=ih (by omega) e;have TT:=uP msn S.sym h0 (by omega) e;have T2:=uP msn S.sym h0 (by omega) h;have np:ms.getD (i+2) 0∉ms.take (i+2):=cY msn (by omega) (by omega);obtain ⟨_,_,_,ez⟩:=TT.step S.sym np z;obtain ⟨B,f,M,l,C,s1,et,mem,nz⟩:=cJ TT.nd z;have lf:=L.lf;have lt:=L.lt
  have tl:t1[i]?=some (t1.getLastD []):=by
   rw [iG,eh,show t1.length-1=i by omega,aa (by omega)]
   rfl
  obtain ⟨_,hd,hla,_⟩:=L.top i _ tl
  have pe:poF (t1.getLastD []) st (ms.getD (i+2) 0)=B++[f,ms.getD (i+2) 0,l]++C:=by
   rw [s1];exact fK et TT.nd
  have lastT:ts.getLastD []=poF (t1.getLastD []) st (ms.getD (i+2) 0):=by
   rw [e3];generalize poF (t1.getLastD []) st (ms.getD (i+2) 0)=Z;rw [iG,eY]
   rfl
  have snd:st.Nodup:=by
   have:=TT.nd;rw [et] at this;rw [s1];exact (be.mp (be.mp this).1).2.1
  have vst:ms.getD (i+2) 0∉st:=λ q=>np ((mem _).mp q).1;have ga:ms[i+2]?=some (ms.getD (i+2) 0):=by rw [ai,aa (by omega)];rfl
  have tk:ms.take (i+1+2)=ms.take (i+2)++[ms.getD (i+2) 0]:=by rw [ig,ga];rfl
  have lst:st.length=M.length+2:=by rw [s1];simp
  have lT:(t1.getLastD []).length=B.length+(M.length+2)+C.length:=by rw [et];simp only [cg,eX,ir]
  have lP:(B++[f,ms.getD (i+2) 0,l]++C).length=B.length+3+C.length:=by simp only [cg,eX,ir]
  have news:∀ F∈pf st (ms.getD (i+2) 0),∃ x y,(x,y)∈st.zip st.tail/\F=nf x y (ms.getD (i+2) 0):=λ F hF=>by
   obtain ⟨⟨x,y⟩,hxy,rfl⟩:=iO.mp hF;exact ⟨x,y,hxy,rfl⟩
  have mk:mkF ms fs=mkF ms f1++pf st (ms.getD (i+2) 0):=by rw [e1,mkF_snoc,lf]
  refine ⟨by rw [e1,cg,lf];rfl,by rw [e3,cg,lt];rfl,?_,?_,?_,?_,?_⟩
  ·intro F hF
   rw [mk] at hF;rcases bz.mp hF with m | m
   ·obtain ⟨q1,q2⟩:=L.inF F m
    exact ⟨q1,λ x hx=>by rw [tk];exact az _ (q2 x hx)⟩
   ·obtain ⟨x,y,hxy,rfl⟩:=news F m
    have nv:(nxt W (x,y)).2=ms.getD (i+2) 0:=nz _ hxy;refine ⟨by rw [<-nv];exact mO S three (ez _ hxy),λ u hu=>?_⟩;rw [tk];rcases nf_mem.mp hu with rfl | rfl | rfl
    ·exact az _ ((mem _).mp (aV hxy).1).1
    ·exact az _ ((mem _).mp (aV hxy).2).1
    ·exact bu _ (cy.mpr rfl)
  ·rw [mk]
   refine be.mpr ⟨L.nd,kFZ snd vst,λ F hF G hG q=>?_⟩;subst q;obtain ⟨x,y,hxy,rfl⟩:=news F hG;exact np ((L.inF _ hF).2 _ (nf_mem.mpr (.inr (.inr rfl))))
  ·have:=L.cnt
   rw [mk,lastT,pe,cg,pf_len,lP];omega
  ·intro k T hk
   rw [e3] at hk;rcases fe k t1.length with c | c
   ·rw [bg c] at hk
    exact L.top k T hk
   ·have kk:k=i+1:=by
     have:=(aq.mp hk).1;rw [cg,gi] at this;omega
    subst kk
    have:T=ts.getLastD []:=by
     rw [lastT];rw [bb c,show i+1-t1.length=0 by omega] at hk;exact (bj hk).symm
    rw [this];refine ⟨T2,?_,?_,?_⟩
    ·rw [lastT,pe]
     rw [et] at hd
     cases B with
     | nil=>simpa using hd
     | cons x B=>simpa using hd
    ·rw [lastT,pe]
     rw [et] at hla;rw [eY] at hla ⊢
     cases hC:C.getLast? with
     | none =>
      rw [hC,eY,eY] at hla;rw [eY];simpa using hla
     | some x =>
      rw [hC] at hla;simpa using hla
    ·rw [lastT,pe]
     simp
  ·intro k F T T' q1 q2 q3
   rw [e1] at q1;rw [e3] at q2 q3;rcases fe k i with c | c
   ·rw [bg (by omega)] at q1 q2 q3
    exact L.st k F T T' q1 q2 q3
   ·have kk:k=i:=by
     have:=(aq.mp q1).1;rw [cg,gi] at this;omega
    subst kk;rw [bb (by omega),show k-f1.length=0 by omega] at q1;rw [bg (by omega),tl] at q2;rw [bb (by omega),show k+1-t1.length=0 by omega] at q3;have q1:=bj q1;have q2:=bj q2;have q3:=bj q3;rw [<-q1,<-q2,<-q3];refine ⟨by rw [pe,lP,lst,lT];omega,by omega,λ x hx=>?_⟩;rw [pe] at hx;rw [et];simp only [bz,du,kh,or_false] at hx ⊢
    grind
end
section
variable {W:Rows}
theorem kBL {x y:Nat} (h:E W x y):y∈W.getD x []:=by
 obtain ⟨row,e,m⟩:=h;rw [ai,e];exact m
theorem mkF_mono (ms:List Nat) (l r:List (List Nat)):(mkF ms l).length<=(mkF ms (l++r)).length:=by
 induction r generalizing l with
 | nil=>rw [iN];exact bq _
 | cons x r ih =>
  have:=ih (l++[x]);rw [cv,mkF_snoc,cg] at this;exact iA (Nat.le_add_right _ _) this
theorem pf_at {G:List Nat} {v j:Nat} (h:j+1<G.length):(pf G v)[j]?=some (nf (G.getD j 0) (G.getD (j+1) 0) v):=by
 unfold pf;have h1:G[j]?=some (G.getD j 0):=by rw [ai,aa (by omega)];rfl
 have h2:G.tail[j]?=some (G.getD (j+1) 0):=by rw [Ca,ai,aa h];rfl
 rw [bh,mq (z:=(G.getD j 0,G.getD (j+1) 0)) |>.mpr ⟨h1,h2⟩]
 rfl
theorem laid_made (S:Nb W) (three:∀ t∈kP W,(nxt W (nxt W t)).2=t.1) (cnt:(kP W).length+12=6*W.length) {ms:List Nat} {a b c:Nat} {Fs Ts:List (List Nat)} (pm:ms.Perm (cu W.length)) (l3:3<=W.length) (hE:E W a c) (hb:(nxt W (a,c)).2=b) (eab:E W a b) (lf:xW W a b c ms=some (Fs,Ts)) :
  LF W ms a b (W.length-2) Fs Ts/\Ts.getLast?=some [a,c,b]/\Ts[0]?=some [a,b]/\(nf a c b::mkF ms Fs).Perm (facesU W):=by
 have msn:ms.Nodup:=pm.nodup_iff.mpr si;have lm:ms.length=W.length:=by rw [pm.length_eq,fv]
 obtain ⟨r,rfl,hc,h⟩:=mQ (by omega) lf
 obtain ⟨m,hm⟩ : ∃ m,r.length=m+1:=by
  cases r with
  | nil=>cases hc
  | cons x r=>exact ⟨r.length,rfl⟩
 have lW:W.length=m+3:=by rw [<-lm,eX,eX,hm]
 rw [hm] at h;have LL:=LF.of S three msn rfl eab (by rw [lm];omega) h;obtain ⟨f1,t1,e⟩:=bU (i:=m) (j:=1) h;obtain ⟨st,z,e1,e3⟩:=uF e h;have L:=LF.of S three msn rfl eab (by rw [lm];omega) e;have TT:=uP msn S.sym (tF S eab) (by rw [lm];omega) e
 have ec:(a::b::r).getD (m+2) 0=c:=by
  rw [eh,hm] at hc;show r.getD m 0=c;rw [ai];rw [show m+1-1=m from rfl] at hc;rw [hc]
  rfl
 have np:(a::b::r).getD (m+2) 0∉(a::b::r).take (m+2):=cY msn (by omega) (by rw [lm];omega);rw [ec] at np z e3;obtain ⟨B,f,M,l,C,s1,et,mem,nz⟩:=cJ TT.nd z;obtain ⟨zz,r1,n1,ecz⟩:=yJ S hE;rw [n1] at hb;have hb':zz=b:=hb;subst hb';have ma:a∈st:=(mem a).mpr ⟨by simp,kBL (S.sym _ _ hE)⟩;have mb:zz∈st:=(mem zz).mpr ⟨by simp,kBL ecz⟩
 have tl:t1[m]?=some (t1.getLastD []):=by
  have:=L.lt;rw [iG,eh,show t1.length-1=m by omega,aa (by omega)]
  rfl
 obtain ⟨_,hd,hla,_⟩:=L.top m _ tl;have tnd:=TT.nd;rw [et] at hd hla tnd;rw [s1] at ma mb;have d1:=be.mp tnd;have d2:=be.mp d1.1
 have hB:B=[]:=by
  cases B with
  | nil=>rfl
  | cons x B =>
   have:x=a:=by simpa using hd
   exact absurd rfl (d2.2.2 x (eQ ..) a ma |> λ q=>λ _=>q this)
 have hC:C=[]:=by
  cases hC:C.getLast? with
  | none=>exact List.getLast?_eq_none_iff.mp hC
  | some x =>
   rw [eY,hC] at hla;have:x=zz:=by simpa using hla
   have hx:x∈C:=zi hC;exact absurd this.symm (d1.2.2 zz (bu _ mb) x hx)
 subst hB;subst hC;have hf:f=a:=by simpa using hd
 have hl:l=zz:=by
  rw [iN,jr,eY] at hla;simpa using hla
 subst hf;subst hl
 have lastT:Ts.getLast?=some [f,c,l]:=by
  rw [e3,eY,s1,fK et TT.nd]
  rfl
 have lastD:Ts.getLastD []=[f,c,l]:=by rw [iG,lastT];rfl
 have t0:Ts[0]?=some [f,l]:=by
  have:∀ {i:Nat} {fs ts:List (List Nat)},goF W (f::l::r) i=some (fs,ts)->ts[0]?=some [f,l]:=by
   intro i
   induction i with
   | zero =>
    intro fs ts q;unfold goF at q;have q:=bj q;injection q with q1 q2
    rw [<-q2]
    rfl
   | succ i ih =>
    intro fs ts q;obtain ⟨f2,t2,q2⟩:=bU (i:=i) (j:=1) q;obtain ⟨st2,z2,q3,q4⟩:=uF q2 q;have:=(kHF q2).2;rw [q4,bg (by omega)];exact ih q2
  exact this h
 refine ⟨by rw [show W.length-2=m+1 by omega];exact LL,lastT,t0,?_⟩;have fac:f≠c:=λ q=>(S.e hE).2.2 q.symm;have flc:l≠c:=(S.e ecz).2.2;have mk:mkF (f::l::r) Fs=mkF (f::l::r) f1++pf st c:=by rw [e1,mkF_snoc,L.lf,ec]
 have snd:st.Nodup:=by rw [s1];exact d2.2.1
 have faces:W.length+(facesU W).length=(tiesS W).length+2:=by
  have:=((three_cornered S).mpr ⟨three,cnt⟩).1;unfold facesS at this;rw [(sortL_perm _).length_eq] at this;exact this
 have tl2:=ties_len S;refine dR (fc.mpr ⟨λ q=>?_,LL.nd⟩) (λ F hF=>?_) ?_
 ·rw [mk] at q
  rcases bz.mp q with q | q
  ·exact np ((L.inF _ q).2 c (nf_mem.mpr (.inr (.inl rfl))))
  ·obtain ⟨⟨x,y⟩,hxy,q⟩:=iO.mp q
   have q:nf x y c=nf f c l:=q;obtain ⟨hx,hy⟩:=aV hxy;have nx:x≠c:=λ w=>np (w ▸ ((mem x).mp hx).1);have ny:y≠c:=λ w=>np (w ▸ ((mem y).mp hy).1)
   have:y=f:=by
    rcases nf_rot x y c with u | u | u<;>rcases nf_rot f c l with v | v | v<;>rw [u,v] at q<;>simp at q<;>omega
   have ht:=(AW hxy).2;rw [s1,this] at ht;rw [s1] at snd;exact (fc.mp snd).1 ht
 ·rcases du.mp hF with rfl | hF
  ·have:=mO S three hE
   rw [n1] at this;exact this
  ·exact (LL.inF F hF).1
 ·have:=LL.cnt
  rw [lastD] at this;simp only [eX,ir] at this ⊢;omega
theorem LF.leaves {ms:List Nat} {a b c i:Nat} {Fs Ts:List (List Nat)} (L:LF W ms a b i Fs Ts) (msn:ms.Nodup) (li:ms.length=i+2) (last:Ts.getLast?=some [a,c,b]) (ea:ms.getD 0 0=a) (eb:ms.getD 1 0=b) (ec:ms.getD (ms.length-1) 0=c) {k:Nat} (k2:2<=k) (kn:k+1<ms.length) :
  ∃ e,k-1<=e/\e+1<Ts.length/\∀ j,j<Ts.length->(ms.getD k 0∈Ts.getD j []↔k-1<=j/\j<=e):=by
 have lT:=L.lt;have lF:=L.lf;have get:∀ j,j<Ts.length->Ts[j]?=some (Ts.getD j []):=λ j h=>by rw [ai,aa h];rfl
 have gms:∀ j,j<ms.length->ms[j]?=some (ms.getD j 0):=λ j h=>by rw [ai,aa h];rfl
 have inj:∀ x y,x<ms.length->y<ms.length->ms.getD x 0=ms.getD y 0->x=y:=λ x y hx hy e=>by
  rw [ai,ai,aa hx,aa hy] at e;exact (sd msn).mp e
 have early:∀ j,j<Ts.length->j+2<=k->ms.getD k 0∉Ts.getD j []:=λ j hj h m=>cY msn h (by omega) ((L.top j _ (get j hj)).1.sub _ m)
 have here:ms.getD k 0∈Ts.getD (k-1) []:=by
  have:=(L.top (k-1) _ (get _ (by omega))).2.2.2;rwa [show k-1+1=k by omega] at this
 have stay:∀ j,k-1<=j->j+1<Ts.length->ms.getD k 0∈Ts.getD (j+1) []->ms.getD k 0∈Ts.getD j []:=λ j h1 h2 m=>by
  have hF:Fs[j]?=some (Fs.getD j []):=by rw [ai,aa (show j<Fs.length by omega)];rfl
  rcases (L.st j _ _ _ hF (get j (by omega)) (get (j+1) h2)).2.2 _ m with q | q
  ·exact q
  ·have:=inj _ _ (by omega) (by omega) q
   omega
 have gone:ms.getD k 0∉Ts.getD (Ts.length-1) []:=λ m=>by
  rw [eh] at last;rw [ai (l:=Ts),last] at m;simp only [Option.getD_some,du,kh,or_false] at m;rcases m with m | m | m
  ·rw [<-ea] at m
   have:=inj _ _ (by omega) (by omega) m;omega
  ·rw [<-ec] at m
   have:=inj _ _ (by omega) (by omega) m;omega
  ·rw [<-eb] at m
   have:=inj _ _ (by omega) (by omega) m;omega
 have srch:∀ m,k-1+m<Ts.length->(∀ j,k-1<=j->j<=k-1+m->ms.getD k 0∈Ts.getD j [])\/∃ e,k-1<=e/\e+1<=k-1+m/\(∀ j,k-1<=j->j<=e->ms.getD k 0∈Ts.getD j [])/\ms.getD k 0∉Ts.getD (e+1) []:=λ m=>by
  induction m with
  | zero =>
   intro _;refine .inl λ j h1 h2=>?_;rw [show j=k-1 by omega];exact here
  | succ m ih =>
   intro hm;rcases ih (by omega) with h | ⟨e,h1,h2,h3,h4⟩
   ·by_cases q:ms.getD k 0∈Ts.getD (k-1+m+1) []
    ·refine .inl λ j h1 h2=>?_
     rcases fe (k-1+m) j with z | z
     ·rw [show j=k-1+m+1 by omega]
      exact q
     ·exact h j h1 z
    ·exact .inr ⟨k-1+m,by omega,by omega,h,q⟩
   ·exact .inr ⟨e,h1,by omega,h3,h4⟩
 rcases srch (Ts.length-1-(k-1)) (by omega) with h | ⟨e,h1,h2,h3,h4⟩
 ·exact absurd (h (Ts.length-1) (by omega) (by omega)) gone
 ·refine ⟨e,h1,by omega,λ j hj=>⟨λ m=>?_,λ ⟨q1,q2⟩=>h3 j q1 q2⟩⟩
  have a1:k-1<=j:=by
   rcases fe j (k-1) with z | z
   ·exact absurd m (early j hj (by omega))
   ·exact z
  refine ⟨a1,?_⟩;rcases fe e j with z | z
  ·exfalso
   have back:∀ d,e+1+d<Ts.length->ms.getD k 0∈Ts.getD (e+1+d) []->ms.getD k 0∈Ts.getD (e+1) []:=λ d=>by
    induction d with
    | zero=>exact λ _ q=>q
    | succ d ih=>exact λ l q=>ih (by omega) (stay _ (by omega) (by omega) q)
   exact h4 (back (j-(e+1)) (by omega) (by rw [show e+1+(j-(e+1))=j by omega];exact m))
  ·exact z
theorem filter_iv {n lo hi:Nat} {p:Nat->Bool} (h1:lo<=hi) (h2:hi<n) (h:∀ j,j<n->(p j=true↔lo<=j/\j<=hi)):(cu n).filter p=jb lo (hi+1-lo):=by
 have e:cu n=jb 0 lo++(jb lo (hi+1-lo)++jb (hi+1) (n-(hi+1))):=by
  have q1:=Bs (s:=lo) (m:=hi+1-lo) (n:=n-(hi+1));rw [show lo+(hi+1-lo)=hi+1 by omega] at q1;have q2:=Bs (s:=0) (m:=lo) (n:=hi+1-lo+(n-(hi+1)));rw [BR] at q2;rw [q1,q2,Br]
  congr 1
  omega
 rw [e,jz,jz]
 have f1:(jb 0 lo).filter p=[]:=qb.mpr λ j hj q=>by
  have:=Au.mp hj;have:=(h j (by omega)).mp q;omega
 have f3:(jb (hi+1) (n-(hi+1))).filter p=[]:=qb.mpr λ j hj q=>by
  have:=Au.mp hj;have:=(h j (by omega)).mp q;omega
 have f2:(jb lo (hi+1-lo)).filter p=jb lo (hi+1-lo):=AF.mpr λ j hj=>by
  have:=Au.mp hj;exact (h j (by omega)).mpr (by omega)
 rw [f1,f2,f3,jr,iN]
end
end Fc
namespace L2
open PySem PySem.Spec PyProof.Rows
section
variable {X:Cx}
theorem kEM (hc:X.calm=true):xH X (.builtin "min") (λ xs H Q=>∃ i j k,xs=[.int i,.int j,.int k]/\Q (.int (if j<i then (if k<j then k else j) else if k<i then k else i)) H):=by
 intro pins s σ H xs us Q I r h;obtain ⟨i,j,k',rfl,q⟩:=h
 cases r with
 | cons r1 r =>
 obtain ⟨t,rfl⟩:=r1;obtain ⟨w1,w',rfl,⟨t',rfl⟩,⟨t2,rfl⟩⟩:=mD r;refine min_three_ints (I.ok.hd hc) λ h' tk k=>⟨_,H,I.kept k,?_,q⟩
 split
 ·split
  ·exact ⟨_,rfl⟩
  ·exact ⟨_,rfl⟩
 ·split
  ·exact ⟨_,rfl⟩
  ·exact ⟨_,rfl⟩
end
end L2
namespace Prf
open PySem L2 Own Tri Cyc Rnd
def top (i:Nat):nj:=PySem.Challenge.pw_restdraw_k58_whole_each_face_made_once.main.body.getD i (.Pass ⟨0,0,0,0⟩)
abbrev yP:nj:=top 7
theorem rF:FnScope ["thing"] ["thing"] (kJ yP):=⟨rfl,rfl,rfl,by decide +kernel,rfl,by decide +kernel,by decide +kernel⟩
abbrev xS:nj:=top 8
theorem oD:FnScope ["thing","many"] ["thing","many"] (kJ xS):=⟨rfl,rfl,rfl,by decide +kernel,rfl,by decide +kernel,by decide +kernel⟩
abbrev zM:nj:=top 9
theorem sc_from_on:FnScope ["row","first","start"] ["row","first"] (kJ zM):=⟨rfl,rfl,rfl,by decide +kernel,rfl,by decide +kernel,by decide +kernel⟩
abbrev yK:nj:=top 10
theorem rE:FnScope ["web"] ["web"] (kJ yK):=⟨rfl,rfl,rfl,by decide +kernel,rfl,by decide +kernel,by decide +kernel⟩
abbrev cT:nj:=top 11
theorem kIK:FnScope ["web"] ["web"] (kJ cT):=⟨rfl,rfl,rfl,by decide +kernel,rfl,by decide +kernel,by decide +kernel⟩
abbrev wS:nj:=top 12
theorem sc_behind:FnScope ["web","step","p","q","row"] ["web","step"] (kJ wS):=⟨rfl,rfl,rfl,by decide +kernel,rfl,by decide +kernel,by decide +kernel⟩
abbrev jV:nj:=top 13
theorem sc_steps_round:FnScope ["web","step","steps","further"] ["web","step"] (kJ jV):=⟨rfl,rfl,rfl,by decide +kernel,rfl,by decide +kernel,by decide +kernel⟩
abbrev uK:nj:=top 14
theorem sc_faces:FnScope ["web","told","seen","step","steps"] ["web"] (kJ uK):=⟨rfl,rfl,rfl,by decide +kernel,rfl,by decide +kernel,by decide +kernel⟩
abbrev zJ:nj:=top 15
theorem tQ:FnScope ["web"] ["web"] (kJ zJ):=⟨rfl,rfl,rfl,by decide +kernel,rfl,by decide +kernel,by decide +kernel⟩
abbrev jL:nj:=top 16
theorem dZ:FnScope ["web"] ["web"] (kJ jL):=⟨rfl,rfl,rfl,by decide +kernel,rfl,by decide +kernel,by decide +kernel⟩
abbrev qS:nj:=top 18
theorem sc_uncornered_face:FnScope ["web","some"] ["web"] (kJ qS):=⟨rfl,rfl,rfl,by decide +kernel,rfl,by decide +kernel,by decide +kernel⟩
abbrev xU:nj:=top 19
theorem oE:FnScope ["web","p","q","r"] ["web","p","q","r"] (kJ xU):=⟨rfl,rfl,rfl,by decide +kernel,rfl,by decide +kernel,by decide +kernel⟩
abbrev zK:nj:=top 20
theorem sc_is_base:FnScope ["web","thing","a","b","c"] ["web","thing"] (kJ zK):=⟨rfl,rfl,rfl,by decide +kernel,rfl,by decide +kernel,by decide +kernel⟩
abbrev jA:nj:=top 21
theorem sc_must_have_base:FnScope ["web","base","face"] ["web","base"] (kJ jA):=⟨rfl,rfl,rfl,by decide +kernel,rfl,by decide +kernel,by decide +kernel⟩
abbrev yQ:nj:=top 23
theorem sc_has_ends:FnScope ["web","base","thing","a","b","c"] ["web","base","thing"] (kJ yQ):=⟨rfl,rfl,rfl,by decide +kernel,rfl,by decide +kernel,by decide +kernel⟩
abbrev jE:nj:=top 24
theorem sc_stretch_under:FnScope ["web","top","ahead","place","below","stretch","start"] ["web","top","ahead","place"] (kJ jE):=⟨rfl,rfl,rfl,by decide +kernel,rfl,by decide +kernel,by decide +kernel⟩
abbrev yL:nj:=top 25
theorem sc_put_over:FnScope ["top","stretch","place","start","end"] ["top","stretch","place"] (kJ yL):=⟨rfl,rfl,rfl,by decide +kernel,rfl,by decide +kernel,by decide +kernel⟩
abbrev cU:nj:=top 26
theorem sc_laid:FnScope ["web","base","thing","found","tops","at","stretch"] ["web","base","thing"] (kJ cU):=⟨rfl,rfl,rfl,by decide +kernel,rfl,by decide +kernel,by decide +kernel⟩
abbrev jK:nj:=top 27
theorem sc_must_be_laid:FnScope ["web","base","order","both"] ["web","base","order"] (kJ jK):=⟨rfl,rfl,rfl,by decide +kernel,rfl,by decide +kernel,by decide +kernel⟩
abbrev wR:nj:=top 28
theorem sc_rounds:FnScope ["web","base","order","found","tops"] ["web","base","order"] (kJ wR):=⟨rfl,rfl,rfl,by decide +kernel,rfl,by decide +kernel,by decide +kernel⟩
abbrev xN:nj:=top 29
theorem sc_stretches:FnScope ["web","base","order","found","tops"] ["web","base","order"] (kJ xN):=⟨rfl,rfl,rfl,by decide +kernel,rfl,by decide +kernel,by decide +kernel⟩
abbrev jW:nj:=top 30
theorem sc_first_loose:FnScope ["web","top","loose"] ["web","top"] (kJ jW):=⟨rfl,rfl,rfl,by decide +kernel,rfl,by decide +kernel,by decide +kernel⟩
abbrev zL:nj:=top 31
theorem sc_from_to:FnScope ["row","first","last","around"] ["row","first","last"] (kJ zL):=⟨rfl,rfl,rfl,by decide +kernel,rfl,by decide +kernel,by decide +kernel⟩
abbrev yM:nj:=top 32
theorem sc_order_of:FnScope ["web","base","a","b","c","top","off","at","place"] ["web","base"] (kJ yM):=⟨rfl,rfl,rfl,by decide +kernel,rfl,by decide +kernel,by decide +kernel⟩
abbrev zH:nj:=top 34
theorem sc_law_pot:FnScope ["_law_script","_law_k","_law_cell"] ["_law_script","_law_k"] (kJ zH):=⟨rfl,rfl,rfl,by decide +kernel,rfl,by decide +kernel,by decide +kernel⟩
abbrev xR:nj:=top 35
theorem sc_law_digit:FnScope ["_law_pot_here","_law_many","_law_digit_here"] ["_law_pot_here","_law_many"] (kJ xR):=⟨rfl,rfl,rfl,by decide +kernel,rfl,by decide +kernel,by decide +kernel⟩
abbrev jM:nj:=top 36
theorem sc_law_put_over:FnScope ["_law_rows_here","_law_row","_law_first","_law_last","_law_place","_law_part","_law_k"] ["_law_rows_here","_law_row","_law_first","_law_last"] (kJ jM):=⟨rfl,rfl,rfl,by decide +kernel,rfl,by decide +kernel,by decide +kernel⟩
abbrev yN:nj:=top 37
theorem sc_law_rows:FnScope ["_law_pot_here","_law_n","_law_rows_here","_law_told","_law_parts","_law_k","_law_row","_law_first","_law_last"] ["_law_pot_here","_law_n"] (kJ yN):=⟨rfl,rfl,rfl,by decide +kernel,rfl,by decide +kernel,by decide +kernel⟩
abbrev xQ:nj:=top 38
theorem sc_law_names:FnScope ["_law_pot_here","_law_n","_law_found","_law_k"] ["_law_pot_here","_law_n"] (kJ xQ):=⟨rfl,rfl,rfl,by decide +kernel,rfl,by decide +kernel,by decide +kernel⟩
abbrev zG:nj:=top 39
theorem sc_law_web:FnScope ["_law_rows_here","_law_names_here","_law_found","_law_p","_law_row","_law_renewed","_law_k"] ["_law_rows_here","_law_names_here"] (kJ zG):=⟨rfl,rfl,rfl,by decide +kernel,rfl,by decide +kernel,by decide +kernel⟩
abbrev yO:nj:=top 40
theorem sc_law_face:FnScope ["_law_x","_law_y","_law_z","_law_least"] ["_law_x","_law_y","_law_z"] (kJ yO):=⟨rfl,rfl,rfl,by decide +kernel,rfl,by decide +kernel,by decide +kernel⟩
abbrev qU:nj:=top 41
theorem sc_law_faces_right:FnScope ["_law_web_here","_law_base","_law_order","_law_parts","_law_made","_law_k","_law_part","_law_j"] ["_law_web_here","_law_base","_law_order","_law_parts"] (kJ qU):=⟨rfl,rfl,rfl,by decide +kernel,rfl,by decide +kernel,by decide +kernel⟩
abbrev qP:nj:=top 42
theorem sc_law_rounds_right:FnScope ["_law_web_here","_law_base","_law_order","_law_told","_law_k","_law_row","_law_j"] ["_law_web_here","_law_base","_law_order","_law_told"] (kJ qP):=⟨rfl,rfl,rfl,by decide +kernel,rfl,by decide +kernel,by decide +kernel⟩
abbrev qQ:nj:=top 43
theorem sc_law_leaves_right:FnScope ["_law_base","_law_order","_law_told","_law_k","_law_there"] ["_law_base","_law_order","_law_told"] (kJ qQ):=⟨rfl,rfl,rfl,by decide +kernel,rfl,by decide +kernel,by decide +kernel⟩
abbrev qT:nj:=top 44
theorem sc_law_sizes_right:FnScope ["_law_told","_law_parts","_law_k","_law_part"] ["_law_told","_law_parts"] (kJ qT):=⟨rfl,rfl,rfl,by decide +kernel,rfl,by decide +kernel,by decide +kernel⟩
abbrev xO:nj:=top 45
theorem sc_law_right:FnScope ["_law_web_here","_law_base","_law_order","_law_told","_law_parts"] ["_law_web_here","_law_base","_law_order"] (kJ xO):=⟨rfl,rfl,rfl,by decide +kernel,rfl,by decide +kernel,by decide +kernel⟩
abbrev bF:nj:=top 46
theorem sc_law:FnScope ["_law_script","_law_k","_law_pot_here","_law_n","_law_names_here","_law_web_here","_law_base"] ["_law_script"] (kJ bF):=⟨rfl,rfl,rfl,by decide +kernel,rfl,by decide +kernel,by decide +kernel⟩
theorem kE {H:Hp} {p:av} (h:H p=none) (o:HO):Same H (upd H p o):=λ b u q=>by rw [kO (kH q h)];exact q
def SameBut (a:av) (H H':Hp):Prop:=∀ b o,b≠a->H b=some o->H' b=some o
def kFK (K:cf):Sp:=λ vs H Q _=>∃ (a:av) (ns:List Int) (k:Int),vs=[.ref a,.int k]/\SqL K H a (ns.map V.int)/\ns.length<=63/\0<=k/\k<=63 /\
 ∀ (p:av) (x y:Int) (H':Hp),0<=x->Same H H'->H p=none->H' p=some (.lst [.int x,.int y])->Q (.ref p) H'
def PotAt (H:Hp) (a:av):Prop:=∃ x y:Int,H a=some (.lst [.int x,.int y])/\0<=x
def bE:Sp:=λ vs H Q _=>∃ (a:av) (m:Int),vs=[.ref a,.int m]/\PotAt H a/\0<m/\m.natAbs<2 ^ 9000 /\
 ∀ (d:Int) (H':Hp),0<=d->d<m->SameBut a H H'->PotAt H' a->Q (.int d) H'
def vn (n:Nat):V:=.int (n:Int)
def ci (n:Nat):Int:=n
structure RowsAt (H:Hp) (r:av) (A:List av) (L:Rows):Prop where
 top:H r=some (.lst (A.map V.ref))
 len:A.length=L.length
 nd:A.Nodup
 out:r∉A
 row:∀ (i:Nat) (a:av) (ns:List Nat),A[i]?=some a->L[i]?=some ns->H a=some (.lst (ns.map vn))
theorem yB (ns:List Nat):ns.map vn=(ns.map ci).map V.int:=by
 rw [As]
 rfl
theorem qZ {ns:List Nat} {n:Nat} (h:n∈ns):fO (ns.map ci) (n:Int) (ns.idxOf n):=by
 have hl:=gh h;refine ⟨?_,λ m hm e=>?_⟩
 ·rw [bh,aa hl,CY hl]
  rfl
 ·have hm':m<ns.length:=by omega
  rw [bh,aa hm'] at e
  have e2:ns[m]=n:=by
   have z:((ns[m]:Nat):Int)=(n:Int):=bj e;omega
  have q:=List.not_of_lt_findIdx (p:=(· == n)) (xs:=ns) hm;rw [e2] at q;simp at q
theorem RowsAt.at {H:Hp} {r:av} {A:List av} {L:Rows} (x:RowsAt H r A L) {i:Nat} {ns:List Nat} (h:L[i]?=some ns):∃ a,A[i]?=some a/\H a=some (.lst (ns.map vn))/\atI (A.map V.ref) (i:Int)=some (.ref a):=by
 have hi:i<A.length:=by rw [x.len];exact (aq.mp h).1
 refine ⟨A[i],aa hi,x.row i _ ns (aa hi) h,qE ?_⟩;rw [bh,aa hi]
 rfl
theorem kKF {row:List Nat} {p v:Nat} (hp:p∈row) (h:xV row p=some v):atI (row.map vn) ((row.idxOf p:Int)-1)=some (vn v):=by
 have hl:=gh hp;unfold xV at h;by_cases h0:row.idxOf p=0
 ·rw [if_pos h0] at h
  rw [h0]
  have e:row=row.dropLast++[v]:=by
   have ne:row≠[]:=λ z=>by rw [z] at hp;cases hp
   rw [eN ne] at h;rw [<-bj h];exact (eR ne).symm
  rw [e,eI];exact xG _ _
 ·rw [if_neg h0] at h
  have e:((row.idxOf p:Int)-1)=((row.idxOf p-1:Nat):Int):=by omega
  rw [e];exact qE (by rw [bh,h];rfl)
section
variable {P:eo} {w:iD} {K:cf} {mg:Str->Option ar} {base:gy}
theorem at0 {x y:V}:atI [x,y] 0=some x:=rfl
theorem at1 {x y:V}:atI [x,y] 1=some y:=rfl
theorem RowsAt.set {H:Hp} {r:av} {A:List av} {L:Rows} (x:RowsAt H r A L) {i:Nat} {a:av} (h:A[i]?=some a) (ns:List Nat):RowsAt (upd H a (.lst (ns.map vn))) r A (L.set i ns):=by
 have ra:r≠a:=λ z=>x.out (z ▸ eg h);have hi:i<L.length:=by rw [<-x.len];exact (aq.mp h).1
 refine ⟨by rw [kO ra];exact x.top,by rw [ya];exact x.len,x.nd,x.out,λ j b ms hb hj=>?_⟩;rcases kJI hi hj with ⟨rfl,rfl⟩ | ⟨ne,hj⟩
 ·rw [h] at hb
  cases hb
  exact kC
 ·have ba:b≠a:=λ z=>by
   subst z;have:=(yl (aq.mp hb).1 x.nd).mp (hb.trans h.symm);exact ne this
  rw [kO ba];exact x.row j b ms hb hj
def uR (r:av) (A:List av) (H H':Hp):Prop:=∀ b o,b≠r->b∉A->H b=some o->H' b=some o
theorem kLG {L:Rows} (G:Good L) {p:Nat} {row:List Nat} (h:L[p]?=some row):row.length<=6*L.length:=by
 have q:=aZ L p row [] h;have t:=G.tot;simp only [ir] at q;omega
theorem kHR (ns:List Int) (lo hi:Option Int):∃ ms:List Int,jO (ns.map V.int) lo hi=ms.map V.int/\ms.length<=ns.length:=by
 refine ⟨(ns.drop (HT.sIx (ns.map V.int).length 0 lo)).take (HT.sIx (ns.map V.int).length (ns.map V.int).length hi-HT.sIx (ns.map V.int).length 0 lo),?_,?_⟩
 ·unfold jO
  rw [ni,ua]
 ·rw [eK,iP]
  omega
theorem kEE (ms:List Int):∃ c:Int,atI (ms.map V.int++[V.int 0]) 0=some (V.int c):=by
 cases ms with
 | nil=>exact ⟨0,rfl⟩
 | cons x r=>exact ⟨x,qE (j:=0) rfl⟩
theorem zO {n:Nat} (h:n<=20000):n<sizeLine:=qm h (by rw [Ak];decide)
theorem kFM {n:Nat} (h:n<=1000):n<=sizeLine:=jj (kR h)
theorem kAD {f:av} {fd:ed} (F:Fun K "_law_pot" "_law_pot" zH f fd) (z_abs:mg "abs" = none) (z_max:mg "max" = none):FnOk P w K mg base CX0 1 f fd ["_law_script","_law_k"] (kFK K):=by
 refine F.ok sc_law_pot (λ vs H Q E h=>?_) (λ cdv A outer s H vs Q E hr h=>?_)
 ·obtain ⟨a,ns,k,rfl,_⟩:=h
  rfl
 obtain ⟨a,ns,k,rfl,hS,h63,k0,k1,q⟩:=h
 refine ⟨_,(kF (qB (i:=2) sc_law_pot.nd rfl (dw rfl) (kU kZ (kX vD (qJ jQ (pv 0) (qI (pv 1)) (qI (kX qO (pv 1) kK))) (jH (kB kK kD))) kK (λ _ _=>rfl)))
   (kL (kS (jH (kB (kN (nF rfl) rfl z_max Bk (kB kK (kB (kX jI (pv 2) (kX kLT kK kK)) kD))) (kB (kX qO (kX oP (kX qO (kX qO (kN kHV rfl z_abs FM (kB (pv 2) kD)) (kX kAA kK (pv 1))) kK) kK) kK) kD)))))),?_⟩
 obtain ⟨ms,em,lm⟩:=kHR ns (some k) (some (k+1));obtain ⟨c,hc⟩:=kEE ms;refine ⟨_,rfl,_,rfl,k,rfl,_,rfl,_,_,rfl,rfl,k+1,rfl,a,_,rfl,hS,λ p1 h1=>?_⟩;refine ⟨yS1,λ p2 h2=>?_⟩;have n12:p1≠p2:=kH kC h2;refine ⟨p1,p2,_,_,rfl,rfl,(by rw [kO n12];exact kC),kC,(by rw [em,ao,gi];exact kFM (by omega)),λ p3 h3=>?_⟩;refine ⟨p3,_,_,_,rfl,rfl,SqL.of kC,(by rw [em];exact hc),?_⟩;have g1:Same H (upd H p1 (.lst (jO (ns.map V.int) (some k) (some (k+1))))):=kE h1 _;have g2:=kE h2 (.lst [V.int 0]);have g3:=kE h3 (.lst (jO (ns.map V.int) (some k) (some (k+1))++[V.int 0]));have g:=g1.trans (g2.trans g3);refine ⟨_,rfl,_,_,rfl,rfl,⟨by decide,by decide,by decide⟩,_,_,rfl,rfl,_,_,rfl,_,rfl,c,rfl,_,rfl,_,_,rfl,rfl,.inl ⟨by decide,by decide⟩,_,_,rfl,rfl,_,_,rfl,rfl,_,_,rfl,rfl,(by show (0:Int)<2147483629;decide),_,_,rfl,rfl,yS2,λ p4 h4=>?_⟩;refine q p4 _ _ _ ?_ (g.trans (kE h4 _)) (g.free h4) kC
 split<;>omega
theorem SameBut.trans {a:av} {H H1 H2:Hp} (x:SameBut a H H1) (y:SameBut a H1 H2):SameBut a H H2:=λ b o n h=>y b o n (x b o n h)
theorem SameBut.of {a:av} {H H':Hp} (h:Same H H'):SameBut a H H':=λ b o _ e=>h b o e
theorem kCB {a:av} {H:Hp} {o:HO}:SameBut a H (upd H a o):=λ b u n h=>by rw [kO n];exact h
theorem oT {f:av} {fd:ed} (F:Fun K "_law_digit" "_law_digit" xR f fd) (z_divmod:mg "divmod" = none):FnOk P w K mg base CX0 1 f fd ["_law_pot_here","_law_many"] (bE):=by
 refine F.ok sc_law_digit (λ vs H Q E h=>?_) (λ cdv A outer s H vs Q E hr h=>?_)
 ·obtain ⟨a,m,rfl,_⟩:=h
  rfl
 obtain ⟨a,m,rfl,⟨x,y,ha,hx⟩,m0,m1,q⟩:=h
 refine ⟨_,(kF (xA (qD kKM (kU kZ (pv 0) kK (λ _ _=>rfl)) kK (qK _)) (kF (vB (kN pQ rfl z_divmod Ex (kB (kU kZ (pv 0) kK (λ _ _=>rfl)) (kB (pv 1) kD))) (xI rfl (kY (tW (pv 0) kK gG) (kY (kQ (i:=2) sc_law_digit.nd rfl (dw rfl)) jR))))
   (kL (kS (pv 2)))) qN)
   (kF (vB (kX oP (kX qO (kX kAA (kU kZ (pv 0) kK (λ _ _=>rfl)) kK) kK) kK) (tW (pv 0) kK gG))
   (kL (kS (kX oP (kX kIZ (kX oP (kX kAA (kU kZ (pv 0) kK (λ _ _=>rfl)) (kU kZ (pv 0) kK (λ _ _=>rfl))) kK) kK) (pv 1)))))),?_⟩
 refine ⟨_,rfl,a,_,_,_,rfl,rfl,SqL.of ha,at0,_,_,rfl,rfl,_,rfl,?_⟩;refine vS (λ c=>?_) (λ c=>?_)
 ·refine ⟨_,rfl,a,_,_,_,rfl,rfl,SqL.of ha,at0,_,rfl,x,m,rfl,⟨m0,m1⟩,λ p hp=>?_⟩
  have nap:a≠p:=kH ha hp;refine ⟨p,_,rfl,SqT.of kC,rfl,_,_,rfl,_,rfl,a,_,_,0,rfl,rfl,(by rw [kO nap];exact ha),rfl,_,_,rfl,rfl,?_⟩;refine ⟨_,rfl,?_⟩;refine q _ _ (Be _ (by omega)) (Af _ m0) ((SameBut.of (kE hp _)).trans kCB) ⟨_,_,kC,?_⟩;exact Int.ediv_nonneg hx (by omega)
 ·refine ⟨_,rfl,a,_,_,_,rfl,rfl,SqL.of ha,at1,_,_,rfl,rfl,.inr ⟨by decide,by decide⟩,_,_,rfl,rfl,_,_,rfl,rfl,(by show (0:Int)<2147483647;decide),?_⟩
  refine ⟨_,rfl,a,_,_,1,rfl,rfl,ha,rfl,?_⟩;have b1:0<=(y*48271+39373) % 2147483647:=Be _ (by decide);have b2:(y*48271+39373) % 2147483647<2147483647:=Af _ (by decide);refine ⟨_,rfl,a,_,_,_,rfl,rfl,SqL.of kC,at1,_,rfl,a,_,_,_,rfl,rfl,SqL.of kC,at1,_,_,rfl,rfl,.inl ⟨?_,?_⟩,_,_,rfl,rfl,(by show (0:Int)<2147483629;decide),_,_,rfl,rfl,⟨by decide,by decide⟩,_,rfl,_,_,rfl,rfl,m0,?_⟩
  ·show -(2 ^ 64)<(y*48271+39373) % 2147483647
   omega
  ·show (y*48271+39373) % 2147483647<2 ^ 64
   omega
  ·exact q _ _ (Be _ (by omega)) (Af _ m0) kCB ⟨_,_,kC,hx⟩
theorem keep {H H1 H2:Hp} {p:av} (g:Same H H1) (n:H p=none) (b:SameBut p H1 H2):Same H H2:=λ c o e=>b c o (kH e n) (g c o e)
theorem PotAt.kept {H H':Hp} {p:av} (h:PotAt H p) (g:Same H H'):PotAt H' p:=by
 obtain ⟨x,y,e,z⟩:=h;exact ⟨x,y,g _ _ e,z⟩
theorem kGR {i:Int} (h:i.natAbs<2 ^ 200):i.natAbs<2 ^ 9000:=cj h (Nat.pow_le_pow_right (by decide) (by decide))
theorem PotAt.other {H:Hp} {a l:av} {o:HO} (h:PotAt H a) (n:a≠l):PotAt (upd H l o) a:=by
 obtain ⟨x,y,e,z⟩:=h;exact ⟨x,y,by rw [kO n];exact e,z⟩
structure Some' (L:Rows):Prop where
 pos:0<L.length
 le:L.length<=150
 ne:∀ (p:Nat) (row:List Nat),L[p]?=some row->row≠[]/\row.length<=1000
theorem RowsAt.but {H H':Hp} {r a:av} {A:List av} {L:Rows} (x:RowsAt H r A L) (h1:a≠r) (h2:a∉A) (g:SameBut a H H'):RowsAt H' r A L :=
 ⟨g _ _ h1.symm x.top,x.len,x.nd,x.out,λ i b ns hb hi=>g _ _ (λ z=>h2 (z ▸ eg hb)) (x.row i b ns hb hi)⟩
theorem RowsAt.kept {H H':Hp} {r:av} {A:List av} {L:Rows} (x:RowsAt H r A L) (g:Same H H'):RowsAt H' r A L :=
 ⟨g _ _ x.top,x.len,x.nd,x.out,λ i b ns hb hi=>g _ _ (x.row i b ns hb hi)⟩
theorem kKH {row:List Nat} {j:Nat} (h:j<row.length):atI (row.map vn) (j:Int)=some (vn row[j]):=qE (by rw [bh,aa h];rfl)
def WebAt (H:Hp) (t:av) (W:Rows):Prop:=∃ ts:List av,H t=some (.tup (ts.map V.ref))/\ts.length=W.length/\∀ (j:Nat) (a:av) (row:List Nat),ts[j]?=some a->W[j]?=some row->H a=some (.tup (row.map vn))
theorem WebAt.at {H:Hp} {t:av} {W:Rows} (h:WebAt H t W):∃ ts:List av,H t=some (.tup (ts.map V.ref))/\ts.length=W.length/\∀ (q:Nat) (row:List Nat),W[q]?=some row->∃ b,atI (ts.map V.ref) (q:Int)=some (.ref b)/\H b=some (.tup (row.map vn)):=by
 obtain ⟨ts,h1,h2,h3⟩:=h;refine ⟨ts,h1,h2,λ q row e=>?_⟩;have hq:q<ts.length:=by rw [h2];exact (aq.mp e).1
 exact ⟨ts[q],qE (by rw [bh,aa hq];rfl),h3 q _ row (aa hq) e⟩
theorem WebAt.kept {H H':Hp} {t:av} {W:Rows} (h:WebAt H t W) (g:Same H H'):WebAt H' t W:=by
 obtain ⟨ts,h1,h2,h3⟩:=h;exact ⟨ts,g _ _ h1,h2,λ j a row e1 e2=>g _ _ (h3 j a row e1 e2)⟩
theorem kEC {L:Rows} (G:Good L) (h:L.length<=150):Some' L :=
 ⟨by have:=G.three;omega,h,λ p row e=>⟨G.ne p row e,by have:=kLG G e;omega⟩⟩
theorem PotAt.rows {H H':Hp} {a r:av} {A:List av} (h:PotAt H a) (h1:a≠r) (h2:a∉A) (b:uR r A H H'):PotAt H' a:=by
 obtain ⟨x,y,e,z⟩:=h;exact ⟨x,y,b _ _ h1 h2 e,z⟩
def nQ:Sp:=λ vs H Q _=>∃ (a:av) (n:Nat),vs=[.ref a,vn n]/\PotAt H a/\n<=150 /\
 ∀ (l:av) (ns:List Nat) (H':Hp),SameBut a H H'->PotAt H' a->H l=none->l≠a->H' l=some (.lst (ns.map vn))->ns.Perm (cu n)->Q (.ref l) H'
theorem kGA {ns:List Nat} {i d:Nat} (h:ns.Perm (cu i)):(ns.take d++i::ns.drop d).Perm (cu (i+1)):=by
 rw [yv]
 have e:(ns.take d++i::ns.drop d).Perm (i::ns):=by
  have:=yy (a:=i) (l₁:=ns.take d) (l₂:=ns.drop d);rw [eW] at this;exact this
 exact e.trans ((List.Perm.cons i h).trans (List.perm_append_singleton i _).symm)
theorem oS {f:av} {fd:ed} (F:Fun K "_law_names" "_law_names" xQ f fd) (qR:Own.Has P w K mg base "_law_digit" ["_law_pot_here","_law_many"] 1 (bE)) (z_range:mg "range" = none):FnOk P w K mg base CX0 2 f fd ["_law_pot_here","_law_n"] (nQ):=by
 refine F.ok sc_law_names (λ vs H Q E h=>?_) (λ cdv A outer s H vs Q E hr h=>?_)
 ·obtain ⟨a,n,rfl,_⟩:=h
  rfl
 obtain ⟨a,n,rfl,ha,hn,k⟩:=h
 refine ⟨_,(kF (qB (i:=2) sc_law_names.nd rfl (dw rfl) (jH kD))
   (kF (yR iM rfl (yS rfl z_range (kB (pv 1) kD)) (kQ (i:=3) sc_law_names.nd rfl (dw rfl)) (kL (jJ (xB eE xg xh cZ (pv 2) (kB (Own.pe_has qR (hr.mono (by decide)) rfl (kB (pv 0) (kB (kX qO (pv 3) kK) kD))) (kB (pv 3) kD))))))
   (kL (kS (pv 2))))),?_⟩
 refine ⟨yS0,λ l nl=>?_⟩
 have la:l≠a:=by
  obtain ⟨x,y,z,_⟩:=ha;exact (kH z nl).symm
 have g0:=kE nl (.lst [])
 refine ⟨_,rfl,(n:Int),rfl,by omega,by omega,xZ (lo:=0) (n:=(n:Int).toNat) (λ i σ H2=>∃ (x:Option V) (ns:List Nat),σ=[some (.ref a),some (vn n),some (.ref l),x]/\H2 l=some (.lst (ns.map vn))/\ns.Perm (cu i)/\SameBut a H H2/\PotAt H2 a)
  ⟨none,[],rfl,kC,.nil,.of g0,ha.kept g0⟩ ?_ ?_⟩
 ·rintro i σ H2 hi ⟨x,ns,rfl,hl,hp,s2,p2⟩
  have ln:ns.length=i:=by rw [hp.length_eq,fv]
  refine ⟨_,rfl,.inl ⟨rfl,_,SqL.of hl⟩,_,rfl,_,rfl,_,_,rfl,rfl,a,_,rfl,p2,(by omega),kGR (qm (m:=151) (by omega) (by decide)),λ d H3 d0 d1 s3 p3=>?_⟩;have hl3:=s3 _ _ la hl;refine ⟨_,rfl,l,_,_,_,rfl,rfl,hl3,d0,(by omega),(by rw [ao,ln];exact kR (by omega)),?_⟩;refine ⟨_,ns.take d.toNat++i::ns.drop d.toNat,rfl,?_,kGA hp,(λ b o nb e=>?_),p3.other la.symm⟩
  ·rw [eI,ni,ft,ua,show vn i=V.int (0+(i:Int)) by rw [FH];rfl]
   exact kC
  ·rw [kO (kH e nl)]
   exact s3 b o nb (s2 b o nb e)
 ·rintro σ H2 ⟨x,ns,rfl,hl,hp,s2,p2⟩
  exact ⟨_,rfl,k l ns H2 s2 p2 nl la hl hp⟩
theorem wB (xs:List V) {k:Nat} (h:k<=xs.length):jO xs (some (k:Int)) none=xs.drop k:=by
 unfold jO;rw [HT.sIx_none,HT.sIx_nat,iq h,gn];rw [iP];exact bq _
theorem wA (xs:List V) {k:Nat} (h:k<=xs.length):jO xs none (some (k:Int))=xs.take k:=by
 unfold jO;rw [HT.sIx_none,HT.sIx_nat,iq h,EI,Cz]
def kIB (L:Rows) (ns:List Nat) (W:Rows) (p:Nat):Prop:=∀ row,L[p]?=some row->∃ n M,ns[p]?=some n/\M∈row.map (λ q=>ns.getD q 0)/\(∀ i∈row.map (λ q=>ns.getD q 0),M<=i)/\W[n]?=some (rot (row.map λ q=>ns.getD q 0) M)
def kFJ:Sp:=λ vs H Q _=>∃ (r l:av) (A:List av) (L:Rows) (ns:List Nat),vs=[.ref r,.ref l]/\RowsAt H r A L/\H l=some (.lst (ns.map vn))/\ns.Perm (cu L.length)/\Some' L/\(∀ (p:Nat) (row:List Nat),L[p]?=some row->∀ x∈row,x<L.length) /\
 ∀ (t:av) (W:Rows) (H':Hp),Same H H'->WebAt H' t W->W.length=L.length->(∀ p,p<L.length->kIB L ns W p)->Q (.ref t) H'
theorem kJR {n j:Nat} (h:j<n):ixN n (j:Int)=some j:=by
 unfold ixN;rw [if_pos (by omega),if_pos (by omega),mh]
theorem qW {H H1:Hp} {D:av} {o:HO} (n:H D=none) (g:Same H H1):Same H (upd H1 D o):=λ b u e=>by
 rw [kO (kH e n)];exact g b u e
theorem kFS (n:Nat) (e:av):(fh n [V.ref e]).flatten=(fh n e).map V.ref:=by
 induction n with
 | zero=>rfl
 | succ n ih=>rw [uh,uh,vk,ih];rfl
theorem rG {n k:Nat} (h:k<=n):HT.sIx n 0 (some (k:Int))=k:=by rw [HT.sIx_nat,iq h]
theorem oF {n k:Nat} (h:k<=n):HT.sIx n n (some (k:Int))=k:=by rw [HT.sIx_nat,iq h]
theorem kBE (ns:List Nat) (x:Nat):(ns.map vn).drop (ns.idxOf x)++(ns.map vn).take (ns.idxOf x)=(rot ns x).map vn:=by unfold rot;rw [eI,ua,ni]
def gC:Sp:=λ vs H Q _=>∃ (a:av) (ns:List Nat) (x:Nat),vs=[.ref a,vn x]/\(H a=some (.lst (ns.map vn))\/H a=some (.tup (ns.map vn)))/\x∈ns/\ns.length<=1000 /\
 ∀ (t:av) (H':Hp),Same H H'->H' t=some (.tup ((rot ns x).map vn))->Q (.ref t) H'
theorem kAH {f:av} {fd:ed} (F:Fun K "from_on" "from_on" zM f fd) (z_tuple:mg "tuple" = none):FnOk P w K mg base CX0 1 f fd ["row","first"] (gC):=by
 refine F.ok sc_from_on (λ vs H Q E h=>?_) (λ cdv A outer s H vs Q E hr h=>?_)
 ·obtain ⟨a,ns,x,rfl,_⟩:=h
  rfl
 obtain ⟨D,cl,m,rfl,hD,hm,cle,k⟩:=h;have il:=gh hm;have lv:(cl.map vn).length=cl.length:=ao _;rcases hD with hD | hD
 ·refine ⟨_,(kF (qB (i:=2) sc_from_on.nd rfl (dw rfl) (xB eE jo jq zW (pv 0) (kB (pv 1) kD)))
   (kL (kS (qV qM rfl z_tuple fu (kB (kX vD (qJ jQ (pv 0) (qI (pv 2)) jF) (qJ jQ (pv 0) jF (qI (pv 2)))) kD))))),?_⟩
  refine ⟨_,rfl,.inl ⟨rfl,_,SqL.of hD⟩,_,rfl,D,cl.map ci,m,cl.idxOf m,rfl,rfl,(by rw [hD,yB]),qZ hm,?_⟩;refine ⟨_,rfl,_,rfl,_,rfl,D,_,rfl,SqL.of hD,λ p1 m1=>?_⟩;rw [wB _ (by rw [lv];omega)];have h1:=kE m1 (.lst ((cl.map vn).drop (cl.idxOf m)));refine ⟨_,rfl,_,rfl,_,rfl,D,_,rfl,SqL.of (h1 _ _ hD),λ p2 m2=>?_⟩;rw [wA _ (by rw [lv];omega)];have h2:=kE m2 (.lst ((cl.map vn).take (cl.idxOf m)));refine ⟨p1,p2,_,_,rfl,rfl,h2 _ _ kC,kC,(by rw [iP,eK,lv];exact jj (kR (by omega))),λ p3 m3=>?_⟩;have h3:=kE m3 (.lst ((cl.map vn).drop (cl.idxOf m)++(cl.map vn).take (cl.idxOf m)));refine ⟨p3,_,rfl,.inl ⟨SqL.of kC,λ t m4=>?_⟩⟩;exact k t _ (h1.trans (h2.trans (h3.trans (kE m4 _)))) (by rw [<-kBE];exact kC)
 ·refine ⟨_,(kF (qB (i:=2) sc_from_on.nd rfl (dw rfl) (xB xj xk xm dA (pv 0) (kB (pv 1) kD)))
   (kL (kS (qV qM rfl z_tuple fu (kB (kX kBI (qJ oC (pv 0) (qI (pv 2)) jF) (qJ oC (pv 0) jF (qI (pv 2)))) kD))))),?_⟩
  refine ⟨_,rfl,.inr (.inl ⟨rfl,.inr ⟨_,hD⟩⟩),_,rfl,D,cl.map ci,m,cl.idxOf m,rfl,rfl,SqT.of (by rw [hD,yB]),qZ hm,?_⟩;by_cases z:cl.idxOf m=0
  ·have er:rot cl m=cl:=by unfold rot;rw [z];simp
   rw [er] at k;refine ⟨_,rfl,_,rfl,_,rfl,.inr ⟨D,_,rfl,SqT.of hD,⟨by rw [z,lv];exact rG (k:=0) (gm _),HT.sIx_none _ _⟩,?_⟩⟩;refine ⟨_,rfl,_,rfl,_,rfl,.inl ⟨D,_,rfl,SqT.of hD,(λ c=>by rw [lv,oF (by omega)] at c;omega),λ p2 m2=>?_⟩⟩;rw [wA _ (by rw [lv];omega),z];have h2:=kE m2 (.tup ((cl.map vn).take 0));refine ⟨D,p2,_,_,rfl,rfl,SqT.of (h2 _ _ hD),SqT.of kC,(λ c=>by rw [AH] at c;rw [c] at hm;cases hm),(by rw [lv];simp;exact kFM cle),λ _=>?_,λ c=>absurd rfl c⟩;exact ⟨D,_,rfl,.inr ⟨SqT.of (h2 _ _ hD),k D _ h2 (h2 _ _ hD)⟩⟩
  ·refine ⟨_,rfl,_,rfl,_,rfl,.inl ⟨D,_,rfl,SqT.of hD,(λ c=>by rw [lv,rG (by omega)] at c;exact z c.1),λ p1 m1=>?_⟩⟩
   rw [wB _ (by rw [lv];omega)];have h1:=kE m1 (.tup ((cl.map vn).drop (cl.idxOf m)));refine ⟨_,rfl,_,rfl,_,rfl,.inl ⟨D,_,rfl,SqT.of (h1 _ _ hD),(λ c=>by rw [lv,oF (by omega)] at c;omega),λ p2 m2=>?_⟩⟩;rw [wA _ (by rw [lv];omega)];have h2:=kE m2 (.tup ((cl.map vn).take (cl.idxOf m)));refine ⟨p1,p2,_,_,rfl,rfl,SqT.of (h2 _ _ kC),SqT.of kC,(λ c=>by have:=congrArg fz c;rw [iP,lv,ir] at this;omega),(by rw [iP,eK,lv];exact kFM (by omega)),(λ c=>by have:=congrArg fz c;rw [eK,lv,ir] at this;omega),λ _ p3 m3=>?_⟩;have h3:=kE m3 (.tup ((cl.map vn).drop (cl.idxOf m)++(cl.map vn).take (cl.idxOf m)));refine ⟨p3,_,rfl,.inr ⟨SqT.of kC,?_⟩⟩;exact k p3 _ (h1.trans (h2.trans h3)) (by rw [<-kBE];exact kC)
theorem vJ (s:Nat) (row:List Nat):inV (vn s) (row.map vn)=decide (s∈row):=by
 unfold inV;rw [gx,zc,decide_eq_true_iff];constructor
 ·rintro ⟨y,hy,e⟩
  obtain ⟨n,hn,rfl⟩:=iO.mp hy;have:(n:Int)=s:=by simpa [eqV,vn] using e
  rw [show s=n by omega];exact hn
 ·intro h
  exact ⟨vn s,iO.mpr ⟨s,h,rfl⟩,by simp [eqV,vn]⟩
theorem zZ (row:List Nat):(row.map vn).all bY=true:=by
 rw [sh];intro y hy;obtain ⟨n,hn,rfl⟩:=iO.mp hy
 rfl
def cS:Sp:=λ vs H Q _=>∃ (t z:av) (W:Rows) (p q:Nat),vs=[.ref t,.ref z]/\WebAt H t W/\H z=some (.tup [vn p,vn q])/\Nb W/\E W p q /\
 ∀ (y:av) (H':Hp),Same H H'->H y=none->H' y=some (.tup [vn (nxt W (p,q)).1,vn (nxt W (p,q)).2])->Q (.ref y) H'
theorem kIM {W:Rows} (S:Nb W) {q v p:Nat} (h:R W q v p):∃ row,W[q]?=some row/\p∈row/\xV row p=some v:=by
 obtain ⟨row,e,n⟩:=h;exact ⟨row,e,(qC n).2,oI (S.nd _ _ e) n⟩
theorem kDH {f:av} {fd:ed} (F:Fun K "behind" "behind" wS f fd):FnOk P w K mg base CX0 1 f fd ["web","step"] (cS):=by
 refine F.ok sc_behind (λ vs H Q E h=>?_) (λ cdv A outer s H vs Q E hr h=>?_)
 ·obtain ⟨t,z,W,p,q,rfl,_⟩:=h
  rfl
 obtain ⟨t,z,W,p,q,rfl,hW,hz,S,hE,k⟩:=h
 refine ⟨_,(kF (vB (pv 1) (xI rfl (kY (kQ (i:=2) sc_behind.nd rfl (dw rfl)) (kY (kQ (i:=3) sc_behind.nd rfl (dw rfl)) jR))))
   (kF (qB (i:=4) sc_behind.nd rfl (dw rfl) (kU qH (pv 0) (pv 3) (λ _ _=>rfl)))
   (kL (kS (jZ (kB (pv 3) (kB (kU qH (pv 4) (kX jI (xB xj xk xm dA (pv 4) (kB (pv 2) kD)) kK) (λ _ _=>rfl)) kD))))))),?_⟩
 obtain ⟨v,rv,en,_⟩:=yJ S hE;obtain ⟨row,hq,hp,hv⟩:=kIM S rv;obtain ⟨ts,h1,_,h3⟩:=hW.at;obtain ⟨b,e1,e2⟩:=h3 q row hq;rw [en] at k;refine ⟨_,rfl,z,_,rfl,SqT.of hz,rfl,_,_,rfl,_,_,rfl,rfl,?_⟩;refine ⟨_,rfl,_,rfl,t,_,_,_,rfl,rfl,SqT.of h1,e1,?_⟩;refine ⟨_,rfl,_,rfl,_,rfl,.inr (.inl ⟨rfl,.inr ⟨_,e2⟩⟩),_,rfl,b,row.map ci,p,row.idxOf p,rfl,rfl,SqT.of (by rw [e2,yB]),qZ hp,_,_,rfl,rfl,b,_,_,_,rfl,rfl,SqT.of e2,kKF hp hv,yS2,λ y ny=>?_⟩;exact k y _ (kE ny _) ny kC
def prD (x y:Nat):BQ:=.tuple [.int (x:Int),.int (y:Int)]
theorem gJ (x y:Nat):mj (prD x y)=true:=by
 first | rfl | simp [prD,mj,kq,jm,ou,kr]
theorem kBG (x y u v:Nat):iw (prD x y) (prD u v)=decide (x=u/\y=v):=by
 have e:∀ i j:Nat,((i:Int) == (j:Int))=decide (i=j):=λ i j=>by
  rw [gx,beq_iff_eq,decide_eq_true_iff];omega
 simp [prD,iw,iR,e]
theorem kHN {K:cf} {H:Hp} {z:av} {x y:Nat} (h:H z=some (.tup [vn x,vn y])):Dt K H (prD x y) (.ref z):=by
 unfold prD Dt;exact ⟨z,_,rfl,SqT.of h,by simp only [DtAll,Dt];exact ⟨_,_,rfl,rfl,_,_,rfl,rfl,rfl⟩⟩
def PairsAt (H:Hp) (s:av) (T:List (Nat×Nat)):Prop:=∃ ss:List av,H s=some (.lst (ss.map V.ref))/\ss.length=T.length/\∀ (i:Nat) (b:av) (t:Nat×Nat),ss[i]?=some b->T[i]?=some t->H b=some (.tup [vn t.1,vn t.2])
theorem PairsAt.kept {H H':Hp} {s:av} {T:List (Nat×Nat)} (h:PairsAt H s T) (g:Same H H'):PairsAt H' s T:=by
 obtain ⟨ss,h1,h2,h3⟩:=h;exact ⟨ss,g _ _ h1,h2,λ i b t e1 e2=>g _ _ (h3 i b t e1 e2)⟩
theorem PairsAt.app {H H':Hp} {s b:av} {ss:List av} {T:List (Nat×Nat)} {t:Nat×Nat} (h1:H s=some (.lst (ss.map V.ref))) (h2:ss.length=T.length) (h3:∀ (i:Nat) (b:av) (t:Nat×Nat),ss[i]?=some b->T[i]?=some t->H b=some (.tup [vn t.1,vn t.2])) (hb:H b=some (.tup [vn t.1,vn t.2])) :
  PairsAt (upd H s (.lst (ss.map V.ref++[.ref b]))) s (T++[t]):=by
 refine ⟨ss++[b],by rw [eI];exact kC,by simp [h2],λ i c u e1 e2=>?_⟩;have cs:c≠s->upd H s (.lst (ss.map V.ref++[.ref b])) c=H c:=λ z=>kO z;by_cases hl:i<ss.length
 ·rw [bg hl] at e1
  rw [bg (by omega)] at e2;have:=h3 i c u e1 e2;rw [cs (vR this h1 (by simp))];exact this
 ·have:i=ss.length:=by
   have:=(aq.mp e1).1;simp at this;omega
  subst this;rw [iE] at e1;rw [h2,iE] at e2;cases e1
  cases e2
  rw [cs (vR hb h1 (by simp))];exact hb
def orb (W:Rows) (p q k:Nat):List (Nat×Nat):=(cu k).map λ i=>it (nxt W) i (p,q)
theorem kGE (W:Rows) (p q k:Nat):orb W p q (k+1)=orb W p q k++[it (nxt W) k (p,q)]:=by
 unfold orb;rw [yv,eI]
 rfl
theorem oO (W:Rows) (p q k:Nat):(orb W p q k).length=k:=by simp [orb]
structure Turns (W:Rows) (p q k:Nat):Prop where
 pos:0<k
 back:it (nxt W) k (p,q)=(p,q)
 first:∀ j,0<j->j<k->it (nxt W) j (p,q)≠(p,q)
 few:k<=(kP W).length
theorem kEW {W:Rows} (S:Nb W) {p q:Nat} (h:E W p q):∃ k,Turns W p q k:=by
 obtain ⟨k,h1,h2,h3,h4⟩:=(gQ S.nd S.sym).comes (mem_steps.mpr h);exact ⟨k,h1,h3,h4,h2⟩
theorem bB {W:Rows} (S:Nb W) (h:W.length<=42):(kP W).length<=1764:=by
 rw [yW]
 have:∀ (L:List (List Nat)) (n:Nat),(∀ r∈L,r.length<=n)->(L.map fz).sum<=L.length*n:=λ L n hL=>by
  induction L with
  | nil=>simp
  | cons r L ih =>
   have h1:=hL r (by simp);have h2:=ih λ r hr=>hL r (by simp [hr]);simp only [ft,Az,eX,Nat.add_mul,Nat.one_mul];omega
 have h1:=this W W.length λ r hr=>by
  obtain ⟨i,hi,rfl⟩:=eU.mp hr;exact S.len (aa hi)
 have h2:W.length*W.length<=42*42:=Nat.mul_le_mul h h;omega
def bC:Sp:=λ vs H Q _=>∃ (w z:av) (W:Rows) (p q:Nat),vs=[.ref w,.ref z]/\WebAt H w W/\Nb W/\W.length<=42/\H z=some (.tup [vn p,vn q])/\E W p q /\
 ∀ (s:av) (k:Nat) (H':Hp),Same H H'->Turns W p q k->PairsAt H' s (orb W p q k)->Q (.ref s) H'
def lO:Option HO->Nat
 | some (.lst xs)=>xs.length
 | some (.dK kvs)=>kvs.length
 | _=>0
def kNS (K0:Nat) (σ:St) (H:Hp):Nat:=match σ with
 | [_,_,some (.ref s),_]=>K0-lO (H s)
 | _=>0
theorem gO {f:av} {fd:ed} (F:Fun K "steps_round" "steps_round" jV f fd) (bS:Own.Has P w K mg base "behind" ["web","step"] 1 (cS)):FnOk P w K mg base CX0 2 f fd ["web","step"] (bC):=by
 refine F.ok sc_steps_round (λ vs H Q E h=>?_) (λ cdv A outer s0 H vs Q E hr h=>?_)
 ·obtain ⟨w,z,W,p,q,rfl,_⟩:=h
  rfl
 obtain ⟨w,z,W,p,q,rfl,hW,S,h30,hz,hE,k⟩:=h
 refine ⟨_,(kF (qB (i:=2) sc_steps_round.nd rfl (dw rfl) (jH (kB (pv 1) kD)))
   (kF (qB (i:=3) sc_steps_round.nd rfl (dw rfl) (Own.pe_has bS (hr.mono (by decide)) rfl (kB (pv 0) (kB (pv 1) kD))))
   (kF (rM iM (qD (gM hr.units) (pv 3) (pv 1) (qK _)) (kF (jJ (xB eE iH iI jX (pv 2) (kB (pv 3) kD)))
   (kL (qB (i:=3) sc_steps_round.nd rfl (dw rfl) (Own.pe_has bS (hr.mono (by decide)) rfl (kB (pv 0) (kB (pv 3) kD)))))))
   (kL (kS (pv 2)))))),?_⟩
 obtain ⟨n,T⟩:=kEW S hE;have few:=bB S h30;have n9:=T.few;refine ⟨_,rfl,yS1,λ s ns=>?_⟩;have gs:=kE ns (.lst [.ref z]);refine ⟨_,rfl,_,rfl,w,z,W,p,q,rfl,hW.kept gs,gs _ _ hz,S,hE,λ y H1 g1 ny hy=>?_⟩;have hs1:=g1 _ _ (kC (H:=H) (a:=s) (o:=.lst [.ref z]));have g01:=gs.trans g1
 refine pY (λ σ H2=>∃ (y:av) (i:Nat) (ss:List av),σ=[some (.ref w),some (.ref z),some (.ref s),some (.ref y)]/\Same H H2/\0<i/\i<=n /\
   H2 s=some (.lst (ss.map V.ref))/\ss.length=i/\(∀ (j:Nat) (b:av) (t:Nat×Nat),ss[j]?=some b->(orb W p q i)[j]?=some t->H2 b=some (.tup [vn t.1,vn t.2]))/\H2 y=some (.tup [vn (it (nxt W) i (p,q)).1,vn (it (nxt W) i (p,q)).2])) (kNS (n+1))
  ⟨y,1,[z],rfl,g01,by omega,T.pos,hs1,rfl,(λ j b t e1 e2=>?_),hy⟩ ?_ ?_
 ·match j,e1 with
  | 0,e1 =>
   cases e1
   have:t=(p,q):=by
    have:(orb W p q 1)[0]?=some (p,q):=rfl;rw [this] at e2;exact (bj e2).symm
   rw [this];exact g01 _ _ hz
 ·rintro σ H2 ⟨y,i,ss,rfl,g2,i0,i1,hs,ls,hss,hy⟩
  have hz2:=g2 _ _ hz;refine ⟨_,rfl,_,rfl,_,prD p q,kHN hy,kHN hz2,gJ _ _,gJ _ _,_,rfl,?_⟩;rw [kBG];by_cases c:it (nxt W) i (p,q)=(p,q)
  ·rw [decide_eq_true (by rw [c];exact ⟨rfl,rfl⟩)]
   have:i=n:=by
    rcases fe i n with l | l
    ·exact absurd c (T.first i i0 l)
    ·omega
   subst this;exact ⟨_,rfl,k s i H2 g2 T ⟨ss,hs,by rw [oO];exact ls,hss⟩⟩
  ·rw [decide_eq_false (λ z=>c (qk z.1 z.2))]
   have lt:i<n:=by
    rcases fe i n with l | l
    ·exact l
    ·exact absurd (by rw [show i=n by omega];exact T.back) c
   refine ⟨_,rfl,.inl ⟨rfl,_,SqL.of hs⟩,_,rfl,s,_,_,rfl,rfl,hs,(by rw [ao];exact zO (by omega)),?_⟩;have A1:=PairsAt.app (H':=H2) hs (by rw [oO];exact ls) hss (t:=it (nxt W) i (p,q)) hy;rw [<-kGE] at A1;have gu:Same H (upd H2 s (.lst (ss.map V.ref++[V.ref y]))):=qW ns g2;have sy:y≠s:=vR hy hs (by simp);have hyu:upd H2 s (.lst (ss.map V.ref++[V.ref y])) y=some (.tup [vn (it (nxt W) i (p,q)).1,vn (it (nxt W) i (p,q)).2]):=by rw [kO sy];exact hy
   generalize upd H2 s (.lst (ss.map V.ref++[V.ref y]))=H3 at *;refine ⟨_,rfl,_,rfl,w,y,W,_,_,rfl,hW.kept gu,hyu,S,kBS S hE i,λ y' H4 g4 ny' hy'=>?_⟩;obtain ⟨ss',b1,b2,b3⟩:=A1.kept g4;rw [oO] at b2;refine ⟨⟨y',i+1,ss',rfl,gu.trans g4,by omega,lt,b1,b2,b3,hy'⟩,?_⟩;show n+1-lO (H4 s)<n+1-lO (H2 s);rw [b1,hs];show n+1-(ss'.map V.ref).length<n+1-(ss.map V.ref).length;rw [ao,ao,b2,ls];clear hss b3 few;omega
 ·rintro σ H1 Q1 Q2 m ⟨v,e1,v2,e2,d,e,h1,h2,h3,h4,kk,e5,q1⟩
  exact ⟨v,e1,v2,e2,d,e,h1,h2,h3,h4,kk,e5,m _ _ q1⟩
theorem sO {H:Hp}:∀ {ss:List av} {T:List (Nat×Nat)},ss.length=T.length->(∀ (i:Nat) (b:av) (t:Nat×Nat),ss[i]?=some b->T[i]?=some t->H b=some (.tup [vn t.1,vn t.2]))->DtAll K H (T.map λ t=>prD t.1 t.2) (ss.map V.ref)
 | [],[],_,_=>by unfold DtAll;rfl
 | s::ss,t::T,hl,h=>by
  rw [ft,ft];unfold DtAll;exact ⟨_,_,rfl,kHN (h 0 s t rfl rfl),sO (by simpa using hl) λ i b u e1 e2=>h (i+1) b u (by simpa using e1) (by simpa using e2)⟩
 | [],_::_,hl,_=>by simp at hl
 | _::_,[],hl,_=>by simp at hl
def gH (row:List Nat):BQ:=.tuple (row.map λ n:Nat=>ju (n:Int))
theorem kHA (l:List Nat):jm (l.map λ n:Nat=>ju (n:Int))=true/\kr (l.map λ n:Nat=>ju (n:Int))=0:=by
 induction l with
 | nil=>exact ⟨rfl,rfl⟩
 | cons x l ih=>simp [jm,kq,kr,ou,ih.1,ih.2]
theorem kFP (row:List Nat):kq (gH row)=true/\ou (gH row)<=1:=by
 obtain ⟨h1,h2⟩:=kHA row;unfold gH;simp [kq,ou,h1,h2]
theorem kEU (W:Rows):jm (W.map gH)=true/\kr (W.map gH)<=1:=by
 induction W with
 | nil=>exact ⟨rfl,by decide⟩
 | cons x l ih =>
  obtain ⟨h1,h2⟩:=kFP x;simp only [ft,jm,kr,h1,ih.1];have:=ih.2;refine ⟨rfl,?_⟩;omega
theorem lD (l:List Nat):iR (l.map λ n:Nat=>ju (n:Int)) (l.map λ n:Nat=>ju (n:Int))=true:=by
 induction l with
 | nil=>rfl
 | cons x l ih=>simp [iR,iw,ih]
theorem kFN (W:Rows):iR (W.map gH) (W.map gH)=true:=by
 induction W with
 | nil=>rfl
 | cons x l ih=>simp [iR,iw,ih,gH,lD]
theorem pL {H:Hp} (row:List Nat):DtAll K H (row.map λ n:Nat=>ju (n:Int)) (row.map vn):=by
 induction row with
 | nil=>unfold DtAll;rfl
 | cons x r ih =>
  rw [ft,ft];unfold DtAll;exact ⟨_,_,rfl,(by unfold Dt;rfl),ih⟩
theorem sN {H:Hp}:∀ {ts:List av} {W:Rows},ts.length=W.length->(∀ (j:Nat) (a:av) (row:List Nat),ts[j]?=some a->W[j]?=some row->H a=some (.tup (row.map vn)))->DtAll K H (W.map gH) (ts.map V.ref)
 | [],[],_,_=>by unfold DtAll;rfl
 | s::ss,t::T,hl,h=>by
  rw [ft,ft];unfold DtAll;refine ⟨_,_,rfl,?_,sN (by simpa using hl) λ i b u e1 e2=>h (i+1) b u (by simpa using e1) (by simpa using e2)⟩;unfold gH Dt;exact ⟨s,_,rfl,SqT.of (h 0 s t rfl rfl),pL t⟩
 | [],_::_,hl,_=>by simp at hl
 | _::_,[],hl,_=>by simp at hl
theorem kAC {f:av} {fd:ed} (F:Fun K "_law_web" "_law_web" zG f fd) (z_len:mg "len" = none) (z_enumerate:mg "enumerate" = none) (z_min:mg "min" = none) (z_tuple:mg "tuple" = none):FnOk P w K mg base CX0 1 f fd ["_law_rows_here","_law_names_here"] (kFJ):=by
 refine F.ok sc_law_web (λ vs H Q E h=>?_) (λ cdv A outer s H vs Q E hr h=>?_)
 ·obtain ⟨r,l,A,L,ns,rfl,_⟩:=h
  rfl
 obtain ⟨r,l,A1,L,ns,rfl,X,hl,hp,S,rng,k⟩:=h
 refine ⟨_,(kF (qB (i:=2) sc_law_web.nd rfl (dw rfl) (kX kLS (jH (kB (jZ kD) kD)) (kN kM rfl z_len di (kB (pv 0) kD))))
   (kF (yR iM rfl (bI true rfl z_enumerate (kB (pv 0) kD)) (xI rfl (kY (kQ (i:=3) sc_law_web.nd rfl (dw rfl)) (kY (kQ (i:=4) sc_law_web.nd rfl (dw rfl)) jR))) (kF (fI (i:=5) (Nc:=["_law_q","_law_names_here"]) (js:=[none,some 1]) rfl rfl sc_law_web.nd rfl (dw rfl) (yX (pv 4)) (CS.of rfl rfl) rfl (λ C s₂ H₂ fp pins=>(kQ (i:=0) (show iz (α:=Str) ["_law_q","_law_names_here"] by decide +kernel) rfl (dw rfl))) (λ C s₂ H₂ fp pins D L=>(yY (yD (kU (show IxR _ (kLJ K) from kZ) (pv 1) (pv 0) (λ _ _=>rfl))))))
   (kF (qB (i:=6) sc_law_web.nd rfl (dw rfl) (xB eE jo jq zW (pv 5) (kB (kN (kEL rfl) rfl z_min yr (kB (pv 5) kD)) kD)))
   (kL (vB (qV qM rfl z_tuple fu (kB (kX vD (qJ jQ (pv 5) (qI (pv 6)) jF) (qJ jQ (pv 5) jF (qI (pv 6)))) kD)) (tW (pv 2) (kU kZ (pv 1) (pv 3) (λ _ _=>rfl)) gG))))))
   (kL (kS (qV qM rfl z_tuple fu (kB (pv 2) kD)))))),?_⟩
 have lns:ns.length=L.length:=by rw [hp.length_eq,fv]
 have nsb:∀ {j:Nat} {n:Nat},ns[j]?=some n->n<L.length:=λ {j n} e=>gw.mp (hp.mem_iff.mp (eg e));have nnd:ns.Nodup:=hp.nodup_iff.mpr si;have lA:((A1.map V.ref).length:Int)=L.length:=by rw [ao,X.len]
 have L150:=S.le;refine ⟨yS0,λ e ne=>⟨yS1,λ l1 n1=>?_⟩⟩;have g1:=(kE ne (.tup [])).trans (kE n1 (.lst [.ref e]));have he:=(kE n1 (.lst [.ref e])) _ _ (kC (H:=H) (a:=e) (o:=.tup []));have hl1:=kC (H:=upd H e (.tup [])) (a:=l1) (o:=.lst [.ref e]);generalize upd (upd H e (.tup [])) l1 (.lst [.ref e])=H1 at *;refine ⟨_,rfl,r,_,rfl,.inl (SqL.of (g1 _ _ X.top)),l1,_,_,rfl,rfl,hl1,(by omega),(by omega),(by rw [lA];exact jj (kR (by simp;omega))),λ f nf=>?_⟩;rw [lA,mh,kFS];have gf:=kE nf (.lst ((fh L.length e).map V.ref));have g2:=g1.trans gf;have he2:=gf _ _ he;have hf2:=kC (H:=H1) (a:=f) (o:=.lst ((fh L.length e).map V.ref));generalize upd H1 f (.lst ((fh L.length e).map V.ref))=H2 at *
 refine ⟨_,rfl,r,rfl,⟨_,SqL.of (g2 _ _ X.top)⟩,bX (k:=true) (xs:=A1.map V.ref) (λ i σ H3=>∃ (x3 x4 x5 x6:Option V) (ts:List av) (W:Rows),σ=[some (.ref r),some (.ref l),some (.ref f),x3,x4,x5,x6]/\H3 f=some (.lst (ts.map V.ref))/\ts.length=L.length/\W.length=L.length /\
   (∀ (j:Nat) (a:av) (row:List Nat),ts[j]?=some a->W[j]?=some row->H3 a=some (.tup (row.map vn)))/\(∀ p,p<i->kIB L ns W p)/\Same H H3/\H f=none)
  ⟨none,none,none,none,fh L.length e,fh L.length [],rfl,hf2,vg,vg,(λ j a row e1 e2=>?_),(λ p hp'=>by omega),g2,g1.free nf⟩ ?_ ?_ ?_⟩
 ·have a1:=(Cb.mp (eg e1)).2
  have a2:=(Cb.mp (eg e2)).2;subst a1 a2;exact he2
 ·rintro i σ H3 _ ⟨x3,x4,x5,x6,ts,W,rfl,hf,lt,lW,hts,hW,g3,nf0⟩
  exact SqL.of (g3 _ _ X.top)
 ·rintro i x T σ H3 hx nT ⟨x3,x4,x5,x6,ts,W,rfl,hf,lt,lW,hts,hW,g3,nf0⟩
  rw [bh] at hx;obtain ⟨a,ea,rfl⟩:=eJ.mp hx;have hi:i<L.length:=by rw [<-X.len];exact (aq.mp ea).1
  have hrow:=aa hi;have har:=X.row i a _ ea hrow;obtain ⟨rne,rle⟩:=S.ne i _ hrow;have rb:=rng i _ hrow;have gT:=g3.trans (kE nT (.tup [.int i,.ref a]));have hfT:=(kE nT (.tup [.int i,.ref a])) _ _ hf;have htsT:∀ (j:Nat) (b:av) (row:List Nat),ts[j]?=some b->W[j]?=some row->upd H3 T (.tup [.int i,.ref a]) b=some (.tup (row.map vn)):=λ j b row w1 w2=>(kE nT (.tup [.int i,.ref a])) _ _ (hts j b row w1 w2);refine ⟨T,_,rfl,SqT.of kC,rfl,_,_,rfl,_,_,rfl,rfl,?_⟩;generalize upd H3 T (.tup [.int i,.ref a])=H4 at *
  generalize hr0:L[i]=row at *
  refine ⟨_,rfl,a,rfl,⟨_,SqL.of (gT _ _ har)⟩,λ D nD=>?_⟩;refine xM (xs:=row.map vn) (λ j σ H5=>∃ x:Option V,σ=[x,some (.ref l)]/\H5 D=some (.lst (((row.take j).map λ q=>ns.getD q 0).map vn))/\Same H4 H5) ⟨none,rfl,kC,kE nD _⟩ ?_ ?_ ?_
  ·rintro j σ H5 _ ⟨x,rfl,hD,g5⟩
   exact SqL.of (g5 _ _ (gT _ _ har))
  ·rintro j x σ H5 hx ⟨y,rfl,hD,g5⟩
   rw [bh] at hx;obtain ⟨q,eq,rfl⟩:=eJ.mp hx;have hj:j<row.length:=(aq.mp eq).1;have hq:q<ns.length:=by rw [lns];exact rb q (eg eq)
   refine ⟨_,rfl,_,rfl,l,_,_,_,rfl,rfl,SqL.of (g5 _ _ (gT _ _ hl)),kKH hq,_,hD,(by rw [ao,ao,eK];exact kR (by omega)),?_⟩;refine ⟨_,rfl,?_,qW nD g5⟩;rw [ig,eq];simp only [Cc,eI,ft,Bw];rw [show ns.getD q 0=ns[q] by simp [ai,hq]];exact kC
  ·rintro σ H5 ⟨x,rfl,hD,g5⟩
   rw [ao,ji] at hD;generalize hc:(row.map λ q=>ns.getD q 0)=cl at *;have lcl:cl.length=row.length:=by rw [<-hc,ao]
   have cpos:0<cl.length:=by rw [lcl];exact CB.mpr rne
   refine ⟨_,rfl,.inl ⟨rfl,_,SqL.of hD⟩,_,rfl,D,cl.map ci,rfl,SqL.of (by rw [hD,yB]),(by rw [ao];exact cpos),λ M hM hle=>?_⟩;obtain ⟨m,hm,rfl⟩:=iO.mp hM
   have mle:∀ j∈cl,m<=j:=λ j hj=>by
    have:=hle (ci j) (iO.mpr ⟨j,hj,rfl⟩);simp only [ci] at this;omega
   have il:=gh hm
   refine ⟨D,cl.map ci,m,cl.idxOf m,rfl,rfl,(by rw [hD,yB]),qZ hm,?_⟩
   have lv:(cl.map vn).length=cl.length:=ao _;refine ⟨_,rfl,_,rfl,_,rfl,D,_,rfl,SqL.of hD,λ p1 m1=>?_⟩;rw [wB _ (by rw [lv];omega)];have h1:=kE m1 (.lst ((cl.map vn).drop (cl.idxOf m)));refine ⟨_,rfl,_,rfl,_,rfl,D,_,rfl,SqL.of (h1 _ _ hD),λ p2 m2=>?_⟩;rw [wA _ (by rw [lv];omega)];have h2:=kE m2 (.lst ((cl.map vn).take (cl.idxOf m)));refine ⟨p1,p2,_,_,rfl,rfl,h2 _ _ kC,kC,(by rw [iP,eK,lv];exact jj (kR (by omega))),λ p3 m3=>?_⟩;have h3:=kE m3 (.lst ((cl.map vn).drop (cl.idxOf m)++(cl.map vn).take (cl.idxOf m)));refine ⟨p3,_,rfl,.inl ⟨SqL.of kC,λ t m4=>?_⟩⟩;have h4:=kE m4 (.tup ((cl.map vn).drop (cl.idxOf m)++(cl.map vn).take (cl.idxOf m)));have er:(cl.map vn).drop (cl.idxOf m)++(cl.map vn).take (cl.idxOf m)=(rot cl m).map vn:=by unfold rot;rw [eI,ua,ni]
   have hh:=h1.trans (h2.trans (h3.trans h4));have ht:upd (upd (upd (upd H5 p1 (.lst ((cl.map vn).drop (cl.idxOf m)))) p2 (.lst ((cl.map vn).take (cl.idxOf m)))) p3 (.lst ((cl.map vn).drop (cl.idxOf m)++(cl.map vn).take (cl.idxOf m)))) t (.tup ((cl.map vn).drop (cl.idxOf m)++(cl.map vn).take (cl.idxOf m))) t=some (.tup ((rot cl m).map vn)):=by rw [<-er];exact kC
   generalize upd (upd (upd (upd H5 p1 (.lst ((cl.map vn).drop (cl.idxOf m)))) p2 (.lst ((cl.map vn).take (cl.idxOf m)))) p3 (.lst ((cl.map vn).drop (cl.idxOf m)++(cl.map vn).take (cl.idxOf m)))) t (.tup ((cl.map vn).drop (cl.idxOf m)++(cl.map vn).take (cl.idxOf m)))=H6 at *;have g6:=gT.trans (g5.trans hh);have hf6:=hh _ _ (g5 _ _ hfT);have hin:i<ns.length:=by omega
   have hni:=aa hin;have hnb:=nsb hni;refine ⟨_,rfl,_,rfl,_,rfl,l,_,_,_,rfl,rfl,SqL.of (g6 _ _ hl),kKH hin,f,_,_,ns[i],rfl,rfl,hf6,kJR (by rw [ao,lt];exact hnb),?_⟩;refine ⟨_,_,_,_,ts.set ns[i] t,W.set ns[i] (rot cl m),rfl,(by rw [List.map_set];exact kC),(by rw [ya];exact lt),(by rw [ya];exact lW),(λ j b rw' e1 e2=>?_),(λ p hp'=>?_),qW nf0 g6,nf0⟩
   ·have bt:b≠f->upd H6 f (.lst ((ts.map V.ref).set ns[i] (.ref t))) b=H6 b:=λ z=>kO z
    by_cases ej:ns[i]=j
    ·subst ej
     rw [je (by omega)] at e1;rw [je (by omega)] at e2;cases e1
     cases e2
     rw [bt (vR ht hf6 (by intro z;cases z))];exact ht
    ·rw [ja ej] at e1 e2
     have hb:=hh _ _ (g5 _ _ (htsT j b rw' e1 e2));rw [bt (vR hb hf6 (by intro z;cases z))];exact hb
   ·intro row' er'
    by_cases epi:p=i
    ·subst epi
     have e0:=hrow.symm.trans er';cases e0
     refine ⟨ns[p],m,hni,(by rw [hc];exact hm),(λ j hj=>mle j (by rw [hc] at hj;exact hj)),?_⟩;rw [hc,je (by omega)]
    ·obtain ⟨n',M',w1,w2,w3,w4⟩:=hW p (by omega) row' er'
     refine ⟨n',M',w1,w2,w3,?_⟩
     have:ns[i]≠n':=λ z=>by
      have hpl:=(aq.mp w1).1;have:=(yl hpl nnd).mp (w1.trans (by rw [<-z];exact hni.symm));exact epi this
     rw [ja this];exact w4
 ·rintro σ H3 ⟨x3,x4,x5,x6,ts,W,rfl,hf,lt,lW,hts,hW,g3,nf0⟩
  rw [ao,X.len] at hW;refine ⟨_,rfl,f,_,rfl,.inl ⟨SqL.of hf,λ t nt=>?_⟩⟩;have gt:=kE nt (.tup (ts.map V.ref));exact k t W _ (g3.trans gt) ⟨ts,kC,by omega,λ j b row w1 w2=>gt _ _ (hts j b row w1 w2)⟩ lW hW
theorem kDK {L W:Rows} {ns:List Nat} (hp:ns.Perm (cu L.length)) (hl:W.length=L.length) (h:∀ p,p<L.length->kIB L ns W p):Ren L W ns:=⟨hp,hl,λ p row e=>by
 obtain ⟨n,M,h1,_,_,h4⟩:=h p (aq.mp e).1 row e;exact ⟨n,(row.map λ q=>ns.getD q 0).take ((row.map λ q=>ns.getD q 0).idxOf M),(row.map λ q=>ns.getD q 0).drop ((row.map λ q=>ns.getD q 0).idxOf M),h1,(eW _ _).symm,h4⟩⟩
theorem pN (xs:List V) {b c:Nat} (h:b<=c) (h':c<=xs.length):jO xs (some (b:Int)) (some (c:Int))=(xs.drop b).take (c-b):=by
 unfold jO;rw [HT.sIx_nat,HT.sIx_nat,iq h',iq (iA h h')]
theorem RowsAt.same {H H':Hp} {r:av} {A:List av} {L:Rows} (x:RowsAt H r A L) (g:Same H H'):RowsAt H' r A L:=⟨g _ _ x.top,x.len,x.nd,x.out,λ i a ns h1 h2=>g _ _ (x.row i a ns h1 h2)⟩
theorem RowsAt.mem {H:Hp} {r:av} {A:List av} {L:Rows} (x:RowsAt H r A L) {a:av} (h:a∈A):∃ o,H a=some o:=by
 obtain ⟨i,hi,rfl⟩:=eU.mp h;have hi':i<L.length:=by rw [<-x.len];exact hi
 exact ⟨_,x.row i _ _ (aa hi) (aa hi')⟩
theorem RowsAt.app' {H:Hp} {r:av} {A:List av} {L:Rows} (x:RowsAt H r A L) {a:av} {ns:List Nat} (h:H a=some (.lst (ns.map vn))) (ra:a≠r) (na:a∉A):RowsAt (upd H r (.lst (A.map V.ref++[V.ref a]))) r (A++[a]) (L++[ns]):=by
 refine ⟨by rw [kC,eI];rfl,by simp [x.len],?_,?_,λ i b ms hb hi=>?_⟩
 ·rw [be]
  exact ⟨x.nd,by simp,λ b hb c hc=>by simp at hc;rw [hc];exact λ z=>na (z ▸ hb)⟩
 ·intro z
  rcases bz.mp z with z | z
  ·exact x.out z
  ·simp at z;exact ra z.symm
 ·by_cases hl:i<A.length
  ·rw [bg hl] at hb
   rw [bg (by rw [<-x.len];exact hl)] at hi;have bm:=eg hb;have br:b≠r:=λ z=>x.out (by rw [<-z];exact bm);rw [kO br];exact x.row i b ms hb hi
  ·have e:i=A.length:=by
    have:=(aq.mp hb).1;simp at this;omega
   subst e;rw [bb (bq _)] at hb;rw [bb (by rw [x.len];exact bq _)] at hi;rw [x.len] at hi;simp at hb hi;subst hb hi;rw [kO ra];exact h
theorem kOJ (D:List V) (u l:V):atI (D++[u,l]) (-2)=some u:=by
 have hl:(D++[u,l]).length=D.length+2:=by simp
 have e:ixN (D++[u,l]).length (-2)=some D.length:=by
  unfold ixN;rw [hl,if_neg (by decide),if_pos (by omega)]
  congr 1
  omega
 unfold atI;rw [e];simp
def cN:Sp:=λ vs H Q _=>∃ (r o:av) (A:List av) (L:Rows) (B M C:List Nat) (f l:Nat),vs=[.ref r,.ref o,vn B.length,vn (B.length+M.length+1)]/\RowsAt H r A L/\H o=some (.lst ((B++(f::M++[l])++C).map vn))/\o≠r/\o∉A/\Half L (B++(f::M++[l])++C)/\L.length<=150 /\
 ∀ (x o':av) (L':Rows) (H':Hp),H x=none->H o'=none->uR r A H H'->RowsAt H' r (A++[x]) L'->H' o'=some (.lst ((B++[f,L.length,l]++C).map vn))->o'≠x->Half L' (B++[f,L.length,l]++C)->L'.length=L.length+1->(∀ Os Ps,Lay L Os Ps (B++(f::M++[l])++C)->Lay L' (Os++[B++[f,L.length,l]++C]) (Ps++[f::M++[l]]) (B++[f,L.length,l]++C))->Q (.ref o') H'
theorem fE {f:av} {fd:ed} (F:Fun K "_law_put_over" "_law_put_over" jM f fd) (z_len:mg "len" = none) (z_range:mg "range" = none):FnOk P w K mg base CX0 1 f fd ["_law_rows_here","_law_row","_law_first","_law_last"] (cN):=by
 refine F.ok sc_law_put_over (λ vs H Q E h=>?_) (λ cdv A outer s H vs Q E hr h=>?_)
 ·obtain ⟨r,o,A,L,B,M,C,f,l,rfl,_⟩:=h
  rfl
 obtain ⟨r,o,A1,L,B,M,C,f,l,rfl,X,ho,or,oA,G,hL,k⟩:=h
 refine ⟨_,(kF (qB (i:=4) sc_law_put_over.nd rfl (dw rfl) (kN kM rfl z_len di (kB (pv 0) kD)))
   (kF (qB (i:=5) sc_law_put_over.nd rfl (dw rfl) (qJ jQ (pv 1) (qI (pv 2)) (qI (kX qO (pv 3) kK))))
   (kF (yR iM rfl (yS rfl z_range (kB (kX jI (kN kM rfl z_len di (kB (pv 5) kD)) kK) kD)) (kQ (i:=6) sc_law_put_over.nd rfl (dw rfl)) (kL (jJ (xB eE xg xh cZ (kU kZ (pv 0) (kU kZ (pv 5) (pv 6) (λ _ _=>rfl)) (λ _ _=>rfl)) (kB (kX qO (xB eE jo jq zW (kU kZ (pv 0) (kU kZ (pv 5) (pv 6) (λ _ _=>rfl)) (λ _ _=>rfl)) (kB (kU kZ (pv 5) (kX qO (pv 6) kK) (λ _ _=>rfl)) kD)) kK) (kB (pv 4) kD))))))
   (kF (jJ (xB eE xg xh cZ (kU kZ (pv 0) (kU kZ (pv 5) (wD yC kK) (λ _ _=>rfl)) (λ _ _=>rfl)) (kB (xB eE jo jq zW (kU kZ (pv 0) (kU kZ (pv 5) (wD yC kK) (λ _ _=>rfl)) (λ _ _=>rfl)) (kB (kU kZ (pv 5) (wD yC kK) (λ _ _=>rfl)) kD)) (kB (pv 4) kD))))
   (kF (jJ (xB eE iH iI jX (pv 0) (kB (pv 5) kD)))
   (kL (kS (kX vD (kX vD (qJ jQ (pv 1) jF (qI (kX qO (pv 2) kK))) (jH (kB (pv 4) kD))) (qJ jQ (pv 1) (qI (pv 3)) jF))))))))),?_⟩
 refine ⟨_,rfl,r,_,rfl,.inl (SqL.of X.top),?_⟩;have lenA:(A1.map V.ref).length=L.length:=by rw [ao];exact X.len
 have kDQ:((B++(f::M++[l])++C).map vn).length=B.length+M.length+2+C.length:=by simp;omega
 have lP:(f::M++[l]).length=M.length+2:=by simp
 refine ⟨_,rfl,_,rfl,_,rfl,_,rfl,_,_,rfl,rfl,_,rfl,o,_,rfl,SqL.of ho,λ pa na=>?_⟩
 have ecut:jO ((B++(f::M++[l])++C).map vn) (some (B.length:Int)) (some (((B.length+M.length+1:Nat):Int)+1))=(f::M++[l]).map vn:=by
  rw [show (((B.length+M.length+1:Nat):Int)+1)=((B.length+(M.length+2):Nat):Int) by omega,pN _ (by omega) (by rw [kDQ];omega)];rw [<-ua,<-ni,cv,uf rfl,show B.length+(M.length+2)-B.length=(f::M++[l]).length by rw [lP];omega,qt rfl]
 rw [ecut,lenA];have g0:=kE na (.lst ((f::M++[l]).map vn));have X0:=X.same g0;have hpa:=kC (H:=H) (a:=pa) (o:=.lst ((f::M++[l]).map vn));have par:pa≠r:=(kH X.top na).symm;have paA:pa∉A1:=λ z=>by obtain ⟨q,hq⟩:=X.mem z;rw [na] at hq;cases hq
 have ho0:=g0 _ _ ho;have but0:uR r A1 H (upd H pa (.lst ((f::M++[l]).map vn))):=λ b o _ _ h=>g0 b o h;generalize upd H pa (.lst ((f::M++[l]).map vn))=H0 at *;have hn:((((f::M++[l]).map vn).length:Int)-1)=(M.length+1:Nat):=by rw [ao,lP];omega
 have hM:M.length+2<=L.length:=by
  have pnd:(f::M++[l]).Nodup:=(be.mp (be.mp G.ond).1).2.1;have:=de pnd (l₂:=cu L.length) λ z hz=>gw.mpr (G.orng z (az _ (bu _ hz)));rw [lP,fv] at this;exact this
 refine ⟨_,rfl,pa,_,rfl,.inl (SqL.of hpa),_,_,rfl,rfl,_,rfl,?_,?_,xZ (lo:=0) (n:=((((f::M++[l]).map vn).length:Int)-1).toNat) (λ i σ H2=>∃ x6:Option V,σ=[some (.ref r),some (.ref o),some (vn B.length),some (vn (B.length+M.length+1)),some (vn L.length),some (.ref pa),x6]/\RowsAt H2 r A1 (zP L.length L ((f::M++[l]).take (i+1)))/\uR r A1 H0 H2)
  ⟨none,rfl,X0,λ b o _ _ h=>h⟩ ?_ ?_⟩
 ·rw [hn];omega
 ·rw [hn];omega
 ·rintro i σ H2 hi ⟨x6,rfl,X2,b2⟩
  rw [hn,mh] at hi;obtain ⟨x,hx⟩ : ∃ x,(f::M++[l])[i]?=some x:=⟨_,aa (by rw [lP];omega)⟩;obtain ⟨y,hy⟩ : ∃ y,(f::M++[l])[i+1]?=some y:=⟨_,aa (by rw [lP];omega)⟩;obtain ⟨row,e,my,le,e2⟩:=kLL G hx hy;obtain ⟨a,a1,a2,a3⟩:=X2.at e2;have hp2:=b2 _ _ par paA hpa;have at1:atI ((f::M++[l]).map vn) (0+(i:Int))=some (vn x):=by rw [FH];exact qE (by rw [bh,hx];rfl)
  have at2:atI ((f::M++[l]).map vn) (0+(i:Int)+1)=some (vn y):=by rw [show (0+(i:Int)+1)=((i+1:Nat):Int) by omega];exact qE (by rw [bh,hy];rfl)
  have il:=gh my;refine ⟨_,rfl,_,rfl,_,rfl,pa,_,_,_,rfl,rfl,SqL.of hp2,at1,r,_,_,_,rfl,rfl,SqL.of X2.top,a3,.inl ⟨rfl,_,SqL.of a2⟩,?_⟩;refine ⟨_,rfl,_,rfl,_,rfl,pa,_,_,_,rfl,rfl,SqL.of hp2,at1,r,_,_,_,rfl,rfl,SqL.of X2.top,a3,.inl ⟨rfl,_,SqL.of a2⟩,?_⟩;refine ⟨_,rfl,_,rfl,_,_,rfl,rfl,pa,_,_,_,rfl,rfl,SqL.of hp2,at2,a,row.map ci,y,row.idxOf y,rfl,rfl,(by rw [a2,yB]),qZ my,_,_,rfl,rfl,_,rfl,a,_,_,_,rfl,rfl,a2,(by omega),(by omega),(by rw [ao];exact kR (by omega)),?_⟩;refine ⟨_,rfl,?_,λ b o h1 h2 h=>?_⟩
  ·have e':Fo ((row.idxOf y:Int)+1).toNat (row.map vn)++vn L.length::FA ((row.idxOf y:Int)+1).toNat (row.map vn)=(vU row y L.length).map vn:=by
    have z:((row.idxOf y:Int)+1).toNat=row.idxOf y+1:=by omega
    rw [z];unfold vU;rw [eI,ni,ft,ua]
   have q:=X2.set a1 (vU row y L.length);have z:=kDC L.length L (f::M++[l]) i x y hx hy;rw [ai,e2] at z;rw [z];rw [<-e'] at q;exact q
  ·have ne:b≠a:=λ z=>h2 (by rw [z];exact eg a1)
   rw [kO ne];exact b2 b o h1 h2 h
 ·rintro σ H2 ⟨x6,rfl,X2,b2⟩
  rw [hn,mh,gn (by rw [lP];exact bq _)] at X2;have hp2:=b2 _ _ par paA hpa;have ho2:=b2 _ _ or oA ho0;obtain ⟨D,u,hDu⟩ : ∃ D u,f::M=D++[u]:=⟨(f::M).dropLast,(f::M).getLast (wm _ _),(eR _).symm⟩
  have hu:Adj (f::M++[l]) u l:=by
   rw [hDu,show D++[u]++[l]=D++u::[l] by simp,qY];exact .inr (.inl ⟨rfl,rfl⟩)
  have S:=bR G;have hO:∀ z,z∈f::M++[l]->z∈B++(f::M++[l])++C:=λ z hz=>az _ (bu _ hz);have pnd:(f::M++[l]).Nodup:=(be.mp (be.mp G.ond).1).2.1;obtain ⟨y,ny⟩:=vF (hO l (by simp));obtain ⟨row,e,n⟩:=G.out l y u ny ((nxO u l).mpr (.inl hu));have mu:=(qC n).2;have le:=dU G e;obtain ⟨pl,_,h3,_⟩:=bH L.length (f::M++[l]) L pnd (λ z hz=>G.orng z (hO z hz));have e2:(zP L.length L (f::M++[l]))[l]?=some row:=by rw [h3 l (λ y' h=>(S.kk h).2.2.1 rfl),e]
  have N:=kDA G hu;obtain ⟨a,a1,a2,a3⟩:=X2.at e2;have at1:atI ((f::M++[l]).map vn) (-1)=some (vn l):=by rw [eI];exact xG _ _
  have at2:atI ((f::M++[l]).map vn) (-2)=some (vn u):=by rw [hDu,show D++[u]++[l]=D++[u,l] by simp,eI];exact kOJ _ _ _
  have il:=gh mu;refine ⟨_,rfl,_,rfl,_,rfl,pa,_,_,_,rfl,rfl,SqL.of hp2,at1,r,_,_,_,rfl,rfl,SqL.of X2.top,a3,.inl ⟨rfl,_,SqL.of a2⟩,?_⟩;refine ⟨_,rfl,_,rfl,_,rfl,pa,_,_,_,rfl,rfl,SqL.of hp2,at1,r,_,_,_,rfl,rfl,SqL.of X2.top,a3,.inl ⟨rfl,_,SqL.of a2⟩,?_⟩;refine ⟨_,rfl,_,rfl,pa,_,_,_,rfl,rfl,SqL.of hp2,at2,a,row.map ci,u,row.idxOf u,rfl,rfl,(by rw [a2,yB]),qZ mu,_,rfl,a,_,_,_,rfl,rfl,a2,(by omega),(by omega),(by rw [ao];exact kR (by omega)),?_⟩
  have e':Fo ((row.idxOf u:Int)).toNat (row.map vn)++vn L.length::FA ((row.idxOf u:Int)).toNat (row.map vn)=(dF row u L.length).map vn:=by
   rw [mh];unfold dF;rw [eI,ni,ft,ua]
  rw [e'];have X3:=X2.set a1 (dF row u L.length)
  have b3:uR r A1 H0 (upd H2 a (.lst ((dF row u L.length).map vn))):=λ b o h1 h2 h=>by
   have ne:b≠a:=λ z=>h2 (by rw [z];exact eg a1);rw [kO ne];exact b2 b o h1 h2 h
  have hp3:=b3 _ _ par paA hpa;have ho3:=b3 _ _ or oA ho0;generalize upd H2 a (.lst ((dF row u L.length).map vn))=H3 at *;have X4:=X3.app' hp3 par paA;refine ⟨_,rfl,.inl ⟨rfl,_,SqL.of X3.top⟩,_,rfl,r,_,_,rfl,rfl,X3.top,(by rw [lenA];exact kR (by omega)),?_⟩
  have b4:uR r A1 H0 (upd H3 r (.lst (A1.map V.ref++[V.ref pa]))):=λ b o h1 h2 h=>by
   rw [kO h1];exact b3 b o h1 h2 h
  have ho4:=b4 _ _ or oA ho0
  have er:(zP L.length L (f::M++[l])).set l (dF row u L.length)=kDB L (f::M++[l]) L.length u l:=by
   unfold kDB;rw [ai,e2]
   rfl
  rw [er] at X4;generalize upd H3 r (.lst (A1.map V.ref++[V.ref pa]))=H4 at *;have eO:B++(f::M++[l])++C=(B++[f])++(M++l::C):=by simp
  have eO2:B++(f::M++[l])++C=(B++f::M)++(l::C):=by simp
  have c1:jO ((B++(f::M++[l])++C).map vn) none (some ((B.length:Int)+1))=(B++[f]).map vn:=by
   rw [show ((B.length:Int)+1)=((B.length+1:Nat):Int) by omega,wA _ (by rw [kDQ];omega),<-ni,eO,qt (by simp)]
  have c2:jO ((B++(f::M++[l])++C).map vn) (some ((B.length+M.length+1:Nat):Int)) none=(l::C).map vn:=by
   rw [wB _ (by rw [kDQ];omega),<-ua,eO2,uf (by simp;omega)]
  have oN:B.length+M.length+2+C.length<=L.length:=by
   have:=de G.ond (l₂:=cu L.length) λ z hz=>gw.mpr (G.orng z hz);rw [fv,<-ao (f:=vn),kDQ] at this;exact this
  refine ⟨_,rfl,_,rfl,_,_,rfl,rfl,_,rfl,o,_,rfl,SqL.of ho4,λ p1 m1=>?_⟩;rw [c1];have g5:=kE m1 (.lst ((B++[f]).map vn));refine ⟨_,rfl,yS1,λ p2 m2=>?_⟩;have g6:=kE m2 (.lst [vn L.length]);refine ⟨p1,p2,_,_,rfl,rfl,g6 _ _ kC,kC,(by simp only [ao,cg,eX,ir];exact jj (kR (by omega))),λ p3 m3=>?_⟩;have g7:=kE m3 (.lst ((B++[f]).map vn++[vn L.length]));have ho7:=g7 _ _ (g6 _ _ (g5 _ _ ho4));refine ⟨_,rfl,_,rfl,_,rfl,o,_,rfl,SqL.of ho7,λ p4 m4=>?_⟩;rw [c2];have g8:=kE m4 (.lst ((l::C).map vn));refine ⟨p3,p4,_,_,rfl,rfl,g8 _ _ kC,kC,(by simp only [ao,cg,eX,ir];exact jj (kR (by omega))),λ p5 m5=>?_⟩;have g9:=kE m5 (.lst ((B++[f]).map vn++[vn L.length]++(l::C).map vn));have gg:Same H4 _:=g5.trans (g6.trans (g7.trans g8));have g48:=gg.trans g9
  have p5n:H p5=none:=by
   cases e:H p5 with
   | none=>rfl
   | some oo =>
    have:∃ q,H4 p5=some q:=by
     by_cases h1:p5=r
     ·exact ⟨_,h1 ▸ X4.top⟩
     ·by_cases h2:p5∈A1
      ·exact X4.mem (az _ h2)
      ·exact ⟨_,b4 _ _ h1 h2 (but0 _ _ h1 h2 e)⟩
    obtain ⟨q,hq⟩:=this;rw [gg _ _ hq] at m5;cases m5
  have hpa4:H4 pa=some _:=b4 _ _ par paA hpa;refine k pa p5 (kDB L (f::M++[l]) L.length u l++[f::M++[l]]) _ na p5n (λ b q h1 h2 h=>g48 _ _ (b4 b q h1 h2 (but0 b q h1 h2 h))) (X4.same g48) ?_ ?_ N (by rw [cg,<-er,ya,pl];rfl) (λ Os Ps Y=>kJM G (kBF G hu) Y)
  ·rw [kC]
   simp
  ·intro z
   rw [z,gg _ _ hpa4] at m5;cases m5
theorem RowsAt.other {H:Hp} {r c:av} {A:List av} {L:Rows} (x:RowsAt H r A L) (h1:c≠r) (h2:c∉A) (o:HO):RowsAt (upd H c o) r A L :=
 ⟨by rw [kO h1.symm];exact x.top,x.len,x.nd,x.out,λ i b ns hb hi=>by rw [kO (λ (z:b=c)=>h2 (by rw [<-z];exact eg hb))];exact x.row i b ns hb hi⟩
theorem yZ {H H':Hp} {a x:av} (s:SameBut a H H') (p:PotAt H' a) (h:H' x=none):H x=none:=by
 cases e:H x with
 | none=>rfl
 | some o =>
  have xa:x≠a:=λ z=>by
   obtain ⟨_,_,w,_⟩:=p;rw [z,w] at h;cases h
  rw [s x o xa e] at h;cases h
structure NewR (H:Hp) (a r t q o:av) (A:List av):Prop where
 top:H r=none
 all:∀ x∈A,H x=none
 nt:H t=none
 nq:H q=none
 no:H o=none
 tr:t≠r
 tA:t∉A
 qr:q≠r
 qA:q∉A
 tq:t≠q
 or:o≠r
 oA:o∉A
 ot:o≠t
 oq:o≠q
structure LsAt (H:Hp) (t:av) (ta:List av) (Os:List (List Nat)):Prop where
 top:H t=some (.lst (ta.map V.ref))
 len:ta.length=Os.length
 row:∀ (i:Nat) (a:av) (Z:List Nat),ta[i]?=some a->Os[i]?=some Z->H a=some (.lst (Z.map vn))
theorem LsAt.but {H H':Hp} {t:av} {ta:List av} {Os:List (List Nat)} (x:LsAt H t ta Os) (g:∀ b o,b=t\/b∈ta->H b=some o->H' b=some o):LsAt H' t ta Os :=
 ⟨g _ _ (.inl rfl) x.top,x.len,λ i a Z e1 e2=>g _ _ (.inr (eg e1)) (x.row i a Z e1 e2)⟩
theorem LsAt.kept {H H':Hp} {t:av} {ta:List av} {Os:List (List Nat)} (x:LsAt H t ta Os) (g:Same H H'):LsAt H' t ta Os:=x.but λ b o _=>g b o
theorem LsAt.app {H:Hp} {t a:av} {ta:List av} {Os:List (List Nat)} {Z:List Nat} (x:LsAt H t ta Os) (h:H a=some (.lst (Z.map vn))) (nt:t∉ta) (na:a≠t):LsAt (upd H t (.lst (ta.map V.ref++[.ref a]))) t (ta++[a]) (Os++[Z]):=by
 refine ⟨by rw [eI];exact kC,by simp [x.len],λ i b Y e1 e2=>?_⟩
 have bt:b≠t:=λ z=>by
  have:=eg e1;rw [z] at this;rcases bz.mp this with q | q
  ·exact nt q
  ·exact na (cy.mp q).symm
 rw [kO bt];rcases fe i ta.length with hl | hl
 ·rw [bg hl] at e1
  rw [bg (by have:=x.len;omega)] at e2;exact x.row i b Y e1 e2
 ·obtain rfl:i=ta.length:=by
   have:=(aq.mp e1).1;simp at this;omega
  rw [iE] at e1;rw [x.len,iE] at e2;cases e1
  cases e2
  exact h
structure Apart (H:Hp) (r t q:av) (A:List av) (x:av):Prop where
 no:H x=none
 r:x≠r
 a:x∉A
 t:x≠t
 q:x≠q
def tL:Sp:=λ vs H Q _=>∃ (a:av) (n:Nat),vs=[.ref a,vn n]/\PotAt H a/\3<=n/\n<=40 /\
 ∀ (z r t q:av) (A ta pa:List av) (L:Rows) (Os Ps:List (List Nat)) (O:List Nat) (H':Hp),SameBut a H H'->PotAt H' a->H' z=some (.tup [.ref r,.ref t,.ref q])->RowsAt H' r A L->Good L->L.length=n->H r=none->(∀ b∈A,H b=none)->LsAt H' t ta Os->LsAt H' q pa Ps->Lay L Os Ps O->Half L O->O.length=3->H t=none->H q=none->(∀ x∈ta,H x=none)->(∀ x∈pa,H x=none)->Q (.ref z) H'
theorem kFI {O:List Nat} {b c:Nat} (h:b<c) (h':c<O.length):∃ B f M l C,O=B++(f::M++[l])++C/\B.length=b/\B.length+M.length+1=c:=by
 have h1:b<O.length:=by omega
 refine ⟨O.take b,O[b],(O.drop (b+1)).take (c-b-1),O[c],O.drop (c+1),?_,by rw [eK];omega,by rw [eK,eK,iP];omega⟩;have e1:O=O.take b++O[b]::O.drop (b+1):=by rw [<-md h1,eW]
 have e2:O.drop (b+1)=(O.drop (b+1)).take (c-b-1)++O[c]::O.drop (c+1):=by
  have z:(O.drop (b+1)).drop (c-b-1)=O[c]::O.drop (c+1):=by
   rw [BJ,show b+1+(c-b-1)=c by omega,md h']
  rw [<-z,eW]
 rw [cv,iC,iC,cv];show O=O.take b++O[b]::((O.drop (b+1)).take (c-b-1)++O[c]::O.drop (c+1));rw [<-e2];exact e1
theorem rQ {f:av} {fd:ed} (F:Fun K "_law_rows" "_law_rows" yN f fd) (qR:Own.Has P w K mg base "_law_digit" ["_law_pot_here","_law_many"] 1 (bE)) (zY:Own.Has P w K mg base "_law_put_over" ["_law_rows_here","_law_row","_law_first","_law_last"] 1 (cN)) (z_range:mg "range" = none) (z_len:mg "len" = none):FnOk P w K mg base CX0 2 f fd ["_law_pot_here","_law_n"] (tL):=by
 refine F.ok sc_law_rows (λ vs H Q E h=>?_) (λ cdv A outer s H vs Q E hr h=>?_)
 ·obtain ⟨a,n,rfl,_⟩:=h
  rfl
 obtain ⟨a,n,rfl,ha,n3,n40,k⟩:=h
 refine ⟨_,(kF (qB (i:=2) sc_law_rows.nd rfl (dw rfl) (jH (kB (jH (kB kK kD)) (kB (jH (kB kK kD)) kD))))
   (kF (qB (i:=3) sc_law_rows.nd rfl (dw rfl) (jH (kB (jH (kB kK (kB kK kD))) kD)))
   (kF (qB (i:=4) sc_law_rows.nd rfl (dw rfl) (jH kD))
   (kF (yR iM rfl (yS rfl z_range (kB (kX jI (pv 1) kK) kD)) (kQ (i:=5) sc_law_rows.nd rfl (dw rfl)) (kF (qB (i:=6) sc_law_rows.nd rfl (dw rfl) (kU kZ (pv 3) (wD yC kK) (λ _ _=>rfl)))
   (kF (qB (i:=7) sc_law_rows.nd rfl (dw rfl) (Own.pe_has qR (hr.mono (by decide)) rfl (kB (pv 0) (kB (kX jI (kN kM rfl z_len di (kB (pv 6) kD)) kK) kD))))
   (kF (qB (i:=8) sc_law_rows.nd rfl (dw rfl) (kX qO (kX qO (pv 7) kK) (Own.pe_has qR (hr.mono (by decide)) rfl (kB (pv 0) (kB (kX jI (kX jI (kN kM rfl z_len di (kB (pv 6) kD)) kK) (pv 7)) kD)))))
   (kF (xA (qD gN (pv 5) (kX jI (pv 1) kK) (qK _)) (kL (kLN (i:=7) (j:=8) rfl sc_law_rows.nd rfl rfl (by decide) rfl rfl (kB kK (kB (kX jI (kN kM rfl z_len di (kB (pv 6) kD)) kK) kD)) rfl)) qN)
   (kF (jJ (xB eE iH iI jX (pv 4) (kB (qJ jQ (pv 6) (qI (pv 7)) (qI (kX qO (pv 8) kK))) kD)))
   (kL (jJ (xB eE iH iI jX (pv 3) (kB (Own.pe_has zY (hr.mono (by decide)) rfl (kB (pv 2) (kB (pv 6) (kB (pv 7) (kB (pv 8) kD))))) kD))))))))))
   (kL (kS (jZ (kB (pv 2) (kB (pv 3) (kB (pv 4) kD)))))))))),?_⟩
 refine ⟨yS1,λ l1 m1=>⟨yS1,λ l2 m2=>⟨yS2,λ r m3=>?_⟩⟩⟩;refine ⟨yS2,λ o m4=>⟨yS1,λ t m5=>?_⟩⟩;refine ⟨yS0,λ q m6=>?_⟩;have g1:=kE m1 (.lst [vn 1]);have g2:=kE m2 (.lst [vn 0]);have g3:=kE m3 (.lst [.ref l1,.ref l2]);have g4:=kE m4 (.lst [vn 0,vn 1]);have g5:=kE m5 (.lst [.ref o]);have g6:=kE m6 (.lst []);have f2:=g1.free m2;have f3:=(g1.trans g2).free m3;have f4:=(g1.trans (g2.trans g3)).free m4;have f5:=(g1.trans (g2.trans (g3.trans g4))).free m5;have f6:=(g1.trans (g2.trans (g3.trans (g4.trans g5)))).free m6;have g:=g1.trans (g2.trans (g3.trans (g4.trans (g5.trans g6))));have v1:=kC (H:=H) (a:=l1) (o:=.lst [vn 1]);have v2:=kC (H:=upd H l1 (.lst [vn 1])) (a:=l2) (o:=.lst [vn 0]);have v3:=kC (H:=upd (upd H l1 (.lst [vn 1])) l2 (.lst [vn 0])) (a:=r) (o:=.lst [.ref l1,.ref l2]);have v4:=kC (H:=upd (upd (upd H l1 (.lst [vn 1])) l2 (.lst [vn 0])) r (.lst [.ref l1,.ref l2])) (a:=o) (o:=.lst [vn 0,vn 1]);have v5:=kC (H:=upd (upd (upd (upd H l1 (.lst [vn 1])) l2 (.lst [vn 0])) r (.lst [.ref l1,.ref l2])) o (.lst [vn 0,vn 1])) (a:=t) (o:=.lst [.ref o]);have v6:=kC (H:=upd (upd (upd (upd (upd H l1 (.lst [vn 1])) l2 (.lst [vn 0])) r (.lst [.ref l1,.ref l2])) o (.lst [vn 0,vn 1])) t (.lst [.ref o])) (a:=q) (o:=.lst []);have d12:=kH v1 m2;have d1r:=kH (g2 _ _ v1) m3;have d2r:=kH v2 m3;have d1o:=kH (g3 _ _ (g2 _ _ v1)) m4;have d2o:=kH (g3 _ _ v2) m4;have dro:=kH v3 m4;have d1t:=kH (g4 _ _ (g3 _ _ (g2 _ _ v1))) m5;have d2t:=kH (g4 _ _ (g3 _ _ v2)) m5;have drt:=kH (g4 _ _ v3) m5;have dot:=kH v4 m5;have d1q:=kH (g5 _ _ (g4 _ _ (g3 _ _ (g2 _ _ v1)))) m6;have d2q:=kH (g5 _ _ (g4 _ _ (g3 _ _ v2))) m6;have drq:=kH (g5 _ _ (g4 _ _ v3)) m6;have doq:=kH (g5 _ _ v4) m6;have dtq:=kH v5 m6;have w1:=g6 _ _ (g5 _ _ (g4 _ _ (g3 _ _ (g2 _ _ v1))));have w2:=g6 _ _ (g5 _ _ (g4 _ _ (g3 _ _ v2)));have w3:=g6 _ _ (g5 _ _ (g4 _ _ v3));have w4:=g6 _ _ (g5 _ _ v4);have w5:=g6 _ _ v5;clear v1 v2 v3 v4 v5 g1 g2 g3 g4 g5 g6 m2 m3 m4 m5 m6;have p0:=ha.kept g;have nw0:NewR H a r t q o [l1,l2]:=⟨f3,λ x hx=>by simp at hx;rcases hx with rfl | rfl<;>assumption,f5,f6,f4,drt.symm,by simp [d1t.symm,d2t.symm],drq.symm,by simp [d1q.symm,d2q.symm],dtq,dro.symm,by simp [d1o.symm,d2o.symm],dot,doq⟩
 have X0:RowsAt (upd (upd (upd (upd (upd (upd H l1 (.lst [vn 1])) l2 (.lst [vn 0])) r (.lst [.ref l1,.ref l2])) o (.lst [vn 0,vn 1])) t (.lst [.ref o])) q (.lst [])) r [l1,l2] [[1],[0]]:=by
  refine ⟨w3,rfl,by simp [d12],by simp [d1r.symm,d2r.symm],λ i b ns hb hi=>?_⟩
  match i with
  | 0=>cases hb;cases hi;exact w1
  | 1=>cases hb;cases hi;exact w2
  | i+2=>simp at hb
 generalize hH1:upd (upd (upd (upd (upd (upd H l1 (.lst [vn 1])) l2 (.lst [vn 0])) r (.lst [.ref l1,.ref l2])) o (.lst [vn 0,vn 1])) t (.lst [.ref o])) q (.lst [])=H1 at *;have hH1':upd (upd (upd (upd (upd (upd H l1 (.lst [.int 1])) l2 (.lst [.int 0])) r (.lst [.ref l1,.ref l2])) o (.lst [.int 0,.int 1])) t (.lst [.ref o])) q (.lst [])=H1:=hH1;rw [hH1']
 try rw [hH1'] at w4
 try rw [hH1'] at w5
 try rw [hH1'] at v6
 try rw [hH1'] at g
 try rw [hH1'] at p0
 have apt:∀ {x:av},H x=none->a≠x:=λ h=>by obtain ⟨_,_,e,_⟩:=ha;exact kH e h
 refine ⟨_,rfl,_,_,rfl,rfl,_,rfl,by omega,by omega,xZ (lo:=0) (n:=((n:Int)-2).toNat) (λ i σ H2=>∃ (x5 x6 x7 x8:Option V) (A:List av) (L:Rows) (O:List Nat) (o:av) (ts ps:List V) (ta pa:List av) (Os Ps:List (List Nat)),σ=[some (.ref a),some (vn n),some (.ref r),some (.ref t),some (.ref q),x5,x6,x7,x8]/\RowsAt H2 r A L/\Half L O/\2<=O.length/\L.length=2+i/\(i=n-2->O.length=3)/\H2 o=some (.lst (O.map vn))/\H2 t=some (.lst (ts++[.ref o]))/\ts.length=i/\H2 q=some (.lst ps)/\ps.length=i/\SameBut a H H2/\PotAt H2 a/\NewR H a r t q o A/\ts++[.ref o]=ta.map V.ref/\ps=pa.map V.ref/\LsAt H2 t ta Os/\LsAt H2 q pa Ps/\Lay L Os Ps O/\(∀ x∈ta,Apart H r t q A x)/\(∀ x∈pa,Apart H r t q A x))
  ⟨none,none,none,none,[l1,l2],[[1],[0]],[0,1],o,[],[],[o],[],[[0,1]],[],rfl,X0,kAP,bq _,rfl,λ e=>by omega,w4,w5,rfl,v6,rfl,.of g,p0,nw0,rfl,rfl,⟨w5,rfl,λ i b Z e1 e2=>by
   match i with
   | 0=>cases e1;cases e2;exact w4
   | i+1=>simp at e1⟩,⟨v6,rfl,λ i b Z e1=>by simp at e1⟩,kDR,(λ x hx=>by rw [cy.mp hx];exact ⟨nw0.no,nw0.or,nw0.oA,nw0.ot,nw0.oq⟩),(λ x hx=>by cases hx)⟩ ?_ ?_⟩
 ·clear X0 w1 w2 w3 w4 w5 v6 nw0 p0 hH1 hH1' g f2 f3 f4 f5 f6
  rintro i σ H2 hi ⟨x5,x6,x7,x8,A1,L,O,o,ts,ps,ta,pa,Os,Ps,rfl,X,G,O2,hl,hO3,ho,ht,lts,hq,lps,s2,p2,nw,ets,eps,lt1,lq1,ly,apa,apq⟩
  have oN:O.length<=L.length:=by
   have:=de G.ond (l₂:=cu L.length) λ z hz=>gw.mpr (G.orng z hz);rwa [fv] at this
  have lO:((O.map vn).length:Int)=O.length:=by rw [ao]
  refine ⟨_,rfl,_,rfl,t,_,_,_,rfl,rfl,SqL.of ht,xG _ _,?_⟩;refine ⟨_,rfl,_,rfl,o,_,rfl,.inl (SqL.of ho),_,_,rfl,rfl,a,_,rfl,p2,(by rw [lO];omega),kGR (by rw [lO];exact qm (m:=1000) (by omega) (by decide)),λ d H3 d0 d1 s3 p3=>?_⟩;rw [lO] at d1;have ho3:=s3 _ _ (apt nw.no).symm ho;refine ⟨_,rfl,_,_,rfl,rfl,_,rfl,_,rfl,o,_,rfl,.inl (SqL.of ho3),_,_,rfl,rfl,_,rfl,_,_,rfl,rfl,a,_,rfl,p3,(by rw [lO];omega),kGR (by rw [lO];exact qm (m:=1000) (by omega) (by decide)),λ d' H4 e0 e1 s4 p4=>?_⟩;rw [lO] at e1;refine ⟨_,_,rfl,rfl,?_⟩;have aA1:a∉A1:=λ z=>by have:=apt (nw.all a z);exact this rfl
  have s34:=s2.trans (s3.trans s4);have X4:=X.but (apt nw.top) aA1 (s3.trans s4);have ho4:=s4 _ _ (apt nw.no).symm ho3;have ht4:=(s3.trans s4) _ _ (apt nw.nt).symm ht;have hq4:=(s3.trans s4) _ _ (apt nw.nq).symm hq;refine ⟨_,rfl,_,rfl,_,_,rfl,rfl,rfl,_,rfl,?_⟩;refine vS (λ cc=>?_) (λ cc=>?_)
  ·have ci:(0+(i:Int))=(n:Int)-3:=by
    have:=of_decide_eq_true cc;injection this
   refine ⟨_,rfl,o,_,rfl,.inl (SqL.of ho4),_,_,rfl,rfl,_,_,rfl,?_⟩;rw [lO]
   obtain ⟨b,c,eb,ec,bc,cO,hbc⟩ : ∃ b c:Nat,V.int 0=vn b/\V.int ((O.length:Int)-1)=vn c/\b<c/\c<O.length/\(i=n-3->b=0/\c=O.length-1) :=
    ⟨0,O.length-1,rfl,by unfold vn;congr 1;omega,by omega,by omega,λ _=>⟨rfl,rfl⟩⟩
   obtain ⟨B,fi,M,la,C,eO,eB,eM⟩:=kFI bc cO;have lO':O.length=B.length+M.length+2+C.length:=by rw [eO];simp;omega
   refine ⟨_,rfl,.inl ⟨rfl,_,SqL.of hq4⟩,_,rfl,_,rfl,_,rfl,_,rfl,_,_,rfl,rfl,_,rfl,o,_,rfl,SqL.of ho4,λ p n5=>?_⟩;have g5:=kE n5 (.lst (jO (O.map vn) (some (0)) (some ((O.length:Int)-1+1))));have hq5:=g5 _ _ hq4;have ho5:=g5 _ _ ho4;have ht5:=g5 _ _ ht4;have X5:=X4.kept g5;have p5:=p4.kept g5;have s5:=s34.trans (.of g5);refine ⟨q,_,_,rfl,rfl,hq5,(by rw [lps];exact kR (by omega)),?_⟩
   have ecut:jO (O.map vn) (some (0)) (some ((O.length:Int)-1+1))=(fi::M++[la]).map vn:=by
    have q1:(0)=((B.length:Nat):Int):=by
     have:=V.int.inj eb;omega
    have q2:((O.length:Int)-1+1)=((B.length+(M.length+2):Nat):Int):=by
     have:=V.int.inj ec;omega
    rw [q2,q1,pN _ (by omega) (by rw [ao];omega),<-ua,<-ni,eO,cv,uf rfl,show B.length+(M.length+2)-B.length=(fi::M++[la]).length by rw [cg,eX,gi];omega,qt rfl]
   have hp5:upd H4 p (.lst (jO (O.map vn) (some (0)) (some ((O.length:Int)-1+1)))) p=some (.lst ((fi::M++[la]).map vn)):=by rw [kC,ecut]
   have pH4:∀ b o,H4 b=some o->b≠p:=λ b o e z=>by rw [z,n5] at e;cases e
   have keep4:∀ b u,b≠a->H2 b=some u->H4 b=some u:=λ b u nb e=>(s3.trans s4) b u nb e;have pH:H p=none:=yZ s34 p4 n5;have apP:Apart H r t q A1 p:=⟨pH,(pH4 _ _ X4.top).symm,(λ z=>by obtain ⟨u,hu⟩:=X4.mem z;exact pH4 _ _ hu rfl),(pH4 _ _ ht4).symm,(pH4 _ _ hq4).symm⟩
   have ltk:LsAt (upd H4 p (.lst (jO (O.map vn) (some (0)) (some ((O.length:Int)-1+1))))) t ta Os:=(lt1.but (H':=H4) λ b o hb e=>keep4 b o (λ z=>by
    rcases hb with rfl | hb
    ·exact (apt nw.nt) z.symm
    ·exact (apt (apa b hb).no) z.symm) e).kept g5
   have lqk:LsAt (upd H4 p (.lst (jO (O.map vn) (some (0)) (some ((O.length:Int)-1+1))))) q pa Ps:=(lq1.but (H':=H4) λ b o hb e=>keep4 b o (λ z=>by
    rcases hb with rfl | hb
    ·exact (apt nw.nq) z.symm
    ·exact (apt (apq b hb).no) z.symm) e).kept g5
   generalize upd H4 p (.lst (jO (O.map vn) (some (0)) (some ((O.length:Int)-1+1))))=H5 at *;have X6:=X5.other nw.qr nw.qA (.lst (ps++[.ref p]));have p6:=p5.other (o:=.lst (ps++[.ref p])) (apt nw.nq);have ho6:upd H5 q (.lst (ps++[.ref p])) o=some (.lst (O.map vn)):=by rw [kO nw.oq];exact ho5
   have ht6:upd H5 q (.lst (ps++[.ref p])) t=some (.lst (ts++[.ref o])):=by rw [kO nw.tq];exact ht5
   have hq6:=kC (H:=H5) (a:=q) (o:=.lst (ps++[.ref p]))
   have s6:SameBut a H (upd H5 q (.lst (ps++[.ref p]))):=λ b u nb h=>by
    rw [kO (kH h nw.nq)];exact s5 b u nb h
   have lt6:LsAt (upd H5 q (.lst (ps++[.ref p]))) t ta Os:=ltk.but λ b o hb e=>by
    have:b≠q:=by
     rcases hb with rfl | hb
     ·exact nw.tq
     ·exact (apa b hb).q
    rw [kO this];exact e
   have lq6:LsAt (upd H5 q (.lst (ps++[.ref p]))) q (pa++[p]) (Ps++[fi::M++[la]]):=by
    rw [eps];exact lqk.app hp5 (λ z=>(apq q z).q rfl) apP.q
   generalize upd H5 q (.lst (ps++[.ref p]))=H6 at *;refine ⟨_,rfl,.inl ⟨rfl,_,SqL.of ht6⟩,_,rfl,_,rfl,_,rfl,_,rfl,r,o,A1,L,B,M,C,fi,la,(by show [V.ref r,V.ref o,V.int (0),V.int ((O.length:Int)-1)]=_;rw [eb,ec,eM,eB]),X6,(by rw [<-eO];exact ho6),nw.or,nw.oA,(by rw [<-eO];exact G),(by omega),λ x o' L' H7 hx ho' b7 X7 hh7 ox G7 hl7 ly7=>?_⟩;have ht7:=b7 _ _ nw.tr nw.tA ht6;have hq7:=b7 _ _ nw.qr nw.qA hq6;have xt:t≠x:=kH ht6 hx;have xq:q≠x:=kH hq6 hx;have aA:a∉A1:=λ z=>by have:=apt (nw.all a z);exact this rfl
   have p7:=p6.rows (apt nw.top) aA b7
   have tA':t∉A1++[x]:=λ z=>by
    rcases bz.mp z with z | z
    ·exact nw.tA z
    ·simp at z;exact xt z
   have qA':q∉A1++[x]:=λ z=>by
    rcases bz.mp z with z | z
    ·exact nw.qA z
    ·simp at z;exact xq z
   refine ⟨t,_,_,rfl,rfl,ht7,(by rw [cg,lts];exact kR (by show i+1<=1000;omega)),?_⟩;have X8:=X7.other nw.tr tA' (.lst (ts++[.ref o]++[.ref o']))
   have ap6:∀ y∈pa++[p],Apart H r t q A1 y:=λ y hy=>by
    rcases bz.mp hy with z | z
    ·exact apq y z
    ·rw [cy.mp z];exact apP
   have lt7:LsAt H7 t ta Os:=lt6.but λ b u hb e=>b7 b u (by
    rcases hb with rfl | hb
    ·exact nw.tr
    ·exact (apa b hb).r) (by
    rcases hb with rfl | hb
    ·exact nw.tA
    ·exact (apa b hb).a) e
   have lq7:LsAt H7 q (pa++[p]) (Ps++[fi::M++[la]]):=lq6.but λ b u hb e=>b7 b u (by
    rcases hb with rfl | hb
    ·exact nw.qr
    ·exact (ap6 b hb).r) (by
    rcases hb with rfl | hb
    ·exact nw.qA
    ·exact (ap6 b hb).a) e
   have live:∀ (l:List av) (Z:List (List Nat)) (s:av),LsAt H6 s l Z->∀ y∈l,y≠x:=λ l Z s hl y hy=>by
    obtain ⟨j,hj,rfl⟩:=eU.mp hy;have hj':j<Z.length:=by rw [<-hl.len];exact hj
    exact kH (hl.row j _ _ (aa hj) (aa hj')) hx
   have more:∀ y,y≠x->Apart H r t q A1 y->Apart H r t q (A1++[x]) y:=λ y yx h=>⟨h.no,h.r,λ z=>by
    rcases bz.mp z with w | w
    ·exact h.a w
    ·exact yx (cy.mp w),h.t,h.q⟩
   have oo:o'≠t:=(kH ht6 ho').symm;refine ⟨_,_,_,_,A1++[x],L',B++[fi,L.length,la]++C,o',ts++[.ref o],ps++[.ref p],ta++[o'],pa++[p],Os++[B++[fi,L.length,la]++C],Ps++[fi::M++[la]],rfl,X8,G7,(by simp;omega),(by omega),(λ e=>?_),(by rw [kO oo];exact hh7),kC,(by simp [lts]),(by rw [kO nw.tq.symm];exact hq7),(by simp [lps]),(λ b u nb h=>?_),p7.other (apt nw.nt),?_,(by rw [eI,<-ets];rfl),(by rw [eI,<-eps];rfl),?_,?_,ly7 Os Ps (by rw [<-eO];exact ly),(λ y hy=>?_),(λ y hy=>?_)⟩
   ·obtain ⟨z1,z2⟩:=hbc (by omega)
    simp;omega
   ·rw [kO (kH h nw.nt)]
    exact b7 b u (kH h nw.top) (λ z=>by rw [nw.all b z] at h;cases h) (s6 b u nb h)
   ·have fx:=yZ s6 p6 hx
    have fo:=yZ s6 p6 ho';refine ⟨nw.top,λ b hb=>?_,nw.nt,nw.nq,fo,nw.tr,tA',nw.qr,qA',nw.tq,(kH X6.top ho').symm,λ z=>?_,oo,(kH hq6 ho').symm⟩
    ·rcases bz.mp hb with w | w
     ·exact nw.all b w
     ·rw [cy.mp w];exact fx
    ·rcases bz.mp z with z | z
     ·obtain ⟨u,hu⟩:=X6.mem z
      rw [ho'] at hu;cases hu
     ·simp at z;exact ox z
   ·have:=lt7.app hh7 (λ z=>(apa t z).t rfl) oo
    rw [ets];exact this
   ·exact lq7.but λ b u hb e=>by
     have:b≠t:=by
      rcases hb with rfl | hb
      ·exact nw.tq.symm
      ·exact (ap6 b hb).t
     rw [kO this];exact e
   ·rcases bz.mp hy with z | z
    ·exact more y (live _ _ _ lt6 y z) (apa y z)
    ·rw [cy.mp z]
     exact more o' ox ⟨yZ s6 p6 ho',(kH X6.top ho').symm,(λ z=>by obtain ⟨u,hu⟩:=X6.mem z;rw [ho'] at hu;cases hu),oo,(kH hq6 ho').symm⟩
   ·exact more y (live _ _ _ lq6 y hy) (ap6 y hy)
  ·have ci:(0+(i:Int))≠(n:Int)-3:=λ e=>cc (by rw [e];exact decide_eq_true rfl)
   obtain ⟨b,c,eb,ec,bc,cO,hbc⟩ : ∃ b c:Nat,V.int d=vn b/\V.int (d+1+d')=vn c/\b<c/\c<O.length/\(i=n-3->b=0/\c=O.length-1) :=
    ⟨d.toNat,(d+1+d').toNat,by unfold vn;congr 1;omega,by unfold vn;congr 1;omega,by omega,by omega,λ e=>by omega⟩
   obtain ⟨B,fi,M,la,C,eO,eB,eM⟩:=kFI bc cO;have lO':O.length=B.length+M.length+2+C.length:=by rw [eO];simp;omega
   refine ⟨_,rfl,.inl ⟨rfl,_,SqL.of hq4⟩,_,rfl,_,rfl,_,rfl,_,rfl,_,_,rfl,rfl,_,rfl,o,_,rfl,SqL.of ho4,λ p n5=>?_⟩;have g5:=kE n5 (.lst (jO (O.map vn) (some (d)) (some (d+1+d'+1))));have hq5:=g5 _ _ hq4;have ho5:=g5 _ _ ho4;have ht5:=g5 _ _ ht4;have X5:=X4.kept g5;have p5:=p4.kept g5;have s5:=s34.trans (.of g5);refine ⟨q,_,_,rfl,rfl,hq5,(by rw [lps];exact kR (by omega)),?_⟩
   have ecut:jO (O.map vn) (some (d)) (some (d+1+d'+1))=(fi::M++[la]).map vn:=by
    have q1:(d)=((B.length:Nat):Int):=by
     have:=V.int.inj eb;omega
    have q2:(d+1+d'+1)=((B.length+(M.length+2):Nat):Int):=by
     have:=V.int.inj ec;omega
    rw [q2,q1,pN _ (by omega) (by rw [ao];omega),<-ua,<-ni,eO,cv,uf rfl,show B.length+(M.length+2)-B.length=(fi::M++[la]).length by rw [cg,eX,gi];omega,qt rfl]
   have hp5:upd H4 p (.lst (jO (O.map vn) (some (d)) (some (d+1+d'+1)))) p=some (.lst ((fi::M++[la]).map vn)):=by rw [kC,ecut]
   have pH4:∀ b o,H4 b=some o->b≠p:=λ b o e z=>by rw [z,n5] at e;cases e
   have keep4:∀ b u,b≠a->H2 b=some u->H4 b=some u:=λ b u nb e=>(s3.trans s4) b u nb e;have pH:H p=none:=yZ s34 p4 n5;have apP:Apart H r t q A1 p:=⟨pH,(pH4 _ _ X4.top).symm,(λ z=>by obtain ⟨u,hu⟩:=X4.mem z;exact pH4 _ _ hu rfl),(pH4 _ _ ht4).symm,(pH4 _ _ hq4).symm⟩
   have ltk:LsAt (upd H4 p (.lst (jO (O.map vn) (some (d)) (some (d+1+d'+1))))) t ta Os:=(lt1.but (H':=H4) λ b o hb e=>keep4 b o (λ z=>by
    rcases hb with rfl | hb
    ·exact (apt nw.nt) z.symm
    ·exact (apt (apa b hb).no) z.symm) e).kept g5
   have lqk:LsAt (upd H4 p (.lst (jO (O.map vn) (some (d)) (some (d+1+d'+1))))) q pa Ps:=(lq1.but (H':=H4) λ b o hb e=>keep4 b o (λ z=>by
    rcases hb with rfl | hb
    ·exact (apt nw.nq) z.symm
    ·exact (apt (apq b hb).no) z.symm) e).kept g5
   generalize upd H4 p (.lst (jO (O.map vn) (some (d)) (some (d+1+d'+1))))=H5 at *;have X6:=X5.other nw.qr nw.qA (.lst (ps++[.ref p]));have p6:=p5.other (o:=.lst (ps++[.ref p])) (apt nw.nq);have ho6:upd H5 q (.lst (ps++[.ref p])) o=some (.lst (O.map vn)):=by rw [kO nw.oq];exact ho5
   have ht6:upd H5 q (.lst (ps++[.ref p])) t=some (.lst (ts++[.ref o])):=by rw [kO nw.tq];exact ht5
   have hq6:=kC (H:=H5) (a:=q) (o:=.lst (ps++[.ref p]))
   have s6:SameBut a H (upd H5 q (.lst (ps++[.ref p]))):=λ b u nb h=>by
    rw [kO (kH h nw.nq)];exact s5 b u nb h
   have lt6:LsAt (upd H5 q (.lst (ps++[.ref p]))) t ta Os:=ltk.but λ b o hb e=>by
    have:b≠q:=by
     rcases hb with rfl | hb
     ·exact nw.tq
     ·exact (apa b hb).q
    rw [kO this];exact e
   have lq6:LsAt (upd H5 q (.lst (ps++[.ref p]))) q (pa++[p]) (Ps++[fi::M++[la]]):=by
    rw [eps];exact lqk.app hp5 (λ z=>(apq q z).q rfl) apP.q
   generalize upd H5 q (.lst (ps++[.ref p]))=H6 at *;refine ⟨_,rfl,.inl ⟨rfl,_,SqL.of ht6⟩,_,rfl,_,rfl,_,rfl,_,rfl,r,o,A1,L,B,M,C,fi,la,(by show [V.ref r,V.ref o,V.int (d),V.int (d+1+d')]=_;rw [eb,ec,eM,eB]),X6,(by rw [<-eO];exact ho6),nw.or,nw.oA,(by rw [<-eO];exact G),(by omega),λ x o' L' H7 hx ho' b7 X7 hh7 ox G7 hl7 ly7=>?_⟩;have ht7:=b7 _ _ nw.tr nw.tA ht6;have hq7:=b7 _ _ nw.qr nw.qA hq6;have xt:t≠x:=kH ht6 hx;have xq:q≠x:=kH hq6 hx;have aA:a∉A1:=λ z=>by have:=apt (nw.all a z);exact this rfl
   have p7:=p6.rows (apt nw.top) aA b7
   have tA':t∉A1++[x]:=λ z=>by
    rcases bz.mp z with z | z
    ·exact nw.tA z
    ·simp at z;exact xt z
   have qA':q∉A1++[x]:=λ z=>by
    rcases bz.mp z with z | z
    ·exact nw.qA z
    ·simp at z;exact xq z
   refine ⟨t,_,_,rfl,rfl,ht7,(by rw [cg,lts];exact kR (by show i+1<=1000;omega)),?_⟩;have X8:=X7.other nw.tr tA' (.lst (ts++[.ref o]++[.ref o']))
   have ap6:∀ y∈pa++[p],Apart H r t q A1 y:=λ y hy=>by
    rcases bz.mp hy with z | z
    ·exact apq y z
    ·rw [cy.mp z];exact apP
   have lt7:LsAt H7 t ta Os:=lt6.but λ b u hb e=>b7 b u (by
    rcases hb with rfl | hb
    ·exact nw.tr
    ·exact (apa b hb).r) (by
    rcases hb with rfl | hb
    ·exact nw.tA
    ·exact (apa b hb).a) e
   have lq7:LsAt H7 q (pa++[p]) (Ps++[fi::M++[la]]):=lq6.but λ b u hb e=>b7 b u (by
    rcases hb with rfl | hb
    ·exact nw.qr
    ·exact (ap6 b hb).r) (by
    rcases hb with rfl | hb
    ·exact nw.qA
    ·exact (ap6 b hb).a) e
   have live:∀ (l:List av) (Z:List (List Nat)) (s:av),LsAt H6 s l Z->∀ y∈l,y≠x:=λ l Z s hl y hy=>by
    obtain ⟨j,hj,rfl⟩:=eU.mp hy;have hj':j<Z.length:=by rw [<-hl.len];exact hj
    exact kH (hl.row j _ _ (aa hj) (aa hj')) hx
   have more:∀ y,y≠x->Apart H r t q A1 y->Apart H r t q (A1++[x]) y:=λ y yx h=>⟨h.no,h.r,λ z=>by
    rcases bz.mp z with w | w
    ·exact h.a w
    ·exact yx (cy.mp w),h.t,h.q⟩
   have oo:o'≠t:=(kH ht6 ho').symm;refine ⟨_,_,_,_,A1++[x],L',B++[fi,L.length,la]++C,o',ts++[.ref o],ps++[.ref p],ta++[o'],pa++[p],Os++[B++[fi,L.length,la]++C],Ps++[fi::M++[la]],rfl,X8,G7,(by simp;omega),(by omega),(λ e=>?_),(by rw [kO oo];exact hh7),kC,(by simp [lts]),(by rw [kO nw.tq.symm];exact hq7),(by simp [lps]),(λ b u nb h=>?_),p7.other (apt nw.nt),?_,(by rw [eI,<-ets];rfl),(by rw [eI,<-eps];rfl),?_,?_,ly7 Os Ps (by rw [<-eO];exact ly),(λ y hy=>?_),(λ y hy=>?_)⟩
   ·obtain ⟨z1,z2⟩:=hbc (by omega)
    simp;omega
   ·rw [kO (kH h nw.nt)]
    exact b7 b u (kH h nw.top) (λ z=>by rw [nw.all b z] at h;cases h) (s6 b u nb h)
   ·have fx:=yZ s6 p6 hx
    have fo:=yZ s6 p6 ho';refine ⟨nw.top,λ b hb=>?_,nw.nt,nw.nq,fo,nw.tr,tA',nw.qr,qA',nw.tq,(kH X6.top ho').symm,λ z=>?_,oo,(kH hq6 ho').symm⟩
    ·rcases bz.mp hb with w | w
     ·exact nw.all b w
     ·rw [cy.mp w];exact fx
    ·rcases bz.mp z with z | z
     ·obtain ⟨u,hu⟩:=X6.mem z
      rw [ho'] at hu;cases hu
     ·simp at z;exact ox z
   ·have:=lt7.app hh7 (λ z=>(apa t z).t rfl) oo
    rw [ets];exact this
   ·exact lq7.but λ b u hb e=>by
     have:b≠t:=by
      rcases hb with rfl | hb
      ·exact nw.tq.symm
      ·exact (ap6 b hb).t
     rw [kO this];exact e
   ·rcases bz.mp hy with z | z
    ·exact more y (live _ _ _ lt6 y z) (apa y z)
    ·rw [cy.mp z]
     exact more o' ox ⟨yZ s6 p6 ho',(kH X6.top ho').symm,(λ z=>by obtain ⟨u,hu⟩:=X6.mem z;rw [ho'] at hu;cases hu),oo,(kH hq6 ho').symm⟩
   ·exact more y (live _ _ _ lq6 y hy) (ap6 y hy)
 ·rintro σ H2 ⟨x5,x6,x7,x8,A1,L,O,o',ts,ps,ta,pa,Os,Ps,rfl,X,G,O2,hl,hO3,ho,ht,lts,hq,lps,s2,p2,nw,ets,eps,lt1,lq1,ly,apa,apq⟩
  have O3:=hO3 (by omega);refine ⟨_,rfl,_,rfl,_,rfl,yS3,λ z nz=>?_⟩;have gz:=kE nz (.tup [.ref r,.ref t,.ref q])
  have GG:Good L:=by
   have:∀ O':List Nat,O'.length=3->Half L O'->Good L:=λ O' h3 G'=>by
    match O',h3,G' with
    | [x,y,w'],_,G'=>exact kEB G' (by omega)
   exact this O O3 G
  exact k z r t q A1 ta pa L Os Ps O _ (s2.trans (.of gz)) (p2.kept gz) kC (X.kept gz) GG (by omega) nw.top nw.all (lt1.kept gz) (lq1.kept gz) ly G O3 nw.nt nw.nq (λ x hx=>(apa x hx).no) (λ x hx=>(apq x hx).no)
def prZ (t:Nat×Nat):List Int:=[(t.1:Int),(t.2:Int)]
theorem tO {H:Hp} {s:av} {T:List (Nat×Nat)} (h:PairsAt H s T):∃ ps:List (av×List Int),H s=some (.lst (ps.map λ q=>V.ref q.1))/\kMS H ps /\
  ∀ (l:av) (ps':List (av×List Int)),H l=none->ps'.Perm ps->ps'.Pairwise (λ a b=>Srt.lexLt b.2 a.2=false)->PairsAt (upd H l (.lst (ps'.map λ q=>V.ref q.1))) l (Fc.sortP T):=by
 obtain ⟨ss,h1,h2,h3⟩:=h
 have e1:(ss.zip (T.map prZ)).map (λ q=>V.ref q.1)=ss.map V.ref:=by
  rw [show (λ q:av×List Int=>V.ref q.1)=V.ref∘Ab from rfl,<-As,DT (by rw [ao];omega)]
 have mem:∀ q∈ss.zip (T.map prZ),∃ t:Nat×Nat,q.2=prZ t/\H q.1=some (.tup [vn t.1,vn t.2]):=λ q hq=>by
  obtain ⟨i,hi,rfl⟩:=eU.mp hq;rw [xr,ao] at hi;refine ⟨T[i]'(by omega),by simp,?_⟩;have:=h3 i (ss[i]'(by omega)) (T[i]'(by omega)) (aa _) (aa _);simpa using this
 refine ⟨ss.zip (T.map prZ),by rw [e1];exact h1,λ q hq=>?_,λ l ps' nl pm sr=>?_⟩
 ·obtain ⟨t,e,ht⟩:=mem q hq
  rw [e];exact ⟨ht,by simp [prZ]⟩
 ·have back:∃ T':List (Nat×Nat),ps'.map (·.2)=T'.map prZ/\T'.Perm T:=by
   have pz:(ps'.map (·.2)).Perm (T.map prZ):=by
    have:=pm.map (λ q:av×List Int=>q.2);rwa [BK (by rw [ao];omega)] at this
   obtain ⟨m,a,b⟩:=Srt.perm_back pz rfl;exact ⟨m,b,a⟩
  obtain ⟨T',eT,pT⟩:=back
  have srt:T'.Pairwise (λ a b=>Fc.leP a b=true):=by
   have a1:(ps'.map (·.2)).Pairwise (λ a b=>Srt.lexLt b a=false):=ke.mpr sr;rw [eT] at a1;refine (ke.mp a1).imp λ {a b} hh=>?_;rw [<-Fc.leP_leL,Fc.leL_iff];exact hh
  have eq:=Fc.sortP_is pT srt
  have ln:ps'.length=T'.length:=by
   have:=congrArg fz eT;simpa using this
  refine ⟨ps'.map (·.1),by rw [As];exact kC,by rw [<-eq,ao,ln],λ i b t e1 e2=>?_⟩;rw [<-eq] at e2;have hi:=(aq.mp e2).1;have hi':i<ps'.length:=by omega
  rw [bh,aa hi'] at e1;have e1:ps'[i].1=b:=bj e1
  have e3:ps'[i].2=prZ t:=by
   have:=congrArg (λ l=>l[i]?) eT;rw [bh,bh,e2,aa hi'] at this;exact bj this
  obtain ⟨t',e4,ht⟩:=mem ps'[i] (pm.mem_iff.mp (gk hi'))
  have tt:t'=t:=by
   rw [e4] at e3;unfold prZ at e3;injection e3 with z1 z2
   injection z2 with z2 _
   exact qk (by omega) (by omega)
  rw [<-e1,kO (kH ht nl),ht,tt]
def fG:Sp:=λ vs H Q _=>∃ (t:av) (W:Rows),vs=[.ref t]/\WebAt H t W/\Nb W/\W.length<=42 /\
 ∀ (s:av) (H':Hp),Same H H'->H s=none->PairsAt H' s (Fc.stepsS W)->Q (.ref s) H'
theorem tH (W:Rows) (i:Nat) (hi:i<W.length):kP (W.take (i+1))=kP (W.take i)++(W[i].map λ q=>(i,q)):=by
 unfold kP;rw [eK,eK,iq (by omega),iq (by omega),yv,wx]
 congr 1
 ·rw [DU,DU]
  congr 1
  refine AE λ p hp=>?_;have:=gw.mp hp;simp only [ai];rw [oh (by omega),oh (by omega)]
 ·rw [va]
  simp only [ai];rw [oh (by omega),aa hi]
  rfl
theorem Nb.take_len {W:Rows} (S:Nb W) (h:W.length<=42) (i:Nat):(kP (W.take i)).length<=1764:=by
 have a:=bB S h
 have:(kP (W.take i)).length<=(kP W).length:=by
  rw [yW,yW]
  conv=>rhs;rw [<-eW i W]
  rw [eI,Dg];omega
 omega
theorem rN {f:av} {fd:ed} (F:Fun K "steps_of" "steps_of" yK f fd) (z_sorted:mg "sorted" = none) (z_enumerate:mg "enumerate" = none):FnOk P w K mg base CX0 1 f fd ["web"] (fG):=by
 refine F.ok rE (λ vs H Q E h=>?_) (λ cdv A outer s0 H vs Q E hr h=>?_)
 ·obtain ⟨t,W,rfl,_⟩:=h
  rfl
 obtain ⟨t,W,rfl,hW,S,h42,k⟩:=h;refine ⟨_,(kL (kS (kN aU rfl z_sorted ug (kB (kIU (Nc:=["p","row","q"]) (js:=[none,none,none]) rfl rfl (bI false rfl z_enumerate (kB (pv 0) kD)) (CS.of rfl rfl) rfl (λ C s₂ H₂ fp pins=>(show PG _ _ (kHH K 2 _) from xI rfl (kY (kQ (i:=0) (show iz (α:=Str) ["p","row","q"] by decide +kernel) rfl (dw rfl)) (kY (kQ (i:=1) (show iz (α:=Str) ["p","row","q"] by decide +kernel) rfl (dw rfl)) jR)))) (λ C s₂ H₂ fp pins=>(show PI _ _ _ (kNU K _) from (tV (pv 1)))) (λ C s₂ H₂ fp pins=>(kQ (i:=2) (show iz (α:=Str) ["p","row","q"] by decide +kernel) rfl (dw rfl))) (λ C s₂ H₂ fp pins D L=>(yY (yD (jZ (kB (pv 0) (kB (pv 2) kD))))))) kD)))),?_⟩;obtain ⟨ts,h1,lts,h3⟩:=id hW;refine ⟨_,rfl,t,rfl,⟨_,SqT.of h1⟩,λ D nD=>?_⟩
 refine kCL (k:=false) (xs:=ts.map V.ref) (λ i σ H2=>∃ (x0 x1 x2:Option V),σ=[x0,x1,x2]/\Same H H2/\PairsAt H2 D (kP (W.take i)))
  ⟨none,none,none,rfl,kE nD _,⟨[],kC,rfl,λ i b t e=>by simp at e⟩⟩ ?_ ?_ ?_
 ·rintro i σ H2 _ ⟨x0,x1,x2,rfl,g2,_⟩
  exact SqT.of (g2 _ _ h1)
 ·rintro i x T σ H2 hx nT ⟨x0,x1,x2,rfl,g2,pr⟩
  rw [bh] at hx;obtain ⟨a,ea,rfl⟩:=eJ.mp hx;have hi:i<W.length:=by rw [<-lts];exact (aq.mp ea).1
  have har:=h3 i a _ ea (aa hi);have rl:=S.len (aa hi);have gT:=kE nT (.tup [.int i,.ref a]);refine ⟨T,_,rfl,SqT.of kC,rfl,_,_,rfl,_,_,rfl,rfl,?_⟩;have g3:=g2.trans gT;have pr3:=pr.kept gT;generalize upd H2 T (.tup [.int i,.ref a])=H3 at *;refine ⟨_,rfl,a,rfl,⟨_,SqT.of (g3 _ _ har)⟩,?_⟩;refine fQ (xs:=W[i].map vn) (λ j σ H4=>∃ (x2:Option V),σ=[some (vn i),some (.ref a),x2]/\Same H H4/\PairsAt H4 D (kP (W.take i)++((W[i].take j).map λ q=>(i,q)))) ⟨x2,rfl,g3,by simpa using pr3⟩ ?_ ?_ ?_
  ·rintro j σ H4 _ ⟨x2,rfl,g4,_⟩
   exact SqT.of (g4 _ _ har)
  ·rintro j v σ H4 hv ⟨x2,rfl,g4,pr4⟩
   rw [bh] at hv;obtain ⟨q,eq',rfl⟩:=eJ.mp hv;have hj:=(aq.mp eq').1;refine ⟨_,rfl,_,rfl,yS2,λ b nb=>?_⟩;have gb:=kE nb (.tup [vn i,vn q]);have hb:=kC (H:=H4) (a:=b) (o:=.tup [vn i,vn q]);have pr5:=pr4.kept gb;have g5:=g4.trans gb;refine (λ (z:upd H4 b (.tup [vn i,vn q]) b=some (.tup [vn i,vn q]))=>?_) hb;generalize upd H4 b (.tup [vn i,vn q])=H5 at *;obtain ⟨ss,c1,c2,c3⟩:=id pr5;have l1:=Nb.take_len S h42 i
   have l2:ss.length<=1764+42:=by
    rw [c2,cg,ao,eK];omega
   refine ⟨_,c1,(by rw [ao];exact zO (by omega)),?_⟩;have A1:=PairsAt.app (H':=H5) c1 c2 c3 (t:=(i,q)) z;refine ⟨_,rfl,qW nD g5,?_⟩;have tk:(W[i].take (j+1)).map (λ q=>(i,q))=(W[i].take j).map (λ q=>(i,q))++[(i,q)]:=by rw [ig,eq',eI];rfl
   rw [tk,<-cv];exact A1
  ·rintro σ H4 ⟨x2,rfl,g4,pr4⟩
   rw [ao,ji] at pr4;exact ⟨_,_,_,rfl,g4,by rw [tH W i hi];exact pr4⟩
 ·rintro σ H2 ⟨x0,x1,x2,rfl,g2,pr⟩
  rw [ao,lts,ji] at pr;obtain ⟨ps,e1,e2,e3⟩:=tO pr;refine ⟨D,ps,rfl,.inl (SqL.of e1),e2,λ l ps' nl pm sr=>?_⟩;exact k l _ (g2.trans (kE nl _)) (g2.free nl) (e3 l ps' nl pm sr)
def RowsT (H:Hp) (s:av) (T:List (List Nat)):Prop:=∃ ss:List av,H s=some (.lst (ss.map V.ref))/\ss.length=T.length/\∀ (i:Nat) (b:av) (t:List Nat),ss[i]?=some b->T[i]?=some t->H b=some (.tup (t.map vn))
theorem RowsT.kept {H H':Hp} {s:av} {T:List (List Nat)} (h:RowsT H s T) (g:Same H H'):RowsT H' s T:=by
 obtain ⟨ss,h1,h2,h3⟩:=h;exact ⟨ss,g _ _ h1,h2,λ i b t e1 e2=>g _ _ (h3 i b t e1 e2)⟩
theorem RowsT.app {H:Hp} {s b:av} {ss:List av} {T:List (List Nat)} {t:List Nat} (h1:H s=some (.lst (ss.map V.ref))) (h2:ss.length=T.length) (h3:∀ (i:Nat) (b:av) (t:List Nat),ss[i]?=some b->T[i]?=some t->H b=some (.tup (t.map vn))) (hb:H b=some (.tup (t.map vn))) :
  RowsT (upd H s (.lst (ss.map V.ref++[.ref b]))) s (T++[t]):=by
 refine ⟨ss++[b],by rw [eI];exact kC,by simp [h2],λ i c u e1 e2=>?_⟩;have cs:c≠s->upd H s (.lst (ss.map V.ref++[.ref b])) c=H c:=λ z=>kO z;rcases fe i ss.length with hl | hl
 ·rw [bg hl] at e1
  rw [bg (by omega)] at e2;have:=h3 i c u e1 e2;rw [cs (vR this h1 (by simp))];exact this
 ·obtain rfl:i=ss.length:=by
   have:=(aq.mp e1).1;simp at this;omega
  rw [iE] at e1;rw [h2,iE] at e2;cases e1
  cases e2
  rw [cs (vR hb h1 (by simp))];exact hb
theorem mI {H:Hp} {s:av} {T:List (List Nat)} (h:RowsT H s T) (hne:∀ t∈T,t≠[]):∃ ps:List (av×List Int),H s=some (.lst (ps.map λ q=>V.ref q.1))/\kMS H ps /\
  ∀ (l:av) (ps':List (av×List Int)),H l=none->ps'.Perm ps->ps'.Pairwise (λ a b=>Srt.lexLt b.2 a.2=false)->RowsT (upd H l (.lst (ps'.map λ q=>V.ref q.1))) l (Fc.sortL T):=by
 obtain ⟨ss,h1,h2,h3⟩:=h
 have e1:(ss.zip (T.map Fc.zl)).map (λ q=>V.ref q.1)=ss.map V.ref:=by
  rw [show (λ q:av×List Int=>V.ref q.1)=V.ref∘Ab from rfl,<-As,DT (by rw [ao];omega)]
 have vz:∀ t:List Nat,(Fc.zl t).map V.int=t.map vn:=λ t=>by unfold Fc.zl;rw [As];rfl
 have mem:∀ q∈ss.zip (T.map Fc.zl),∃ t:List Nat,t∈T/\q.2=Fc.zl t/\H q.1=some (.tup (t.map vn)):=λ q hq=>by
  obtain ⟨i,hi,rfl⟩:=eU.mp hq;rw [xr,ao] at hi;refine ⟨T[i]'(by omega),gk _,by simp,?_⟩;have:=h3 i (ss[i]'(by omega)) (T[i]'(by omega)) (aa _) (aa _);simpa using this
 refine ⟨ss.zip (T.map Fc.zl),by rw [e1];exact h1,λ q hq=>?_,λ l ps' nl pm sr=>?_⟩
 ·obtain ⟨t,m,e,ht⟩:=mem q hq
  rw [e,vz];refine ⟨ht,λ z=>hne t m ?_⟩;unfold Fc.zl at z;exact AH.mp z
 ·have back:∃ T':List (List Nat),ps'.map (·.2)=T'.map Fc.zl/\T'.Perm T:=by
   have pz:(ps'.map (·.2)).Perm (T.map Fc.zl):=by
    have:=pm.map (λ q:av×List Int=>q.2);rwa [BK (by rw [ao];omega)] at this
   obtain ⟨m,a,b⟩:=Srt.perm_back pz rfl;exact ⟨m,b,a⟩
  obtain ⟨T',eT,pT⟩:=back
  have srt:T'.Pairwise (λ a b=>Fc.leL a b=true):=by
   have a1:(ps'.map (·.2)).Pairwise (λ a b=>Srt.lexLt b a=false):=ke.mpr sr;rw [eT] at a1;refine (ke.mp a1).imp λ {a b} hh=>?_;rw [Fc.leL_iff];exact hh
  have eq:=Fc.sortL_is pT srt
  have ln:ps'.length=T'.length:=by
   have:=congrArg fz eT;simpa using this
  refine ⟨ps'.map (·.1),by rw [As];exact kC,by rw [<-eq,ao,ln],λ i b t e1 e2=>?_⟩;rw [<-eq] at e2;have hi:=(aq.mp e2).1;have hi':i<ps'.length:=by omega
  rw [bh,aa hi'] at e1;have e1:ps'[i].1=b:=bj e1
  have e3:ps'[i].2=Fc.zl t:=by
   have:=congrArg (λ l=>l[i]?) eT;rw [bh,bh,e2,aa hi'] at this;exact bj this
  obtain ⟨t',m,e4,ht⟩:=mem ps'[i] (pm.mem_iff.mp (gk hi'))
  have tt:t'=t:=by
   rw [e4] at e3;exact Fc.zl_inj e3
  rw [<-e1,kO (kH ht nl),ht,tt]
def tJ:Sp:=λ vs H Q _=>∃ (t:av) (W:Rows),vs=[.ref t]/\WebAt H t W/\Nb W/\W.length<=42 /\
 ∀ (s:av) (H':Hp),Same H H'->H s=none->PairsAt H' s (Fc.tiesS W)->Q (.ref s) H'
theorem fU {W:Rows} (S:Nb W) (h:W.length<=42):(Fc.stepsS W).length<=1764:=by
 have:=bB S h;rw [show (Fc.stepsS W).length=(kP W).length from (Fc.sortP_perm _).length_eq];exact this
theorem kJB {f:av} {fd:ed} (F:Fun K "ties" "ties" cT f fd) (yU:Own.Has P w K mg base "steps_of" ["web"] 1 (fG)):FnOk P w K mg base CX0 2 f fd ["web"] (tJ):=by
 refine F.ok kIK (λ vs H Q E h=>?_) (λ cdv A outer s0 H vs Q E hr h=>?_)
 ·obtain ⟨t,W,rfl,_⟩:=h
  rfl
 obtain ⟨t,W,rfl,hW,S,h42,k⟩:=h;refine ⟨_,(kL (kS (wE (Nc:=["p","q"]) (js:=[none,none]) rfl rfl (yX (Own.pe_has yU (hr.mono (by decide)) rfl (kB (pv 0) kD))) (CS.of rfl rfl) rfl (λ C s₂ H₂ fp pins=>(show PG _ _ (kHH K 2 _) from xI rfl (kY (kQ (i:=0) (show iz (α:=Str) ["p","q"] by decide +kernel) rfl (dw rfl)) (kY (kQ (i:=1) (show iz (α:=Str) ["p","q"] by decide +kernel) rfl (dw rfl)) jR)))) (λ C s₂ H₂ fp pins D L=>(zR (qD kGF (pv 0) (pv 1) (qK _)) (yD (jZ (kB (pv 0) (kB (pv 1) kD))))))))),?_⟩;have l1:=fU S h42;refine ⟨_,rfl,t,W,rfl,hW,S,h42,λ s H1 g1 ns pr=>?_⟩;obtain ⟨ss,h1,h2,h3⟩:=id pr;refine ⟨s,rfl,⟨_,SqL.of h1⟩,λ D nD=>?_⟩
 refine xM (xs:=ss.map V.ref) (λ i σ H2=>∃ (x0 x1:Option V),σ=[x0,x1]/\Same H1 H2/\PairsAt H2 D (((Fc.stepsS W).take i).filter λ t=>decide (t.1<t.2)))
  ⟨none,none,rfl,kE nD _,⟨[],kC,rfl,λ i b t e=>by simp at e⟩⟩ ?_ ?_ ?_
 ·rintro i σ H2 _ ⟨x0,x1,rfl,g2,_⟩
  exact SqL.of (g2 _ _ h1)
 ·rintro i x σ H2 hx ⟨x0,x1,rfl,g2,pr2⟩
  rw [bh] at hx;obtain ⟨b,eb,rfl⟩:=eJ.mp hx;have hi:i<(Fc.stepsS W).length:=by rw [<-h2];exact (aq.mp eb).1
  have et:=aa hi;have hb:=h3 i b _ eb et;have tk:(Fc.stepsS W).take (i+1)=(Fc.stepsS W).take i++[(Fc.stepsS W)[i]]:=by rw [ig,et];rfl
  generalize (Fc.stepsS W)[i]=t at *;refine ⟨b,_,rfl,SqT.of (g2 _ _ hb),rfl,_,_,rfl,_,_,rfl,rfl,?_⟩;refine ⟨_,rfl,_,rfl,_,_,rfl,rfl,_,rfl,?_⟩;rw [tk];refine vS (λ z=>?_) (λ z=>?_)
  ·have z:=of_decide_eq_true z
   refine ⟨_,rfl,_,rfl,yS2,λ c nc=>?_⟩;have gc:=kE nc (.tup [vn t.1,vn t.2]);have hc:=kC (H:=H2) (a:=c) (o:=.tup [vn t.1,vn t.2]);have pr3:=pr2.kept gc;have g3:=g2.trans gc;refine (λ (y:upd H2 c (.tup [vn t.1,vn t.2]) c=some (.tup [vn t.1,vn t.2]))=>?_) hc;generalize upd H2 c (.tup [vn t.1,vn t.2])=H3 at *;obtain ⟨cs,c1,c2,c3⟩:=id pr3
   have lc:cs.length<=1764:=by
    rw [c2];have:=og (λ t:Nat×Nat=>decide (t.1<t.2)) ((Fc.stepsS W).take i);rw [eK] at this;omega
   refine ⟨_,c1,(by rw [ao];exact zO (by omega)),?_⟩;refine ⟨_,_,rfl,qW nD g3,?_⟩;rw [jz,tz,if_pos (by exact decide_eq_true (by omega))];exact PairsAt.app (H':=H3) c1 c2 c3 y
  ·have z:¬ (t.1:Int)<(t.2:Int):=λ q=>z (decide_eq_true q)
   refine ⟨_,_,rfl,g2,?_⟩;rw [jz,tz,if_neg (by intro q;have:=of_decide_eq_true q;omega)];simpa using pr2
 ·rintro σ H2 ⟨x0,x1,rfl,g2,pr2⟩
  rw [ao,h2,ji] at pr2;exact k D H2 (g1.trans g2) (g1.free nD) pr2
def pk (t:Nat×Nat):List Key:=[zd (t.1:Int),zd (t.2:Int)]
theorem kLO {a b:Nat×Nat} (h:pk a=pk b):a=b:=by
 unfold pk at h;injection h with h1 h2
 injection h2 with h2 _
 have:=DV h1;have:=DV h2;exact qk (by omega) (by omega)
def SeenAt (H:Hp) (d:av) (X:List (Nat×Nat)):Prop:=∃ kvs:List (List Key×V),H d=some (.dT kvs)/\(∀ t:Nat×Nat,(yA kvs (pk t)).isSome=decide (t∈X))/\kvs.length<=X.length/\∀ y∈kvs,∃ t∈X,y.1=pk t
theorem SeenAt.kept {H H':Hp} {d:av} {X:List (Nat×Nat)} (h:SeenAt H d X) (g:Same H H'):SeenAt H' d X:=by
 obtain ⟨kvs,a,b⟩:=h;exact ⟨kvs,g _ _ a,b⟩
theorem rD {H:Hp} {d:av}:SeenAt (upd H d (.dT [])) d []:=⟨[],kC,λ t=>by simp [yA],bq _,λ y hy=>nomatch hy⟩
theorem sB {kvs:List (List Key×V)} {k:List Key} {v:V} {y:List Key×V} (h:y∈wU kvs k v):y.1=k\/∃ z∈kvs,z.1=y.1:=by
 unfold wU at h
 split at h
 ·obtain ⟨z,hz,rfl⟩:=iO.mp h
  split
  ·exact .inr ⟨z,hz,rfl⟩
  ·exact .inr ⟨z,hz,rfl⟩
 ·rcases bz.mp h with z | z
  ·exact .inr ⟨y,z,rfl⟩
  ·exact .inl (by rw [cy.mp z])
theorem kCU {kvs:List (List Key×V)} {X:List (Nat×Nat)} {t:Nat×Nat} {v:V} (h1:∀ t:Nat×Nat,(yA kvs (pk t)).isSome=decide (t∈X)) (h2:kvs.length<=X.length) (h3:∀ y∈kvs,∃ t∈X,y.1=pk t) :
  (∀ u:Nat×Nat,(yA (wU kvs (pk t) v) (pk u)).isSome=decide (u∈X++[t]))/\(wU kvs (pk t) v).length<=(X++[t]).length/\∀ y∈wU kvs (pk t) v,∃ u∈X++[t],y.1=pk u:=by
 refine ⟨λ u=>?_,?_,λ y hy=>?_⟩
 ·rw [pZ]
  by_cases e:pk u=pk t
  ·rw [if_pos e,kLO e]
   simp
  ·rw [if_neg e,h1 u]
   have:u≠t:=λ z=>e (by rw [z]);simp [this]
 ·have:=wH kvs (pk t) v
  rw [cg,gi];omega
 ·rcases sB hy with e | ⟨z,hz,e⟩
  ·exact ⟨t,by simp,e⟩
  ·obtain ⟨u,hu,eu⟩:=h3 z hz
   exact ⟨u,az _ hu,by rw [<-e,eu]⟩
theorem mZ:∀ (more kvs:List (List Key×V)) (k:List Key),(yA (yH kvs more) k).isSome=((yA kvs k).isSome || (yA more k).isSome)
 | [],kvs,k=>by simp [yH,yA]
 | m::more,kvs,k=>by
  have:=mZ more (wU kvs m.1 m.2) k;unfold yH at this ⊢;rw [ue,this,pZ];by_cases e:m.1=k
  ·rw [if_pos e.symm,jS e]
   simp
  ·rw [if_neg (λ z=>e z.symm),jT e]
theorem nB:∀ (more kvs:List (List Key×V)),(yH kvs more).length<=kvs.length+more.length
 | [],kvs=>bq _
 | m::more,kvs=>by
  have:=nB more (wU kvs m.1 m.2);have:=wH kvs m.1 m.2;unfold yH at *;rw [ue,eX];omega
theorem lJ:∀ (more kvs:List (List Key×V)) (y:List Key×V),y∈yH kvs more->(∃ z∈kvs,z.1=y.1)\/∃ z∈more,z.1=y.1
 | [],kvs,y,h=>.inl ⟨y,h,rfl⟩
 | m::more,kvs,y,h=>by
  have h:y∈yH (wU kvs m.1 m.2) more:=h;rcases lJ more _ y h with ⟨z,hz,e⟩ | ⟨z,hz,e⟩
  ·rcases sB hz with e2 | ⟨z2,hz2,e2⟩
   ·exact .inr ⟨m,eQ ..,by rw [<-e,e2]⟩
   ·exact .inl ⟨z2,hz2,by rw [e2,e]⟩
  ·exact .inr ⟨z,dj _ hz,e⟩
theorem SeenAt.upd {H:Hp} {d:av} {X Y:List (Nat×Nat)} {kvs more:List (List Key×V)} (h1:∀ t:Nat×Nat,(yA kvs (pk t)).isSome=decide (t∈X)) (h2:kvs.length<=X.length) (h3:∀ y∈kvs,∃ t∈X,y.1=pk t)
  (m1:∀ t:Nat×Nat,(yA more (pk t)).isSome=decide (t∈Y)) (m2:more.length<=Y.length) (m3:∀ y∈more,∃ t∈Y,y.1=pk t):SeenAt (L2.upd H d (.dT (yH kvs more))) d (X++Y):=by
 refine ⟨_,kC,λ t=>?_,?_,λ y hy=>?_⟩
 ·rw [mZ,h1,m1,gx,zr,decide_eq_true_iff,decide_eq_true_iff,decide_eq_true_iff,bz]
 ·have:=nB more kvs
  rw [cg];omega
 ·rcases lJ more kvs y hy with ⟨z,hz,e⟩ | ⟨z,hz,e⟩
  ·obtain ⟨u,hu,eu⟩:=h3 z hz
   exact ⟨u,az _ hu,by rw [<-e,eu]⟩
  ·obtain ⟨u,hu,eu⟩:=m3 z hz
   exact ⟨u,bu _ hu,by rw [<-e,eu]⟩
theorem mF {W:Rows} {p q k:Nat} (T:Turns W p q k):Fc.per W (p,q)=k:=Fc.per_is T.pos T.back T.first
theorem kCN {W:Rows} {p q k:Nat} (T:Turns W p q k):orb W p q k=Fc.rnd W (p,q):=by
 unfold orb Fc.rnd;rw [mF T]
def bD:Sp:=λ vs H Q _=>∃ (t:av) (W:Rows),vs=[.ref t]/\WebAt H t W/\Nb W/\W.length<=42 /\
 ∀ (s:av) (H':Hp),Same H H'->H s=none->RowsT H' s (Fc.facesS W)->Q (.ref s) H'
theorem kLI {W:Rows} (S:Nb W) {t:Nat×Nat} (h:t∈kP W):(Fc.rnd W t).map (·.1)≠[]:=λ z=>by
 have:=Fc.rnd_self S h;rw [AH.mp z] at this;cases this
theorem sL {W:Rows} (S:Nb W) {T:List (Nat×Nat)} (hT:∀ t∈T,t∈kP W):∀ f∈(Fc.fgo W T).1,f≠[]:=λ f hf=>by
 obtain ⟨R,r1,r2,_⟩:=(Fc.fgo_ok S T hT).reps;rw [r2] at hf;obtain ⟨r,hr,rfl⟩:=iO.mp hf;exact kLI S (hT r (r1 r hr))
theorem wZ {W:Rows}:∀ t∈Fc.stepsS W,t∈kP W:=λ t h=>(Fc.sortP_perm _).mem_iff.mp h
theorem kII {W:Rows} (S:Nb W) (h:W.length<=42) {t:Nat×Nat} (ht:t∈kP W):t.1<42/\t.2<42:=by
 have:=S.e (mem_steps.mp (show (t.1,t.2)∈kP W from ht));omega
theorem kGH {f:av} {fd:ed} (F:Fun K "faces" "faces" uK f fd) (yU:Own.Has P w K mg base "steps_of" ["web"] 1 (fG)) (jY:Own.Has P w K mg base "steps_round" ["web","step"] 2 (bC)) (z_tuple:mg "tuple" = none) (z_sorted:mg "sorted" = none):FnOk P w K mg base CX0 3 f fd ["web"] (bD):=by
 refine F.ok sc_faces (λ vs H Q E h=>?_) (λ cdv A outer s0 H vs Q E hr h=>?_)
 ·obtain ⟨t,W,rfl,_⟩:=h
  rfl
 obtain ⟨t,W,rfl,hW,S,h42,k⟩:=h
 refine ⟨_,(kF (qB (i:=1) sc_faces.nd rfl (dw rfl) (jH kD))
   (kF (qB (i:=2) sc_faces.nd rfl (dw rfl) kGC)
   (kF (yR iM rfl (yX (Own.pe_has yU (hr.mono (by decide)) rfl (kB (pv 0) kD))) (kQ (i:=3) sc_faces.nd rfl (dw rfl)) (kL (xA (kLM (kDE (kHB hr) (pv 3) (pv 2))) (kF (qB (i:=4) sc_faces.nd rfl (dw rfl) (Own.pe_has jY (hr.mono (by decide)) rfl (kB (pv 0) (kB (pv 3) kD))))
   (kF (jJ (xB PySem.F.plainAttrs_dict BD PySem.F.type_dict_update (kJH (kHB hr)) (pv 2) (kB (kIV (Nc:=["one"]) (js:=[none]) rfl rfl (yX (pv 4)) (CS.of rfl rfl) rfl (λ C s₂ H₂ fp pins=>(kQ (i:=0) (show iz (α:=Str) ["one"] by decide +kernel) rfl (dw rfl))) (λ C s₂ H₂ fp pins D L=>(yY (kIX (kHB hr) (pv 0) zV)))) kD)))
   (kL (jJ (xB eE iH iI jX (pv 1) (kB (qV qM rfl z_tuple fu (kB (wE (Nc:=["p","q"]) (js:=[none,none]) rfl rfl (yX (pv 4)) (CS.of rfl rfl) rfl (λ C s₂ H₂ fp pins=>(show PG _ _ (kHH K 2 _) from xI rfl (kY (kQ (i:=0) (show iz (α:=Str) ["p","q"] by decide +kernel) rfl (dw rfl)) (kY (kQ (i:=1) (show iz (α:=Str) ["p","q"] by decide +kernel) rfl (dw rfl)) jR)))) (λ C s₂ H₂ fp pins D L=>(yY (yD (pv 0))))) kD)) kD)))))) qN)))
   (kL (kS (kN aU rfl z_sorted ug (kB (pv 1) kD))))))),?_⟩
 have l1:=fU S h42;have l0:=bB S h42;refine ⟨yS0,λ l nl=>?_⟩;have gl:=kE nl (.lst []);have hl:=kC (H:=H) (a:=l) (o:=.lst []);refine λ d nd=>?_;have gd:=kE nd (.dT []);have hd:=rD (H:=upd H l (.lst [])) (d:=d);have nld:l≠d:=λ z=>by rw [<-z,hl] at nd;cases nd
 have hl1:=gd _ _ hl;have g1:=gl.trans gd;have nd0:H d=none:=gl.free nd;refine (λ (hd':SeenAt (upd (upd H l (.lst [])) d (.dT [])) d [])=>?_) hd;generalize upd (upd H l (.lst [])) d (.dT [])=H1 at *;refine ⟨_,rfl,t,W,rfl,hW.kept g1,S,h42,λ s H2 g2 ns pr=>?_⟩;obtain ⟨ss,h1,h2,h3⟩:=id pr;have g02:=g1.trans g2;have nsl:s≠l:=λ z=>by rw [z,hl1] at ns;cases ns
 have nsd:s≠d:=λ z=>by obtain ⟨kvs,a,_⟩:=hd';rw [z,a] at ns;cases ns
 refine ⟨s,rfl,⟨_,SqL.of h1⟩,?_⟩
 refine kHI (xs:=ss.map V.ref) (λ i σ H3=>∃ (x3 x4:Option V),σ=[some (.ref t),some (.ref l),some (.ref d),x3,x4]/\(∀ b o,b≠l->b≠d->H2 b=some o->H3 b=some o)/\RowsT H3 l (Fc.fgo W ((Fc.stepsS W).take i)).1/\SeenAt H3 d (Fc.fgo W ((Fc.stepsS W).take i)).2)
  ⟨none,none,rfl,(λ b o _ _ e=>e),⟨[],g2 _ _ hl1,rfl,λ i b t e=>by simp at e⟩,hd'.kept g2⟩ ?_ ?_ ?_
 ·rintro i σ H3 _ ⟨x3,x4,rfl,f3,_⟩
  exact SqL.of (f3 _ _ nsl nsd h1)
 ·rintro i x σ H3 hx ⟨x3,x4,rfl,f3,rt,sn⟩
  rw [bh] at hx;obtain ⟨b,eb,rfl⟩:=eJ.mp hx;have hi:i<(Fc.stepsS W).length:=by rw [<-h2];exact (aq.mp eb).1
  have et:=aa hi;have hb:=h3 i b _ eb et;have tk:(Fc.stepsS W).take (i+1)=(Fc.stepsS W).take i++[(Fc.stepsS W)[i]]:=by rw [ig,et];rfl
  have mt:=wZ _ (gk hi);have fi:=Fc.fgo_ok S ((Fc.stepsS W).take i) λ t h=>wZ t (rj h);have lX:=fi.len;rw [tk,Fc.fgo_snoc]
  have lF:(Fc.fgo W ((Fc.stepsS W).take i)).1.length<=1764:=by
   have:∀ T:List (Nat×Nat),(Fc.fgo W T).1.length<=T.length:=λ T=>by
    have:∀ n,n<=T.length->(Fc.fgo W (T.take n)).1.length<=n:=λ n=>by
     induction n with
     | zero=>intro _;rw [yo];exact bq _
     | succ n ih =>
      intro hn;rw [show T.take (n+1)=T.take n++[T[n]] by rw [ig,aa (by omega)];rfl,Fc.fgo_snoc];have:=ih (by omega);unfold Fc.fstep
      split
      ·omega
      ·rw [cg]
       show _+1<=_;omega
    have:=this T.length (bq _);rwa [ji] at this
   have:=this ((Fc.stepsS W).take i);rw [eK] at this;omega
  generalize (Fc.stepsS W)[i]=u at *;generalize Fc.fgo W ((Fc.stepsS W).take i)=st at *
  have nbl:b≠l:=λ z=>by
   have a:=g2 _ _ hl1;rw [z,a] at hb;cases hb
  have nbd:b≠d:=λ z=>by
   obtain ⟨kvs,a,_⟩:=hd'.kept g2;rw [z,a] at hb;cases hb
  have hb3:=f3 _ _ nbl nbd hb;obtain ⟨kvs,k1,k2,k3,k4⟩:=id sn;refine ⟨_,rfl,_,rfl,d,_,rfl,DGet.t (k:=pk u) k1 hb3,_,rfl,?_⟩;rw [k2 u];unfold Fc.fstep;by_cases c:u∈st.2
  ·rw [decide_eq_true c,if_pos c]
   exact zB ⟨_,_,rfl,f3,rt,sn⟩
  rw [decide_eq_false c,if_neg c];obtain ⟨u1,u2⟩:=u;have hE:Tri.E W u1 u2:=mem_steps.mp mt
  have keepW:WebAt H3 t W:=by
   obtain ⟨ts,q1,q2,q3⟩:=hW.kept g02;have ok:∀ (b:av) (xs:List V),H2 b=some (.tup xs)->H3 b=some (.tup xs):=λ b xs e=>f3 b _ (λ z=>by rw [z,g2 _ _ hl1] at e;cases e) (λ z=>by obtain ⟨kvs,a,_⟩:=hd'.kept g2;rw [z,a] at e;cases e) e;exact ⟨ts,ok _ _ q1,q2,λ j a row e1 e2=>ok _ _ (q3 j a row e1 e2)⟩
  refine aL ⟨_,rfl,_,rfl,t,b,W,u1,u2,rfl,keepW,S,h42,hb3,hE,λ q m H4 g4 T prq=>?_⟩;rw [kCN T] at prq;have few:=T.few;have lm:=mF T;obtain ⟨qs,q1,q2,q3⟩:=id prq
  have lq:(Fc.rnd W (u1,u2)).length=m:=by rw [Fc.rnd_len,lm]
  refine ⟨_,rfl,.inr (.inr (.inl ⟨rfl,.inr ⟨_,g4 _ _ k1⟩⟩)),_,rfl,q,rfl,⟨_,SqL.of q1⟩,λ D nD=>?_⟩;refine xM (xs:=qs.map V.ref) (λ j σ H5=>∃ (x0:Option V),σ=[x0]/\Same H4 H5/\SeenAt H5 D ((Fc.rnd W (u1,u2)).take j)) ⟨none,rfl,kE nD _,rD⟩ ?_ ?_ ?_
  ·rintro j σ H5 _ ⟨x0,rfl,g5,_⟩
   exact SqL.of (g5 _ _ q1)
  ·rintro j v σ H5 hv ⟨x0,rfl,g5,sD⟩
   rw [bh] at hv;obtain ⟨c',ec,rfl⟩:=eJ.mp hv;have hj:j<(Fc.rnd W (u1,u2)).length:=by rw [<-q2];exact (aq.mp ec).1
   have ej:=aa hj;have hc:=g5 _ _ (q3 j c' _ ec ej);have tkj:(Fc.rnd W (u1,u2)).take (j+1)=(Fc.rnd W (u1,u2)).take j++[(Fc.rnd W (u1,u2))[j]]:=by rw [ig,ej];rfl
   rw [tkj];generalize (Fc.rnd W (u1,u2))[j]=y at *;obtain ⟨dv,d1,d2,d3,d4⟩:=sD;have ld:dv.length<=1764:=by rw [eK] at d3;omega
   refine ⟨_,rfl,_,DPut.t (k:=pk y) d1 hc (zO (by omega)),?_⟩;obtain ⟨a1,a2,a3⟩:=kCU (t:=y) (v:=.bl true) d2 d3 d4;exact ⟨_,rfl,qW nD g5,⟨_,kC,a1,a2,a3⟩⟩
  ·rintro σ H5 ⟨x0,rfl,g5,sD⟩
   rw [ao,q2,ji] at sD;obtain ⟨dv,d1,d2,d3,d4⟩:=sD;have g45:=g4.trans g5;have k15:=g45 _ _ k1;have nDd:d≠D:=λ z=>by rw [<-z,g4 _ _ k1] at nD;cases nD
   refine ⟨d,D,kvs,dv,rfl,rfl,nDd,k15,d1,(λ y hy=>?_),?_,?_⟩
   ·obtain ⟨v,hv,e⟩:=d4 y hy
    have:=kII S h42 (Fc.rnd_sub S mt hv);exact ⟨v.1,v.2,e,this.1,this.2⟩
   ·have:kvs.length+dv.length<=20000:=by omega
    exact jj (zO this)
   have sn6:=SeenAt.upd (H:=H5) (d:=d) k2 k3 k4 d2 d3 d4;have f6:∀ b o,b≠d->H3 b=some o->upd H5 d (.dT (yH kvs dv)) b=some o:=λ b o nb e=>by rw [kO nb];exact g45 _ _ e
   have q16:upd H5 d (.dT (yH kvs dv)) q=some (.lst (qs.map V.ref)):=by
    rw [kO (vR (g5 _ _ q1) k15 (by simp))];exact g5 _ _ q1
   have q36:∀ (i:Nat) (b:av) (t:Nat×Nat),qs[i]?=some b->(Fc.rnd W (u1,u2))[i]?=some t->upd H5 d (.dT (yH kvs dv)) b=some (.tup [vn t.1,vn t.2]):=λ i b t e1 e2=>by
    have:=g5 _ _ (q3 i b t e1 e2);rw [kO (vR this k15 (by simp))];exact this
   obtain ⟨ls,r1,r2,r3⟩:=id rt;have r16:upd H5 d (.dT (yH kvs dv)) l=some (.lst (ls.map V.ref)):=f6 l _ nld r1
   have r36:∀ (i:Nat) (b:av) (t:List Nat),ls[i]?=some b->st.1[i]?=some t->upd H5 d (.dT (yH kvs dv)) b=some (.tup (t.map vn)):=λ i b t e1 e2=>by
    have:=r3 i b t e1 e2;exact f6 b _ (vR this k1 (by simp)) this
   have f36:∀ b o,b≠l->b≠d->H2 b=some o->upd H5 d (.dT (yH kvs dv)) b=some o:=λ b o n1 n2 e=>f6 b o n2 (f3 b o n1 n2 e)
   generalize upd H5 d (.dT (yH kvs dv))=H6 at *
   refine ⟨_,rfl,.inl ⟨rfl,_,SqL.of r16⟩,_,rfl,q,rfl,⟨_,SqL.of q16⟩,λ D2 nD2=>?_⟩;refine xM (xs:=qs.map V.ref) (λ j σ H7=>∃ (x0 x1:Option V),σ=[x0,x1]/\Same H6 H7/\H7 D2=some (.lst ((((Fc.rnd W (u1,u2)).take j).map (·.1)).map vn))) ⟨none,none,rfl,kE nD2 _,kC⟩ ?_ ?_ ?_
   ·rintro j σ H7 _ ⟨x0,x1,rfl,g7,_⟩
    exact SqL.of (g7 _ _ q16)
   ·rintro j v σ H7 hv ⟨x0,x1,rfl,g7,hD2⟩
    rw [bh] at hv;obtain ⟨c',ec,rfl⟩:=eJ.mp hv;have hj:j<(Fc.rnd W (u1,u2)).length:=by rw [<-q2];exact (aq.mp ec).1
    have ej:=aa hj;have hc:=g7 _ _ (q36 j c' _ ec ej);have tkj:(Fc.rnd W (u1,u2)).take (j+1)=(Fc.rnd W (u1,u2)).take j++[(Fc.rnd W (u1,u2))[j]]:=by rw [ig,ej];rfl
    rw [tkj];generalize (Fc.rnd W (u1,u2))[j]=y at *;refine ⟨c',_,rfl,SqT.of hc,rfl,_,_,rfl,_,_,rfl,rfl,?_⟩;refine ⟨_,rfl,_,hD2,(by rw [ao,ao,eK];exact zO (by omega)),?_⟩;refine ⟨_,_,rfl,qW nD2 g7,?_⟩;rw [eI,eI];exact kC
   ·rintro σ H7 ⟨x0,x1,rfl,g7,hD2⟩
    rw [ao,q2,ji] at hD2;refine ⟨D2,_,rfl,.inl ⟨SqL.of hD2,λ f nf=>?_⟩⟩;have gf:=kE nf (.tup (((Fc.rnd W (u1,u2)).map (·.1)).map vn));have g8:=g7.trans gf;have hf:=kC (H:=H7) (a:=f) (o:=.tup (((Fc.rnd W (u1,u2)).map (·.1)).map vn));generalize hH8:upd H7 f (.tup (((Fc.rnd W (u1,u2)).map (·.1)).map vn))=H8 at *;have r18:=g8 _ _ r16;have r38:∀ (i:Nat) (b:av) (t:List Nat),ls[i]?=some b->st.1[i]?=some t->H8 b=some (.tup (t.map vn)):=λ i b t e1 e2=>g8 _ _ (r36 i b t e1 e2);refine ⟨l,_,_,rfl,rfl,r18,(by rw [ao,r2];exact zO (by omega)),?_⟩;refine ⟨_,_,rfl,(λ b o n1 n2 e=>by rw [kO n1];exact g8 _ _ (f36 b o n1 n2 e)),RowsT.app r18 r2 r38 hf,?_⟩;obtain ⟨kv6,z1,z2⟩:=sn6.kept g8;exact ⟨kv6,by rw [kO nld.symm];exact z1,z2⟩
 ·rintro σ H3 ⟨x3,x4,rfl,f3,rt,sn⟩
  rw [ao,h2,ji] at rt;obtain ⟨ps,e1,e2,e3⟩:=mI rt (sL S wZ);have g03:Same H H3:=λ b o e=>f3 b o (kH e nl) (kH e nd0) (g02 b o e);refine ⟨_,rfl,l,ps,rfl,.inl (SqL.of e1),e2,λ l' ps' nl' pm sr=>?_⟩;exact k l' _ (g03.trans (kE nl' _)) (g03.free nl') (e3 l' ps' nl' pm sr)
def tM:Sp:=λ vs H Q _=>∃ (t:av) (W:Rows),vs=[.ref t]/\WebAt H t W/\Nb W/\W.length<=42 /\
 ∀ (H':Hp),Same H H'->Q (.bl (decide (W.length+(Fc.facesS W).length=(Fc.tiesS W).length+2))) H'
theorem kAE {f:av} {fd:ed} (F:Fun K "is_flat" "is_flat" zJ f fd) (zE:Own.Has P w K mg base "faces" ["web"] 3 (bD)) (kAQ:Own.Has P w K mg base "ties" ["web"] 2 (tJ)) (z_len:mg "len" = none):FnOk P w K mg base CX0 4 f fd ["web"] (tM):=by
 refine F.ok tQ (λ vs H Q E h=>?_) (λ cdv A outer s0 H vs Q E hr h=>?_)
 ·obtain ⟨t,W,rfl,_⟩:=h
  rfl
 obtain ⟨t,W,rfl,hW,S,h42,k⟩:=h;refine ⟨_,(kL (kS (uM gN (kX qO (kN kM rfl z_len di (kB (pv 0) kD)) (kN kM rfl z_len di (kB (Own.pe_has zE (hr.mono (by decide)) rfl (kB (pv 0) kD)) kD))) (kX qO (kN kM rfl z_len di (kB (Own.pe_has kAQ (hr.mono (by decide)) rfl (kB (pv 0) kD)) kD)) kK) (qK _)))),?_⟩;obtain ⟨ts,h1,lts,h3⟩:=id hW;refine ⟨_,rfl,t,_,rfl,.inr (SqT.of h1),_,rfl,t,W,rfl,hW,S,h42,λ s H1 g1 ns rt=>?_⟩;obtain ⟨ss,r1,r2,_⟩:=rt;refine ⟨s,_,rfl,.inl (SqL.of r1),_,_,rfl,rfl,_,rfl,t,W,rfl,hW.kept g1,S,h42,λ u H2 g2 nu pr=>?_⟩;obtain ⟨us,p1,p2,_⟩:=pr;refine ⟨u,_,rfl,.inl (SqL.of p1),_,_,rfl,rfl,rfl,?_⟩
 have e:decide (V.int (((ts.map V.ref).length:Int)+((ss.map V.ref).length:Int))=V.int (((us.map V.ref).length:Int)+2))=decide (W.length+(Fc.facesS W).length=(Fc.tiesS W).length+2):=by
  rw [gx,decide_eq_true_iff,decide_eq_true_iff,ao,ao,ao,lts,r2,p2];constructor
  ·intro z
   have:=V.int.inj z;omega
  ·intro z
   congr 1
   omega
 rw [e];exact k H2 (g1.trans g2)
def fV:Sp:=λ vs H Q _=>∃ (n:Nat),vs=[vn n]/\Q (.bl true) H
theorem rT {f:av} {fd:ed} (F:Fun K "is_whole" "is_whole" yP f fd) (z_isinstance:mg "isinstance" = none) (z_bool:mg "bool" = none) (z_int:mg "int" = none):FnOk P w K mg base CX0 1 f fd ["thing"] (fV):=by
 refine F.ok rF (λ vs H Q E h=>?_) (λ cdv A outer s0 H vs Q E hr h=>?_)
 ·obtain ⟨n,rfl,_⟩:=h
  rfl
 obtain ⟨n,rfl,q⟩:=h;refine ⟨_,(kL (kS (gL (kN Own.call_isi rfl z_isinstance vd (kB (pv 0) (kB (oM (v:=.ty "int") rfl z_int FN rfl) kD))) (tY (kLQ (kN Own.call_isi rfl z_isinstance vd (kB (pv 0) (kB (oM (v:=.ty "bool") rfl z_bool FJ rfl) kD)))))))),?_⟩;exact ⟨_,rfl,_,_,_,_,rfl,.int _,rfl,_,rfl,aL ⟨_,rfl,_,_,_,_,rfl,.int _,rfl,_,rfl,q⟩⟩
def nW:Sp:=λ vs H Q _=>∃ (a:av) (ns:List Nat),vs=[.ref a,vn ns.length]/\H a=some (.tup (ns.map vn))/\ns.length<=1000/\∀ H',Same H H'->Q (.bl true) H'
theorem oU {f:av} {fd:ed} (F:Fun K "are_whole" "are_whole" xS f fd) (aQ:Own.Has P w K mg base "is_whole" ["thing"] 1 (fV)) (z_all:mg "all" = none) (z_len:mg "len" = none) (z_isinstance:mg "isinstance" = none) (z_tuple:mg "tuple" = none):FnOk P w K mg base CX0 2 f fd ["thing","many"] (nW):=by
 refine F.ok oD (λ vs H Q E h=>?_) (λ cdv A outer s0 H vs Q E hr h=>?_)
 ·obtain ⟨a,ns,rfl,_⟩:=h
  rfl
 obtain ⟨a,ns,rfl,e,l,k⟩:=h;refine ⟨_,(kL (kS (gL (kN Own.call_isi rfl z_isinstance vd (kB (pv 0) (kB (oM (v:=.ty "tuple") rfl z_tuple fu rfl) kD))) (gL (uM gN (kN kM rfl z_len di (kB (pv 0) kD)) (pv 1) (qK _)) (tY (kN (nH rfl) rfl z_all Bl (kB (wE (Nc:=["one"]) (js:=[none]) rfl rfl (tV (pv 0)) (CS.of rfl rfl) rfl (λ C s₂ H₂ fp pins=>(kQ (i:=0) (show iz (α:=Str) ["one"] by decide +kernel) rfl (dw rfl))) (λ C s₂ H₂ fp pins D L=>(yY (yD (Own.pe_has aQ (hr.mono (by decide)) rfl (kB (pv 0) kD)))))) kD))))))),?_⟩;refine ⟨_,rfl,_,_,_,_,rfl,.tup e,rfl,_,rfl,aL ⟨_,rfl,a,_,rfl,.inr (SqT.of e),_,rfl,rfl,_,rfl,?_⟩⟩;rw [decide_eq_true (show V.int (((ns.map vn).length:Nat):Int)=vn ns.length by rw [ao];rfl)];refine aL ⟨_,rfl,a,rfl,⟨_,SqT.of e⟩,λ D nD=>?_⟩;refine fQ (xs:=ns.map vn) (λ n σ H1=>∃ (u:Option V),σ=[u]/\H1 D=some (.lst ((fh n true).map V.bl))/\Same H H1) ⟨none,rfl,kC,kE nD _⟩ ?_ ?_ ?_
 ·rintro n σ H1 _ ⟨u,rfl,hD,g⟩
  exact SqT.of (g _ _ e)
 ·rintro n v σ H1 hv ⟨u,rfl,hD,g⟩
  have hn:=(aq.mp hv).1;rw [ao] at hn;rw [bh] at hv;obtain ⟨x,_,rfl⟩:=eJ.mp hv;refine ⟨_,rfl,x,rfl,_,hD,(by rw [ao,vg];exact kR (by omega)),?_⟩;exact ⟨_,rfl,(by rw [List.replicate_succ',eI];exact kC),qW nD g⟩
 ·rintro σ H1 ⟨u,rfl,hD,g⟩
  refine ⟨D,_,rfl,SqL.of hD,?_⟩
  have:(fh (ns.map vn).length true).all id=true:=by
   rw [sh];intro x hx;rw [List.eq_of_mem_replicate hx]
   rfl
  rw [this];exact k H1 g
structure Tr (W:Rows):Prop where
 nb:Nb W
 le:W.length<=42
 three:∀ t∈kP W,(nxt W (nxt W t)).2=t.1
 cnt:(kP W).length+12=6*W.length
theorem Tr.flat {W:Rows} (T:Tr W):W.length+(Fc.facesS W).length=(Fc.tiesS W).length+2:=((Fc.three_cornered T.nb).mpr ⟨T.three,T.cnt⟩).1
theorem Tr.faces {W:Rows} (T:Tr W):∀ f∈Fc.facesS W,f.length=3:=((Fc.three_cornered T.nb).mpr ⟨T.three,T.cnt⟩).2
theorem Tr.turns {W:Rows} (T:Tr W) {p q k:Nat} (hE:Tri.E W p q) (Y:Turns W p q k):orb W p q k=[(p,q),(q,(nxt W (p,q)).2),((nxt W (p,q)).2,p)]:=by
 have hs:(p,q)∈kP W:=mem_steps.mpr hE;have ne:p≠q:=λ z=>(T.nb.e hE).2.2 z.symm;have t2:=T.three _ hs;have t3:=T.three _ (mem_steps.mpr (kBS T.nb hE 1):((nxt W (p,q)).1,(nxt W (p,q)).2)∈kP W);have e1:nxt W (p,q)=(q,(nxt W (p,q)).2):=rfl;have e2:nxt W (nxt W (p,q))=((nxt W (p,q)).2,p):=qk rfl t2;have e3:nxt W (nxt W (nxt W (p,q)))=(p,q):=qk t2 t3
 have k3:k=3:=by
  rcases yk k 3 with h | h | h
  ·exfalso
   have b:=Y.back;have:=Y.pos;have:k=1\/k=2:=by omega
   rcases this with rfl | rfl
   ·have b:nxt W (p,q)=(p,q):=b
    have:=congrArg Ab b;exact ne this.symm
   ·have b:nxt W (nxt W (p,q))=(p,q):=b
    rw [e2] at b;exact ne (congrArg BH b)
  ·exact h
  ·exact absurd e3 (Y.first 3 (by decide) h)
 subst k3;show [(p,q),nxt W (p,q),nxt W (nxt W (p,q))]=_;rw [e2]
 rfl
def aH (T:List (Nat×Nat)):BQ:=.list (T.map λ t=>prD t.1 t.2)
theorem kDF (T:List (Nat×Nat)):jm (T.map λ t=>prD t.1 t.2)=true/\kr (T.map λ t=>prD t.1 t.2)<=1:=by
 induction T with
 | nil=>exact ⟨rfl,by decide⟩
 | cons t T ih =>
  have h1:kq (prD t.1 t.2)=true:=by simp [prD,kq,jm]
  have h2:ou (prD t.1 t.2)<=1:=by simp [prD,ou,kr]
  simp only [ft,jm,kr,h1,ih.1];have:=ih.2;refine ⟨rfl,?_⟩;omega
theorem mL (T:List (Nat×Nat)):mj (aH T)=true:=by
 obtain ⟨h1,h2⟩:=kDF T;unfold aH mj;simp only [kq,ou,h1]
 first | (simp;omega) | (rw [eZ];exact ⟨rfl,decide_eq_true (by omega)⟩) | simp_all
theorem PairsAt.dt {H:Hp} {s:av} {T:List (Nat×Nat)} (h:PairsAt H s T):Dt K H (aH T) (.ref s):=by
 obtain ⟨ss,h1,h2,h3⟩:=h;unfold aH Dt;exact ⟨s,_,rfl,SqL.of h1,sO h2 h3⟩
theorem tZ:∀ (T U:List (Nat×Nat)),iw (aH T) (aH U)=decide (T=U):=by
 have go:∀ (T U:List (Nat×Nat)),iR (T.map λ t=>prD t.1 t.2) (U.map λ t=>prD t.1 t.2)=decide (T=U):=λ T=>by
  induction T with
  | nil=>intro U;cases U<;>simp [iR]
  | cons t T ih =>
   intro U
   cases U with
   | nil=>simp [iR]
   | cons u U =>
    rw [ft,ft,iR,kBG,ih U,gx,eZ,decide_eq_true_iff,decide_eq_true_iff,decide_eq_true_iff];constructor
    ·rintro ⟨⟨h1,h2⟩,rfl⟩
     rw [show t=u from qk h1 h2]
    ·intro h
     injection h with h1 h2
     exact ⟨⟨congrArg _ h1,congrArg _ h1⟩,h2⟩
 intro T U;unfold aH;rw [iw];exact go T U
def nX:Sp:=λ vs H Q _=>∃ (w:av) (W:Rows) (a c b:Nat),vs=[.ref w,vn a,vn c,vn b]/\WebAt H w W/\Tr W/\Tri.E W a c/\∀ H',Same H H'->Q (.bl (decide ((nxt W (a,c)).2=b))) H'
theorem oV {f:av} {fd:ed} (F:Fun K "are_round" "are_round" xU f fd) (jY:Own.Has P w K mg base "steps_round" ["web","step"] 2 (bC)):FnOk P w K mg base CX0 3 f fd ["web","p","q","r"] (nX):=by
 refine F.ok oE (λ vs H Q E h=>?_) (λ cdv A outer s0 H vs Q E hr h=>?_)
 ·obtain ⟨w,W,a,c,b,rfl,_⟩:=h
  rfl
 obtain ⟨w,W,a,c,b,rfl,hW,T,hE,k⟩:=h;refine ⟨_,(kL (kS (uM (kAB hr.units) (Own.pe_has jY (hr.mono (by decide)) rfl (kB (pv 0) (kB (jZ (kB (pv 1) (kB (pv 2) kD))) kD))) (jH (kB (jZ (kB (pv 1) (kB (pv 2) kD))) (kB (jZ (kB (pv 2) (kB (pv 3) kD))) (kB (jZ (kB (pv 3) (kB (pv 1) kD))) kD)))) (qK _)))),?_⟩;refine ⟨_,rfl,_,rfl,_,rfl,yS2,λ z nz=>?_⟩;have gz:=kE nz (.tup [vn a,vn c]);have hz:=kC (H:=H) (a:=z) (o:=.tup [vn a,vn c]);refine ⟨w,z,W,a,c,rfl,hW.kept gz,T.nb,T.le,hz,hE,λ s m H1 g1 Y pr=>?_⟩;rw [T.turns hE Y] at pr;have g01:=gz.trans g1;refine ⟨_,rfl,_,rfl,yS2,λ u1 n1=>⟨_,rfl,_,rfl,yS2,λ u2 n2=>⟨_,rfl,_,rfl,yS2,λ u3 n3=>⟨yS3,λ u n4=>?_⟩⟩⟩⟩;have k1:=kE n1 (.tup [vn a,vn c]);have k2:=kE n2 (.tup [vn c,vn b]);have k3:=kE n3 (.tup [vn b,vn a]);have k4:=kE n4 (.lst [.ref u1,.ref u2,.ref u3]);have q1:=k4 _ _ (k3 _ _ (k2 _ _ (kC (H:=H1) (a:=u1) (o:=.tup [vn a,vn c]))));have q2:=k4 _ _ (k3 _ _ (kC (H:=upd H1 u1 (.tup [vn a,vn c])) (a:=u2) (o:=.tup [vn c,vn b])));have q3:=k4 _ _ (kC (H:=upd (upd H1 u1 (.tup [vn a,vn c])) u2 (.tup [vn c,vn b])) (a:=u3) (o:=.tup [vn b,vn a]));have q4:=kC (H:=upd (upd (upd H1 u1 (.tup [vn a,vn c])) u2 (.tup [vn c,vn b])) u3 (.tup [vn b,vn a])) (a:=u) (o:=.lst [.ref u1,.ref u2,.ref u3]);have kk:=k1.trans (k2.trans (k3.trans k4))
 have pu:PairsAt (upd (upd (upd (upd H1 u1 (.tup [vn a,vn c])) u2 (.tup [vn c,vn b])) u3 (.tup [vn b,vn a])) u (.lst [.ref u1,.ref u2,.ref u3])) u [(a,c),(c,b),(b,a)] :=
  ⟨[u1,u2,u3],q4,rfl,λ i d t e1 e2=>by
   match i with
   | 0=>cases e1;cases e2;exact q1
   | 1=>cases e1;cases e2;exact q2
   | 2=>cases e1;cases e2;exact q3
   | i+3=>simp at e1⟩
 refine ⟨_,_,(pr.kept kk).dt,pu.dt,mL _,mL _,?_⟩;rw [if_neg (by decide),tZ]
 have e:decide ([(a,c),(c,(nxt W (a,c)).2),((nxt W (a,c)).2,a)]=[(a,c),(c,b),(b,a)])=decide ((nxt W (a,c)).2=b):=by
  rw [gx,decide_eq_true_iff,decide_eq_true_iff];constructor
  ·intro h
   injection h with _ h
   injection h with h _
   exact congrArg BH h
  ·intro h
   rw [h]
 rw [e];exact k _ (g01.trans kk)
def aF:Sp:=λ vs H Q _=>∃ (t:av) (W:Rows),vs=[.ref t]/\WebAt H t W/\Tr W/\∀ H',Same H H'->Q .non H'
theorem fD {f:av} {fd:ed} (F:Fun K "must_be_flat" "must_be_flat" jL f fd) (dL:Own.Has P w K mg base "is_flat" ["web"] 4 (tM)):FnOk P w K mg base CX0 5 f fd ["web"] (aF):=by
 refine F.ok dZ (λ vs H Q E h=>?_) (λ cdv A outer s0 H vs Q E hr h=>?_)
 ·obtain ⟨t,W,rfl,_⟩:=h
  rfl
 obtain ⟨t,W,rfl,hW,T,k⟩:=h;refine ⟨_,(kL (xA (zU (zQ (Own.pe_has dL (hr.mono (by decide)) rfl (kB (pv 0) kD)))) (kL fJ) qN)),?_⟩;refine ⟨_,rfl,t,W,rfl,hW,T.nb,T.le,λ H1 g1=>⟨_,rfl,?_⟩⟩;rw [decide_eq_true T.flat];exact zB (k H1 g1)
def fW:Sp:=λ vs H Q _=>∃ (t:av) (W:Rows),vs=[.ref t]/\WebAt H t W/\Tr W/\∀ H',Same H H'->Q .non H'
theorem aI {f:av} {fd:ed} (F:Fun K "uncornered_face" "uncornered_face" qS f fd) (zE:Own.Has P w K mg base "faces" ["web"] 3 (bD)) (z_len:mg "len" = none):FnOk P w K mg base CX0 4 f fd ["web"] (fW):=by
 refine F.ok sc_uncornered_face (λ vs H Q E h=>?_) (λ cdv A outer s0 H vs Q E hr h=>?_)
 ·obtain ⟨t,W,rfl,_⟩:=h
  rfl
 obtain ⟨t,W,rfl,hW,T,k⟩:=h
 refine ⟨_,(kF (fI (i:=1) (Nc:=["face"]) (js:=[none]) rfl rfl sc_uncornered_face.nd rfl (dw rfl) (yX (Own.pe_has zE (hr.mono (by decide)) rfl (kB (pv 0) kD))) (CS.of rfl rfl) rfl (λ C s₂ H₂ fp pins=>(kQ (i:=0) (show iz (α:=Str) ["face"] by decide +kernel) rfl (dw rfl))) (λ C s₂ H₂ fp pins D L=>(zR (qD uX (kN (show xH _ _ (λ xs H Q=>∃ p ys,xs=[.ref p]/\(SqL K H p ys\/SqT K H p ys)/\Q (.int ys.length) H) from kM) rfl z_len di (kB (pv 0) kD)) kK (qK _)) (yD (pv 0)))))
   (kL (kS (kGB (kFW (pv 1) (λ _=>rfl)) (kU kZ (pv 1) kK (λ _ _=>rfl)) vC)))),?_⟩
 refine ⟨_,rfl,t,W,rfl,hW,T.nb,T.le,λ s H1 g1 ns rt=>?_⟩;obtain ⟨ss,h1,h2,h3⟩:=id rt;refine ⟨s,rfl,⟨_,SqL.of h1⟩,λ D nD=>?_⟩
 refine xM (xs:=ss.map V.ref) (λ i σ H2=>∃ (x0:Option V),σ=[x0]/\Same H1 H2/\H2 D=some (.lst []))
  ⟨none,rfl,kE nD _,kC⟩ ?_ ?_ ?_
 ·rintro i σ H2 _ ⟨x0,rfl,g2,_⟩
  exact SqL.of (g2 _ _ h1)
 ·rintro i x σ H2 hx ⟨x0,rfl,g2,hD⟩
  rw [bh] at hx;obtain ⟨b,eb,rfl⟩:=eJ.mp hx;have hi:i<(Fc.facesS W).length:=by rw [<-h2];exact (aq.mp eb).1
  have et:=aa hi;have hb:=h3 i b _ eb et;have l3:=T.faces _ (gk hi);refine ⟨_,rfl,b,_,rfl,.inr (SqT.of (g2 _ _ hb)),rfl,_,rfl,?_⟩;rw [ao,l3];exact zB ⟨_,rfl,g2,hD⟩
 ·rintro σ H2 ⟨x0,rfl,g2,hD⟩
  exact ⟨_,rfl,false,.inl ⟨_,SqL.of hD,rfl⟩,k H2 (g1.trans g2)⟩
def nV:Sp:=λ vs H Q _=>∃ (w z:av) (W:Rows) (a b c:Nat),vs=[.ref w,.ref z]/\WebAt H w W/\Tr W/\H z=some (.tup [vn a,vn b,vn c])/\Tri.E W a c/\(nxt W (a,c)).2=b/\∀ H',Same H H'->Q (.bl true) H'
theorem kAF {f:av} {fd:ed} (F:Fun K "is_base" "is_base" zK f fd) (xX:Own.Has P w K mg base "are_whole" ["thing","many"] 2 (nW)) (xY:Own.Has P w K mg base "are_round" ["web","p","q","r"] 3 (nX)) (z_len:mg "len" = none):FnOk P w K mg base CX0 4 f fd ["web","thing"] (nV):=by
 refine F.ok sc_is_base (λ vs H Q E h=>?_) (λ cdv A outer s0 H vs Q E hr h=>?_)
 ·obtain ⟨w,z,W,a,b,c,rfl,_⟩:=h
  rfl
 obtain ⟨w,z,W,a,b,c,rfl,hW,T,hz,hE,hn,k⟩:=h
 refine ⟨_,(kF (xA (zU (zQ (Own.pe_has xX (hr.mono (by decide)) rfl (kB (pv 1) (kB kK kD))))) (kL (kS zV)) qN)
   (kF (vB (pv 1) (xI rfl (kY (kQ (i:=2) sc_is_base.nd rfl (dw rfl)) (kY (kQ (i:=3) sc_is_base.nd rfl (dw rfl)) (kY (kQ (i:=4) sc_is_base.nd rfl (dw rfl)) jR)))))
   (kL (kS (gL (kGD kNQ kGF kK (pv 2) (kN kM rfl z_len di (kB (pv 0) kD))) (gL (uM wV (pv 4) (kU qH (pv 0) (pv 2) (λ _ _=>rfl)) rfl) (tY (Own.pe_has xY (hr.mono (by decide)) rfl (kB (pv 0) (kB (pv 2) (kB (pv 4) (kB (pv 3) kD)))))))))))),?_⟩
 refine ⟨_,rfl,z,[a,b,c],rfl,hz,(by show 3<=1000;decide),λ H1 g1=>⟨_,rfl,zB ?_⟩⟩;have hz1:=g1 _ _ hz;have W1:=hW.kept g1;obtain ⟨ts,h1,lts,h3⟩:=W1.at;obtain ⟨row,er,m⟩:=id hE;obtain ⟨b',e1,e2⟩:=h3 a row er;have la:=(T.nb.e hE).1;refine ⟨_,rfl,z,_,rfl,SqT.of hz1,rfl,_,_,rfl,_,_,rfl,_,_,rfl,rfl,?_⟩;refine ⟨_,rfl,_,_,rfl,rfl,_,rfl,?_⟩;rw [decide_eq_true (show (0:Int)<=(a:Int) by omega)];refine aL ⟨_,rfl,w,_,rfl,.inr (SqT.of h1),_,_,rfl,rfl,_,rfl,?_⟩;rw [decide_eq_true (show (a:Int)<(((ts.map V.ref).length:Nat):Int) by rw [ao,lts];omega)];refine aL ⟨_,rfl,_,rfl,_,rfl,w,_,_,_,rfl,rfl,SqT.of h1,e1,b',_,rfl,.inr (SqT.of e2),rfl,zZ _,_,rfl,?_⟩;rw [vJ,decide_eq_true m];refine aL ⟨_,rfl,_,rfl,_,rfl,_,rfl,w,W,a,c,b,rfl,W1,T,hE,λ H2 g2=>?_⟩;rw [decide_eq_true hn];exact k _ (g1.trans g2)
def vA:Sp:=λ vs H Q _=>∃ (w z:av) (W:Rows) (a b c:Nat),vs=[.ref w,.ref z]/\WebAt H w W/\Tr W/\H z=some (.tup [vn a,vn b,vn c])/\Tri.E W a c/\(nxt W (a,c)).2=b/\∀ H',Same H H'->Q .non H'
theorem bK {f:av} {fd:ed} (F:Fun K "must_have_base" "must_have_base" jA f fd) (zX:Own.Has P w K mg base "must_be_flat" ["web"] 5 (aF)) (yE:Own.Has P w K mg base "uncornered_face" ["web"] 4 (fW)) (dM:Own.Has P w K mg base "is_base" ["web","thing"] 4 (nV)):FnOk P w K mg base CX0 6 f fd ["web","base"] (vA):=by
 refine F.ok sc_must_have_base (λ vs H Q E h=>?_) (λ cdv A outer s0 H vs Q E hr h=>?_)
 ·obtain ⟨w,z,W,a,b,c,rfl,_⟩:=h
  rfl
 obtain ⟨w,z,W,a,b,c,rfl,hW,T,hz,hE,hn,k⟩:=h
 refine ⟨_,(kF (jJ (Own.pe_has zX (hr.mono (by decide)) rfl (kB (pv 0) kD)))
   (kF (qB (i:=2) sc_must_have_base.nd rfl (dw rfl) (Own.pe_has yE (hr.mono (by decide)) rfl (kB (pv 0) kD)))
   (kF (xA (qD kIY (pv 2) vC (qK _)) (kL fJ) qN)
   (kL (xA (zU (zQ (Own.pe_has dM (hr.mono (by decide)) rfl (kB (pv 0) (kB (pv 1) kD))))) (kL fJ) qN))))),?_⟩
 refine ⟨_,rfl,w,W,rfl,hW,T,λ H1 g1=>?_⟩;refine ⟨_,rfl,w,W,rfl,hW.kept g1,T,λ H2 g2=>?_⟩;refine ⟨_,rfl,rfl,_,rfl,zB ?_⟩;refine ⟨_,rfl,_,rfl,w,z,W,a,b,c,rfl,(hW.kept g1).kept g2,T,g2 _ _ (g1 _ _ hz),hE,hn,λ H3 g3=>⟨_,rfl,zB ?_⟩⟩;exact k H3 (g1.trans (g2.trans g3))
theorem kCK {k1 k2:Bool} {K:cf} {a b:av} {xs ys:List V} {g:TG} {bd:TB} {N0:St->Hp->Prop} {σ:St} {H:Hp} (Pv:Nat->St->Hp->Prop) (hxy:ys.length<xs.length) (h0:Pv 0 σ H)
  (hl:∀ i σ H,i<=ys.length->Pv i σ H->SqX K k1 H a xs/\SqX K k2 H b ys)
  (hs:∀ i x y T σ H,xs[i]?=some x->ys[i]?=some y->H T=none->Pv i σ H->g (.ref T) σ (upd H T (.tup [x,y])) λ σ2 H2=>bd (Pv (i+1)) σ2 H2) (hd:∀ σ H,Pv ys.length σ H->N0 σ H):uW (kMV k1 k2 K a b) g bd N0 σ H:=by
 refine ⟨λ i m σ H=>m=ys.length-i/\i<=ys.length/\Pv i σ H,⟨ys.length,by simp,gm _,h0⟩,?_⟩;rintro i m σ H ⟨rfl,hle,p⟩;obtain ⟨q1,q2⟩:=hl i σ H hle p;rcases fe i ys.length with hi | hi
 ·refine .inr ⟨⟨xs,ys,xs[i]'(by omega),ys[i],q1,q2,by simp [show i<xs.length by omega],by simp [hi]⟩,Pv (i+1),λ σ' H' q=>⟨ys.length-(i+1),by omega,rfl,by omega,q⟩,λ x H' hy=>?_⟩
  obtain ⟨T,x1,x2,nT,rfl,e1,e2,rfl⟩:=hy;exact hs i x1 x2 T σ H (e1 xs q1) (e2 ys q2) nT p
 ·obtain rfl:i=ys.length:=by omega
  exact .inl ⟨⟨xs,ys,xs[ys.length]'(by omega),q1,q2,by simp [hxy],rfl⟩,hd σ H p⟩
def wG (ns:List Nat):BQ:=.list (ns.map λ n:Nat=>ju (n:Int))
def uS (ns:List Nat):BQ:=.tuple (ns.map λ n:Nat=>ju (n:Int))
theorem mT (T:List Nat):jm (T.map λ n:Nat=>ju (n:Int))=true/\kr (T.map λ n:Nat=>ju (n:Int))<=1:=by
 induction T with
 | nil=>exact ⟨rfl,by decide⟩
 | cons t T ih =>
  simp only [ft,jm,kr,kq,ou,ih.1];have:=ih.2;refine ⟨rfl,?_⟩;omega
theorem bO (T:List Nat):mj (wG T)=true:=by
 obtain ⟨h1,h2⟩:=mT T;unfold wG mj;simp only [kq,ou,h1]
 first | (simp;omega) | (rw [eZ];exact ⟨rfl,decide_eq_true (by omega)⟩) | simp_all
theorem uJ (T:List Nat):mj (uS T)=true:=by
 obtain ⟨h1,h2⟩:=mT T;unfold uS mj;simp only [kq,ou,h1]
 first | (simp;omega) | (rw [eZ];exact ⟨rfl,decide_eq_true (by omega)⟩) | simp_all
theorem kDP (T:List Nat):iw (wG T) (wG T)=true:=by
 unfold wG;rw [iw];exact lD T
theorem rB (T:List Nat):iw (uS T) (uS T)=true:=by
 unfold uS;rw [iw];exact lD T
theorem fN {H:Hp} {s:av} {T:List Nat} (h:H s=some (.lst (T.map vn))):Dt K H (wG T) (.ref s):=by
 unfold wG Dt;exact ⟨s,_,rfl,SqL.of h,pL T⟩
theorem dP {H:Hp} {s:av} {T:List Nat} (h:H s=some (.tup (T.map vn))):Dt K H (uS T) (.ref s):=by
 unfold uS Dt;exact ⟨s,_,rfl,SqT.of h,pL T⟩
theorem nY {ms:List Nat} {n:Nat} (h:ms.Perm (cu n)) {ns':List Int} (p:ns'.Perm (ms.map ci)) (s:ns'.Pairwise (·<=·)):ns'=(cu n).map ci:=by
 have p2:ns'.Perm ((cu n).map ci):=p.trans (h.map ci)
 have s2:((cu n).map ci).Pairwise (·<=·):=by
  rw [ke];refine BW.imp λ {a b} h=>?_;show (a:Int)<=b;omega
 exact p2.eq_of_pairwise (λ a b _ _ h1 h2=>Int.le_antisymm h1 h2) s s2
theorem kAK (T U:List Nat):iw (wG T) (wG U)=decide (T=U):=by
 have go:∀ (T U:List Nat),iR (T.map λ n:Nat=>ju (n:Int)) (U.map λ n:Nat=>ju (n:Int))=decide (T=U):=λ T=>by
  induction T with
  | nil=>intro U;cases U<;>simp [iR]
  | cons t T ih =>
   intro U
   cases U with
   | nil=>simp [iR]
   | cons u U =>
    rw [ft,ft,iR,ih U,gx,eZ,decide_eq_true_iff,decide_eq_true_iff]
    have e:iw (ju (t:Int)) (ju (u:Int))=true↔t=u:=by
     simp only [iw,beq_iff_eq];omega
    rw [e];constructor
    ·rintro ⟨h1,h2⟩
     rw [h1,h2]
    ·intro h
     injection h with h1 h2
     exact ⟨h1,h2⟩
 unfold wG;rw [iw];exact go T U
theorem kCS (T U:List Nat):iw (uS T) (uS U)=decide (T=U):=by
 have go:∀ (T U:List Nat),iR (T.map λ n:Nat=>ju (n:Int)) (U.map λ n:Nat=>ju (n:Int))=decide (T=U):=λ T=>by
  induction T with
  | nil=>intro U;cases U<;>simp [iR]
  | cons t T ih =>
   intro U
   cases U with
   | nil=>simp [iR]
   | cons u U =>
    rw [ft,ft,iR,ih U,gx,eZ,decide_eq_true_iff,decide_eq_true_iff]
    have e:iw (ju (t:Int)) (ju (u:Int))=true↔t=u:=by
     simp only [iw,beq_iff_eq];omega
    rw [e];constructor
    ·rintro ⟨h1,h2⟩
     rw [h1,h2]
    ·intro h
     injection h with h1 h2
     exact ⟨h1,h2⟩
 unfold uS;rw [iw];exact go T U
def cR:Sp:=λ vs H Q _=>∃ (w z o:av) (W:Rows) (a b c:Nat) (ms:List Nat),vs=[.ref w,.ref z,.ref o]/\WebAt H w W/\W.length<=42/\H z=some (.tup [vn a,vn b,vn c])/\H o=some (.tup (ms.map vn))/\ms.Perm (cu W.length) /\
 3<=W.length/\∀ H',Same H H'->Q (.bl (decide (ms[0]?=some a/\ms[1]?=some b/\ms.getLast?=some c))) H'
theorem rV {f:av} {fd:ed} (F:Fun K "has_ends" "has_ends" yQ f fd) (xX:Own.Has P w K mg base "are_whole" ["thing","many"] 2 (nW)) (z_sorted:mg "sorted" = none) (z_list:mg "list" = none) (z_range:mg "range" = none) (z_len:mg "len" = none):FnOk P w K mg base CX0 3 f fd ["web","base","thing"] (cR):=by
 refine F.ok sc_has_ends (λ vs H Q E h=>?_) (λ cdv A outer s0 H vs Q E hr h=>?_)
 ·obtain ⟨w,z,o,W,a,b,c,ms,rfl,_⟩:=h
  rfl
 obtain ⟨w,z,o,W,a,b,c,ms,rfl,hW,h42,hz,ho,hp,l3,k⟩:=h
 refine ⟨_,(kF (xA (PW.pt (vQ (zU (zQ (Own.pe_has xX (hr.mono (by decide)) rfl (kB (pv 2) (kB (kN kM rfl z_len di (kB (pv 0) kD)) kD))))) (vZ (qD (gM hr.units) (kN kAV rfl z_sorted ug (kB (pv 2) kD)) (kIS rfl rfl z_list rfl z_range (kB (kN kM rfl z_len di (kB (pv 0) kD)) kD)) (qK _))))) (kL (kS zV)) qN)
   (kF (vB (pv 1) (xI rfl (kY (kQ (i:=3) sc_has_ends.nd rfl (dw rfl)) (kY (kQ (i:=4) sc_has_ends.nd rfl (dw rfl)) (kY (kQ (i:=5) sc_has_ends.nd rfl (dw rfl)) jR)))))
   (kL (kS (uM (kAB hr.units) (jZ (kB (kU qH (pv 2) kK (λ _ _=>rfl)) (kB (kU qH (pv 2) kK (λ _ _=>rfl)) (kB (kU qH (pv 2) (wD yC kK) (λ _ _=>rfl)) kD)))) (jZ (kB (pv 3) (kB (pv 4) (kB (pv 5) kD)))) (qK _)))))),?_⟩
 have lm:ms.length=W.length:=by rw [hp.length_eq,fv]
 obtain ⟨ts,h1,lts,h3⟩:=id hW;refine ⟨_,rfl,_,rfl,w,_,rfl,.inr (SqT.of h1),o,ms,(by rw [ao,lts,lm];rfl),ho,(by omega),λ H1 g1=>⟨_,rfl,zB ?_⟩⟩;refine ⟨_,rfl,o,ms.map ci,rfl,.inr (SqT.of (by rw [g1 _ _ ho,yB])),λ l ns' nl pm sr=>?_⟩;rw [nY hp pm sr];have gl:=kE nl (.lst (((cu W.length).map ci).map V.int));have hl:=kC (H:=H1) (a:=l) (o:=.lst (((cu W.length).map ci).map V.int));refine ⟨_,rfl,w,_,rfl,.inr (SqT.of (gl _ _ (g1 _ _ h1))),W.length,(by rw [ao,lts]),(by omega),λ l2 n2=>?_⟩;rw [if_neg dq];have g2:=kE n2 (.lst (uZ W.length));have hl2:=kC (H:=upd H1 l (.lst (((cu W.length).map ci).map V.int))) (a:=l2) (o:=.lst (uZ W.length));have gg:=g1.trans (gl.trans g2);refine ⟨wG (cu W.length),wG (cu W.length),fN (by rw [yB];exact g2 _ _ hl),fN hl2,bO _,bO _,_,rfl,?_⟩;rw [kDP];refine zB ?_;have hz2:=gg _ _ hz;have ho2:=gg _ _ ho;generalize upd (upd H1 l (.lst (((cu W.length).map ci).map V.int))) l2 (.lst (uZ W.length))=H2 at *;refine ⟨_,rfl,z,_,rfl,SqT.of hz2,rfl,_,_,rfl,_,_,rfl,_,_,rfl,rfl,?_⟩;obtain ⟨x,hx⟩ : ∃ x,ms[0]?=some x:=⟨_,aa (by omega)⟩;obtain ⟨y,hy⟩ : ∃ y,ms[1]?=some y:=⟨_,aa (by omega)⟩;have ne:ms≠[]:=λ z=>by rw [z] at lm;simp at lm;omega
 obtain ⟨v,hv⟩ : ∃ v,ms.getLast?=some v:=⟨_,eN ne⟩;have e0:atI (ms.map vn) 0=some (vn x):=qE (j:=0) (by rw [bh,hx];rfl);have e1:atI (ms.map vn) 1=some (vn y):=qE (j:=1) (by rw [bh,hy];rfl)
 have e2:atI (ms.map vn) (-1)=some (vn v):=by
  have em:ms=ms.dropLast++[v]:=by
   have hv:=hv;rw [eN ne] at hv;rw [<-bj hv];exact (eR ne).symm
  rw [em,eI];exact xG _ _
 refine ⟨_,rfl,o,_,_,_,rfl,rfl,SqT.of ho2,e0,_,rfl,o,_,_,_,rfl,rfl,SqT.of ho2,e1,_,rfl,_,rfl,o,_,_,_,rfl,rfl,SqT.of ho2,e2,yS3,λ u1 m1=>?_⟩;have j1:=kE m1 (.tup [vn x,vn y,vn v]);refine ⟨_,rfl,_,rfl,_,rfl,yS3,λ u2 m2=>?_⟩;have j2:=kE m2 (.tup [vn a,vn b,vn c]);refine ⟨uS [x,y,v],uS [a,b,c],dP (j2 _ _ kC),dP kC,uJ _,uJ _,?_⟩;rw [if_neg (by decide),kCS]
 have ee:decide ([x,y,v]=[a,b,c])=decide (ms[0]?=some a/\ms[1]?=some b/\ms.getLast?=some c):=by
  rw [gx,decide_eq_true_iff,decide_eq_true_iff,hx,hy,hv];simp
 rw [ee];exact k _ (gg.trans (j1.trans j2))
theorem sV {l r:List Nat} {x y:Nat} (h:Adj l x y):Adj (l++r) x y:=by
 match l,h with
 | a::b::l,h =>
  rcases h with z | z
  ·exact .inl z
  ·exact .inr (sV (l:=b::l) z)
theorem kEP {l r:List Nat} {x y:Nat} (h:Adj r x y):Adj (l++r) x y:=by
 induction l with
 | nil=>exact h
 | cons a l ih =>
  cases e:l++r with
  | nil=>rw [e] at ih;exact absurd ih id
  | cons b s =>
   rw [iC,e];rw [e] at ih;exact DI ih
theorem kKB (xs:List V) (b c:Nat) (h:b<=xs.length):jO xs (some (b:Int)) (some (c:Int))=(xs.drop b).take (c-b):=by
 unfold jO;rw [HT.sIx_nat,HT.sIx_nat,iq h,List.take_eq_take_iff,iP];omega
def cK:Sp:=λ vs H Q _=>∃ (w tp ah:av) (W:Rows) (top ahead:List Nat) (pl:Nat),vs=[.ref w,.ref tp,.ref ah,vn pl]/\WebAt H w W/\Tr W/\H tp=some (.lst (top.map vn))/\H ah=some (.tup (ahead.map vn))/\top.length<=42/\ahead.length<=42/\pl<W.length /\
 top.Nodup/\(∀ x y,Adj top x y->Tri.E W x y)/\(stF W top ahead pl=none->∀ H',Same H H'->Q .non H')/\∀ (st:List Nat),stF W top ahead pl=some st->∀ (s:av) (H':Hp),Same H H'->H s=none->H' s=some (.lst (st.map vn))->Q (.ref s) H'
theorem cX {f:av} {fd:ed} (F:Fun K "stretch_under" "stretch_under" jE f fd) (xY:Own.Has P w K mg base "are_round" ["web","p","q","r"] 3 (nX)) (z_len:mg "len" = none) (z_all:mg "all" = none) (z_zip:mg "zip" = none):FnOk P w K mg base CX0 4 f fd ["web","top","ahead","place"] (cK):=by
 refine F.ok sc_stretch_under (λ vs H Q E h=>?_) (λ cdv A outer s0 H vs Q E hr h=>?_)
 ·obtain ⟨w,tp,ah,W,top,ahead,pl,rfl,_⟩:=h
  rfl
 obtain ⟨w,tp,ah,W,top,ahead,pl,rfl,hW,T,htp,hah,l1,l2,lp,tnd,hA,kn,k⟩:=h
 refine ⟨_,(kF (qB (i:=4) sc_stretch_under.nd rfl (DI rfl) (wE (Nc:=["q","web","place"]) (js:=[none,some 0,some 3]) rfl rfl (tV (pv 2)) (CS.of rfl rfl) rfl (λ C s₂ H₂ fp pins=>(kQ (i:=0) (show iz (α:=Str) ["q","web","place"] by decide +kernel) rfl (dw rfl))) (λ C s₂ H₂ fp pins D L=>(zR (qD (show OpR _ _ (rIn K false) from wV) (pv 0) (kU (show IxR _ (kFV K) from qH) (pv 1) (pv 2) (λ _ _=>rfl)) rfl) (yD (pv 0))))))
   (kF (fI (i:=5) (Nc:=["q","below"]) (js:=[none,some 4]) rfl rfl sc_stretch_under.nd rfl (dw rfl) (yX (pv 1)) (CS.of rfl rfl) rfl (λ C s₂ H₂ fp pins=>(kQ (i:=0) (show iz (α:=Str) ["q","below"] by decide +kernel) rfl (dw rfl))) (λ C s₂ H₂ fp pins D L=>(zR (qD (show OpR _ _ (rIn K false) from wV) (pv 0) (pv 1) rfl) (yD (pv 0)))))
   (kF (xA (PW.pt (vQ (qD kGF (kN kM rfl z_len di (kB (pv 5) kD)) kK (qK _)) (vZ (qD uX (kN kM rfl z_len di (kB (pv 5) kD)) (kN kM rfl z_len di (kB (pv 4) kD)) (qK _))))) (kL (kS vC)) qN)
   (kF (qB (i:=6) sc_stretch_under.nd rfl (dw rfl) (xB eE jo jq zW (pv 1) (kB (kU kZ (pv 5) kK (λ _ _=>rfl)) kD)))
   (kF (xA (qD (gM hr.units) (qJ jQ (pv 1) (qI (pv 6)) (qI (kX qO (pv 6) (kN kM rfl z_len di (kB (pv 5) kD))))) (pv 5) (qK _)) (kL (kS vC)) qN)
   (kF (xA (zU (zQ (kN (nH rfl) rfl z_all Bl (kB (wE (Nc:=["x","y","web","place"]) (js:=[none,none,some 0,some 3]) rfl rfl (kIR true true rfl z_zip (kB (pv 5) (kB (qJ jQ (pv 5) (qI kK) jF) kD))) (CS.of rfl rfl) rfl (λ C s₂ H₂ fp pins=>(show PG _ _ (kHH K 2 _) from xI rfl (kY (kQ (i:=0) (show iz (α:=Str) ["x","y","web","place"] by decide +kernel) rfl (dw rfl)) (kY (kQ (i:=1) (show iz (α:=Str) ["x","y","web","place"] by decide +kernel) rfl (dw rfl)) jR)))) (λ C s₂ H₂ fp pins D L=>(yY (yD (Own.pe_has xY (hr.mono (by decide)) rfl (kB (pv 2) (kB (pv 0) (kB (pv 1) (kB (pv 3) kD))))))))) kD)))) (kL (kS vC)) qN)
   (kL (kS (pv 5))))))))),?_⟩
 have erow:W.getD pl []=W[pl]:=by rw [ai,aa lp];rfl
 unfold stF at kn k;dsimp only at kn k;rw [erow] at kn k;obtain ⟨ts,h1,lts,h3⟩:=hW.at;obtain ⟨b',e1,e2⟩:=h3 pl W[pl] (aa lp);refine ⟨_,rfl,ah,rfl,⟨_,SqT.of hah⟩,λ D nD=>?_⟩
 refine fQ (xs:=ahead.map vn) (λ i σ H2=>∃ (x0:Option V),σ=[x0,some (.ref w),some (vn pl)]/\Same H H2/\H2 D=some (.lst (((ahead.take i).filter λ q=>decide (q∈W[pl])).map vn)))
  ⟨none,rfl,kE nD _,kC⟩ ?_ ?_ ?_
 ·rintro i σ H2 _ ⟨x0,rfl,g2,_⟩
  exact SqT.of (g2 _ _ hah)
 ·rintro i x σ H2 hx ⟨x0,rfl,g2,hD⟩
  rw [bh] at hx;obtain ⟨q,eq',rfl⟩:=eJ.mp hx;have tk:ahead.take (i+1)=ahead.take i++[q]:=by rw [ig,eq'];rfl
  refine ⟨_,rfl,_,rfl,_,rfl,w,_,_,_,rfl,rfl,SqT.of (g2 _ _ h1),e1,b',_,rfl,.inr (SqT.of (g2 _ _ e2)),rfl,zZ _,_,rfl,?_⟩;rw [vJ,tk,jz];have lf:=og (λ q=>decide (q∈W[pl])) (ahead.take i);rw [eK] at lf;refine vS (λ c=>?_) (λ c=>?_)
  ·refine ⟨_,rfl,_,hD,(by rw [ao];exact kR (by omega)),?_⟩
   refine ⟨_,rfl,qW nD g2,?_⟩;rw [oz (p:=λ q=>decide (q∈W[pl])) (show decide (q∈W[pl])=true from c),eI];exact kC
  ·rw [pd (p:=λ q=>decide (q∈W[pl])) (show ¬ decide (q∈W[pl])=true from c),xu,iN]
   exact ⟨_,rfl,g2,hD⟩
 rintro σ H2 ⟨x0,rfl,g2,hD⟩;rw [ao,ji] at hD;have htp2:=g2 _ _ htp;have lb:=og (λ q=>decide (q∈W[pl])) ahead;generalize ahead.filter (λ q=>decide (q∈W[pl]))=bl at *;refine ⟨_,rfl,tp,rfl,⟨_,SqL.of htp2⟩,λ D2 nD2=>?_⟩
 refine xM (xs:=top.map vn) (λ i σ H3=>∃ (x0:Option V),σ=[x0,some (.ref D)]/\Same H2 H3/\H3 D2=some (.lst (((top.take i).filter λ q=>decide (q∈bl)).map vn)))
  ⟨none,rfl,kE nD2 _,kC⟩ ?_ ?_ ?_
 ·rintro i σ H3 _ ⟨x0,rfl,g3,_⟩
  exact SqL.of (g3 _ _ htp2)
 ·rintro i x σ H3 hx ⟨x0,rfl,g3,hD2⟩
  rw [bh] at hx;obtain ⟨q,eq',rfl⟩:=eJ.mp hx;have tk:top.take (i+1)=top.take i++[q]:=by rw [ig,eq'];rfl
  refine ⟨_,rfl,_,rfl,D,_,rfl,.inl (SqL.of (g3 _ _ hD)),rfl,zZ _,_,rfl,?_⟩;rw [vJ,tk,jz];have lf:=og (λ q=>decide (q∈bl)) (top.take i);rw [eK] at lf;refine vS (λ c=>?_) (λ c=>?_)
  ·refine ⟨_,rfl,_,hD2,(by rw [ao];exact kR (by omega)),?_⟩
   refine ⟨_,rfl,qW nD2 g3,?_⟩;rw [oz (p:=λ q=>decide (q∈bl)) (show decide (q∈bl)=true from c),eI];exact kC
  ·rw [pd (p:=λ q=>decide (q∈bl)) (show ¬ decide (q∈bl)=true from c),xu,iN]
   exact ⟨_,rfl,g3,hD2⟩
 rintro σ H3 ⟨x0,rfl,g3,hD2⟩;rw [ao,ji] at hD2;have lst0:=og (λ q=>decide (q∈bl)) top;have sub0:∀ q∈top.filter (λ q=>decide (q∈bl)),q∈top:=λ q hq=>(fj.mp hq).1;generalize top.filter (λ q=>decide (q∈bl))=st at *;have g03:=g2.trans g3;have hD3:=g3 _ _ hD;have htp3:=g3 _ _ htp2;have W3:=hW.kept g03;have lst:((st.map vn).length:Int)=st.length:=by rw [ao]
 have lbl:((bl.map vn).length:Int)=bl.length:=by rw [ao]
 have ls:st.length<=42:=by omega
 refine ⟨_,rfl,D2,_,rfl,.inl (SqL.of hD2),_,_,rfl,rfl,_,rfl,?_⟩;rw [lst];by_cases c1:st.length<2
 ·rw [decide_eq_true (show ((st.length:Int)<2) by omega)]
  exact aL (kn (by rw [if_pos (.inl c1)]) _ g03)
 rw [decide_eq_false (show ¬ ((st.length:Int)<2) by omega)];refine zB ⟨_,rfl,D2,_,rfl,.inl (SqL.of hD2),_,rfl,D,_,rfl,.inl (SqL.of hD3),rfl,_,rfl,?_⟩;rw [lst,lbl];by_cases c2:st.length=bl.length
 case neg =>
  rw [decide_eq_false (show ¬ (V.int (st.length:Int)=V.int (bl.length:Int)) from λ z=>c2 (by have:=V.int.inj z;omega))];exact aL (kn (by rw [if_pos (.inr c2)]) _ g03)
 rw [c2,decide_eq_true (rfl:V.int ((bl.length:Nat):Int)=V.int ((bl.length:Nat):Int))];refine zB ?_;rw [if_neg (by omega)] at kn k
 obtain ⟨s0',rest,est⟩ : ∃ a r,st=a::r:=by
  match st,c1 with
  | a::r,_=>exact ⟨a,r,rfl⟩
  | [],c1=>exact absurd (show ([]:List Nat).length<2 by decide) c1
 have hd0:st.headD 0=s0':=by rw [est];rfl
 have at0':atI (st.map vn) 0=some (vn s0'):=by rw [est];exact qE (j:=0) rfl
 have m0:s0'∈top:=sub0 s0' (by rw [est];exact eQ ..);have il:=gh m0;refine ⟨_,rfl,.inl ⟨rfl,_,SqL.of htp3⟩,_,rfl,D2,_,_,_,rfl,rfl,SqL.of hD2,at0',tp,top.map ci,s0',top.idxOf s0',rfl,rfl,(by rw [htp3,yB]),qZ m0,?_⟩;refine ⟨_,rfl,_,rfl,_,rfl,_,rfl,_,rfl,D2,_,rfl,.inl (SqL.of hD2),_,_,rfl,rfl,_,rfl,tp,_,rfl,SqL.of htp3,λ p np=>?_⟩;rw [hd0] at kn k
 have ecut:jO (top.map vn) (some ((top.idxOf s0':Nat):Int)) (some (((top.idxOf s0':Nat):Int)+(((st.map vn).length:Nat):Int)))=((top.drop (top.idxOf s0')).take st.length).map vn:=by
  rw [lst,show (((top.idxOf s0':Nat):Int)+(st.length:Int))=((top.idxOf s0'+st.length:Nat):Int) by omega,kKB _ _ _ (by rw [ao];omega),ni,ua,show top.idxOf s0'+st.length-top.idxOf s0'=st.length by omega]
 rw [ecut];have gp:=kE np (.lst (((top.drop (top.idxOf s0')).take st.length).map vn));have hp:=kC (H:=H3) (a:=p) (o:=.lst (((top.drop (top.idxOf s0')).take st.length).map vn));refine ⟨_,rfl,wG ((top.drop (top.idxOf s0')).take st.length),wG st,fN hp,fN (gp _ _ hD2),bO _,bO _,_,rfl,?_⟩;rw [kAK];by_cases c3:(top.drop (top.idxOf s0')).take st.length=st
 case neg =>
  rw [decide_eq_false c3];exact aL (kn (by rw [if_pos c3]) _ (g03.trans gp))
 rw [decide_eq_true c3];rw [if_neg (λ z=>z c3)] at kn k;refine zB ?_;have hD24:=gp _ _ hD2;have W4:=W3.kept gp;have g04:=g03.trans gp;have nD20:H D2=none:=g2.free nD2;generalize upd H3 p (.lst (((top.drop (top.idxOf s0')).take st.length).map vn))=H4 at *
 have hE:∀ t∈st.zip st.tail,Tri.E W t.1 t.2:=λ t ht=>by
  obtain ⟨x,y⟩:=t;have ad:=uH ht
  have et:top=top.take (top.idxOf s0')++(st++(top.drop (top.idxOf s0')).drop st.length):=by
   have e2:top.drop (top.idxOf s0')=st++(top.drop (top.idxOf s0')).drop st.length:=by
    conv=>lhs;rw [<-eW st.length (top.drop (top.idxOf s0')),c3]
   rw [<-e2,eW]
  refine hA x y ?_;rw [et];have a1:Adj (st++(top.drop (top.idxOf s0')).drop st.length) x y:=sV ad;exact kEP a1
 have tl:(st.map vn).tail=st.tail.map vn:=by rw [List.map_tail]
 have c1:jO (st.map vn) (some 1) none=st.tail.map vn:=by
  rw [show (1:Int)=((1:Nat):Int) from rfl,wB _ (by rw [ao];omega),List.drop_one,tl]
 refine ⟨_,rfl,_,rfl,_,rfl,D2,_,rfl,SqL.of hD24,λ D3 nD3=>?_⟩;rw [c1];have g5:=kE nD3 (.lst (st.tail.map vn));have hD3':=kC (H:=H4) (a:=D3) (o:=.lst (st.tail.map vn));have hD25:=g5 _ _ hD24;have W5:=W4.kept g5;have g05:=g04.trans g5;generalize upd H4 D3 (.lst (st.tail.map vn))=H5 at *;refine ⟨D2,D3,rfl,⟨_,SqL.of hD25⟩,⟨_,SqL.of hD3'⟩,λ D4 nD4=>?_⟩
 refine kCK (xs:=st.map vn) (ys:=st.tail.map vn) (λ i σ H6=>∃ (x0 x1:Option V),σ=[x0,x1,some (.ref w),some (vn pl)]/\Same H5 H6/\H6 D4=some (.lst ((((st.zip st.tail).take i).map λ t=>decide ((nxt W t).2=pl)).map V.bl))) (by rw [ao,ao,DR];omega)
  ⟨none,none,rfl,kE nD4 _,kC⟩ ?_ ?_ ?_
 ·rintro i σ H6 _ ⟨x0,x1,rfl,g6,_⟩
  exact ⟨SqL.of (g6 _ _ hD25),SqL.of (g6 _ _ hD3')⟩
 ·rintro i x y T' σ H6 hx hy nT ⟨x0,x1,rfl,g6,hD4⟩
  rw [bh] at hx hy;obtain ⟨a,ea,rfl⟩:=eJ.mp hx;obtain ⟨b,eb,rfl⟩:=eJ.mp hy
  have mz:(a,b)∈st.zip st.tail:=by
   refine eg (i:=i) ?_;rw [mq];exact ⟨ea,eb⟩
  have li:=(aq.mp ea).1;have gT:=kE nT (.tup [vn a,vn b]);have hT:=kC (H:=H6) (a:=T') (o:=.tup [vn a,vn b]);have W7:=(W5.kept g6).kept gT;have g7:=g6.trans gT;have hD47:=gT _ _ hD4;generalize upd H6 T' (.tup [vn a,vn b])=H7 at *;refine ⟨T',_,rfl,SqT.of hT,rfl,_,_,rfl,_,_,rfl,rfl,?_⟩;refine ⟨_,rfl,_,rfl,_,rfl,_,rfl,w,W,a,b,pl,rfl,W7,T,hE _ mz,λ H8 g8=>?_⟩
  have tkz:(st.zip st.tail).take (i+1)=(st.zip st.tail).take i++[(a,b)]:=by
   have:(st.zip st.tail)[i]?=some (a,b):=by rw [mq];exact ⟨ea,eb⟩
   rw [ig,this]
   rfl
  refine ⟨_,g8 _ _ hD47,(by rw [ao,ao,eK];exact kR (by omega)),?_⟩;refine ⟨_,_,rfl,qW nD4 (g7.trans g8),?_⟩;rw [tkz,eI,eI];exact kC
 ·rintro σ H6 ⟨x0,x1,rfl,g6,hD4⟩
  refine ⟨D4,_,rfl,SqL.of hD4,?_⟩
  have ez:(st.zip st.tail).take (st.tail.map vn).length=st.zip st.tail:=by
   refine gn ?_;rw [xr,ao];omega
  rw [ez]
  have ea:((st.zip st.tail).map λ t=>decide ((nxt W t).2=pl)).all id=(st.zip st.tail).all λ t=>decide ((nxt W t).2=pl):=by
   rw [List.all_map]
   rfl
  rw [ea]
  cases cb:(st.zip st.tail).all λ t=>decide ((nxt W t).2=pl) with
  | false=>exact ⟨_,rfl,aL (kn (by rw [cb];rfl) _ (g05.trans g6))⟩
  | true =>
   refine ⟨_,rfl,zB ⟨_,rfl,?_⟩⟩;exact k st (by rw [cb];rfl) D2 H6 (g05.trans g6) nD20 (g6 _ _ hD25)
def nP:Sp:=λ vs H Q _=>∃ (tp sp:av) (top st:List Nat) (pl:Nat),vs=[.ref tp,.ref sp,vn pl]/\H tp=some (.lst (top.map vn))/\H sp=some (.lst (st.map vn))/\st≠[]/\(∀ x∈st,x∈top)/\top.length<=42 /\
 ∀ (s:av) (H':Hp),Same H H'->H s=none->H' s=some (.lst ((poF top st pl).map vn))->Q (.ref s) H'
theorem rO {f:av} {fd:ed} (F:Fun K "put_over" "put_over" yL f fd):FnOk P w K mg base CX0 1 f fd ["top","stretch","place"] (nP):=by
 refine F.ok sc_put_over (λ vs H Q E h=>?_) (λ cdv A outer s0 H vs Q E hr h=>?_)
 ·obtain ⟨tp,sp,top,st,pl,rfl,_⟩:=h
  rfl
 obtain ⟨tp,sp,top,st,pl,rfl,htp,hsp,ne,sub,l42,k⟩:=h
 refine ⟨_,(kF (qB (i:=3) sc_put_over.nd rfl (dw rfl) (xB eE jo jq zW (pv 0) (kB (kU kZ (pv 1) kK (λ _ _=>rfl)) kD)))
   (kF (qB (i:=4) sc_put_over.nd rfl (dw rfl) (xB eE jo jq zW (pv 0) (kB (kU kZ (pv 1) (wD yC kK) (λ _ _=>rfl)) kD)))
   (kL (kS (kX vD (kX vD (qJ jQ (pv 0) jF (qI (kX qO (pv 3) kK))) (jH (kB (pv 2) kD))) (qJ jQ (pv 0) (qI (pv 4)) jF)))))),?_⟩
 obtain ⟨a,r,ea⟩ : ∃ a r,st=a::r:=by
  match st,ne with
  | a::r,_=>exact ⟨a,r,rfl⟩
 obtain ⟨D,b,eb⟩ : ∃ D b,st=D++[b]:=⟨st.dropLast,st.getLast ne,(eR ne).symm⟩;have hd0:st.headD 0=a:=by rw [ea];rfl
 have hl0:st.getLastD 0=b:=by rw [eb,iG,eY];rfl
 have ma:a∈top:=sub a (by rw [ea];exact eQ ..);have mb:b∈top:=sub b (by rw [eb];simp);have at0':atI (st.map vn) 0=some (vn a):=by rw [ea];exact qE (j:=0) rfl
 have at1':atI (st.map vn) (-1)=some (vn b):=by rw [eb,eI];exact xG _ _
 have ia:=gh ma;have ib:=gh mb;refine ⟨_,rfl,.inl ⟨rfl,_,SqL.of htp⟩,_,rfl,sp,_,_,_,rfl,rfl,SqL.of hsp,at0',tp,top.map ci,a,top.idxOf a,rfl,rfl,(by rw [htp,yB]),qZ ma,?_⟩;refine ⟨_,rfl,.inl ⟨rfl,_,SqL.of htp⟩,_,rfl,_,rfl,sp,_,_,_,rfl,rfl,SqL.of hsp,at1',tp,top.map ci,b,top.idxOf b,rfl,rfl,(by rw [htp,yB]),qZ mb,?_⟩
 have c1:jO (top.map vn) none (some (((top.idxOf a:Nat):Int)+1))=(top.take (top.idxOf a+1)).map vn:=by
  rw [show (((top.idxOf a:Nat):Int)+1)=((top.idxOf a+1:Nat):Int) by omega,wA _ (by rw [ao];omega),<-ni]
 have c2:jO (top.map vn) (some ((top.idxOf b:Nat):Int)) none=(top.drop (top.idxOf b)).map vn:=by
  rw [wB _ (by rw [ao];omega),<-ua]
 refine ⟨_,rfl,_,rfl,_,_,rfl,rfl,_,rfl,tp,_,rfl,SqL.of htp,λ p1 m1=>?_⟩;rw [c1];have g5:=kE m1 (.lst ((top.take (top.idxOf a+1)).map vn));refine ⟨_,rfl,yS1,λ p2 m2=>?_⟩;have g6:=kE m2 (.lst [vn pl]);refine ⟨p1,p2,_,_,rfl,rfl,g6 _ _ kC,kC,(by simp only [ao,cg,eX,ir,eK];exact jj (kR (by omega))),λ p3 m3=>?_⟩;have g7:=kE m3 (.lst ((top.take (top.idxOf a+1)).map vn++[vn pl]));have ho7:=g7 _ _ (g6 _ _ (g5 _ _ htp));refine ⟨_,rfl,_,rfl,_,rfl,tp,_,rfl,SqL.of ho7,λ p4 m4=>?_⟩;rw [c2];have g8:=kE m4 (.lst ((top.drop (top.idxOf b)).map vn));refine ⟨p3,p4,_,_,rfl,rfl,g8 _ _ kC,kC,(by simp only [ao,cg,eX,ir,eK,iP];exact jj (kR (by omega))),λ p5 m5=>?_⟩;have g9:=kE m5 (.lst ((top.take (top.idxOf a+1)).map vn++[vn pl]++(top.drop (top.idxOf b)).map vn));have gg:=g5.trans (g6.trans (g7.trans g8));refine k p5 _ (gg.trans g9) (gg.free m5) ?_;rw [kC];unfold poF;rw [hd0,hl0];simp
theorem LsAt.tail {H:Hp} {t:av} {ta:List av} {Os:List (List Nat)} {Z:List Nat} (x:LsAt H t ta (Os++[Z])):∃ ta' a,ta=ta'++[a]/\H a=some (.lst (Z.map vn)):=by
 have l:=x.len;rw [cg,gi] at l;have ne:ta≠[]:=λ z=>by rw [z] at l;cases l
 refine ⟨ta.dropLast,ta.getLast ne,(eR ne).symm,x.row Os.length _ Z ?_ ?_⟩
 ·rw [show Os.length=ta.length-1 by omega,<-eh,eN ne]
 ·rw [iE]
structure Gw (H:Hp) (w z o:av) (W:Rows) (ms:List Nat) (a b c:Nat):Prop where
 web:WebAt H w W
 tr:Tr W
 base:H z=some (.tup [vn a,vn b,vn c])
 ord:H o=some (.tup (ms.map vn))
 perm:ms.Perm (cu W.length)
 three:3<=W.length
 ab:Tri.E W a b
theorem Gw.kept {H H':Hp} {w z o:av} {W:Rows} {ms:List Nat} {a b c:Nat} (h:Gw H w z o W ms a b c) (g:Same H H'):Gw H' w z o W ms a b c :=
 { h with web:=h.web.kept g,base:=g _ _ h.base,ord:=g _ _ h.ord }
def nR:Sp:=λ vs H Q _=>∃ (w z o:av) (W:Rows) (ms:List Nat) (a b c:Nat),vs=[.ref w,.ref z,.ref o]/\Gw H w z o W ms a b c/\(xW W a b c ms=none->∀ H',Same H H'->Q .non H') /\
 ∀ (Fs Ts:List (List Nat)),xW W a b c ms=some (Fs,Ts)->∀ (t f g:av) (fa ga:List av) (H':Hp),Same H H'->H' t=some (.tup [.ref f,.ref g])->LsAt H' f fa Fs->LsAt H' g ga Ts->Q (.ref t) H'
theorem kJC {f:av} {fd:ed} (F:Fun K "laid" "laid" cU f fd) (aR:Own.Has P w K mg base "has_ends" ["web","base","thing"] 3 (cR)) (zC:Own.Has P w K mg base "stretch_under" ["web","top","ahead","place"] 4 (cK)) (aN:Own.Has P w K mg base "put_over" ["top","stretch","place"] 1 (nP)) (z_list:mg "list" = none) (z_range:mg "range" = none) (z_len:mg "len" = none):FnOk P w K mg base CX0 5 f fd ["web","base","thing"] (nR):=by
 refine F.ok sc_laid (λ vs H Q E h=>?_) (λ cdv A outer s0 H vs Q E hr h=>?_)
 ·obtain ⟨w,z,o,W,ms,a,b,c,rfl,_⟩:=h
  rfl
 obtain ⟨w,z,o,W,ms,a,b,c,rfl,G,kn,k⟩:=h
 refine ⟨_,(kF (xA (zU (zQ (Own.pe_has aR (hr.mono (by decide)) rfl (kB (pv 0) (kB (pv 1) (kB (pv 2) kD)))))) (kL (kS vC)) qN)
   (kF (qB (i:=3) sc_laid.nd rfl (dw rfl) (jH kD))
   (kF (qB (i:=4) sc_laid.nd rfl (dw rfl) (jH (kB (qV cE rfl z_list BX (kB (qJ sl_tup (pv 2) jF (qI kK)) kD)) kD)))
   (kF (yR iM rfl (cW rfl z_range (kB kK (kB (kN kM rfl z_len di (kB (pv 2) kD)) kD))) (kQ (i:=5) sc_laid.nd rfl (dw rfl)) (kF (qB (i:=6) sc_laid.nd rfl (dw rfl) (Own.pe_has zC (hr.mono (by decide)) rfl (kB (pv 0) (kB (kU kZ (pv 4) (wD yC kK) (λ _ _=>rfl)) (kB (qJ sl_tup (pv 2) jF (qI (pv 5))) (kB (kU qH (pv 2) (pv 5) (λ _ _=>rfl)) kD))))))
   (kF (xA (qD kGG (pv 6) vC (qK _)) (kL (kS vC)) qN)
   (kF (jJ (xB eE iH iI jX (pv 3) (kB (pv 6) kD)))
   (kL (jJ (xB eE iH iI jX (pv 4) (kB (Own.pe_has aN (hr.mono (by decide)) rfl (kB (kU kZ (pv 4) (wD yC kK) (λ _ _=>rfl)) (kB (pv 6) (kB (kU qH (pv 2) (pv 5) (λ _ _=>rfl)) kD)))) kD))))))))
   (kL (kS (jZ (kB (pv 3) (kB (pv 4) kD))))))))),?_⟩
 have lm:ms.length=W.length:=by rw [G.perm.length_eq,fv]
 have msn:ms.Nodup:=G.perm.nodup_iff.mpr si;have l42:=G.tr.le;have l3:=G.three;refine ⟨_,rfl,_,rfl,_,rfl,w,z,o,W,a,b,c,ms,rfl,G.web,G.tr.le,G.base,G.ord,G.perm,G.three,λ H1 g1=>⟨_,rfl,?_⟩⟩;by_cases ends:ms[0]?=some a/\ms[1]?=some b/\ms.getLast?=some c
 case neg =>
  rw [decide_eq_false ends];exact aL (kn (by unfold xW;rw [if_neg ends]) _ g1)
 rw [decide_eq_true ends];refine zB ?_;have el:xW W a b c ms=goF W ms (ms.length-2):=by unfold xW;rw [if_pos ends]
 rw [el] at kn k;have G1:=G.kept g1;refine ⟨yS0,λ f nf=>?_⟩;have gf:=kE nf (.lst []);have hf:=kC (H:=H1) (a:=f) (o:=.lst []);have G2:=G1.kept gf;have g2:=g1.trans gf;have nf0:H f=none:=g1.free nf;generalize upd H1 f (.lst [])=H2 at *;refine ⟨_,rfl,_,rfl,o,_,rfl,SqT.of G2.ord,?_,λ p1 n1=>?_⟩
 ·rintro ⟨_,z⟩
  rw [show (2:Int)=((2:Nat):Int) from rfl,oF (by rw [ao];omega),ao] at z;omega
 have c2:jO (ms.map vn) none (some 2)=(ms.take 2).map vn:=by rw [show (2:Int)=((2:Nat):Int) from rfl,wA _ (by rw [ao];omega),<-ni]
 rw [c2];have h1:=kC (H:=H2) (a:=p1) (o:=.tup ((ms.take 2).map vn));have gp:=kE n1 (.tup ((ms.take 2).map vn));refine ⟨p1,_,rfl,.inr (SqT.of h1),λ q1 m1=>⟨yS1,λ g ng=>?_⟩⟩;have gq:=kE m1 (.lst ((ms.take 2).map vn));have gg:=kE ng (.lst [.ref q1]);have hq:=gg _ _ (kC (H:=upd H2 p1 (.tup ((ms.take 2).map vn))) (a:=q1) (o:=.lst ((ms.take 2).map vn)));have hg:=kC (H:=upd (upd H2 p1 (.tup ((ms.take 2).map vn))) q1 (.lst ((ms.take 2).map vn))) (a:=g) (o:=.lst [.ref q1]);have g23:=gp.trans (gq.trans gg);have nq:H2 q1=none:=gp.free m1;have ng2:H2 g=none:=(gp.trans gq).free ng;have hf3:=g23 _ _ hf;have G3:=G2.kept g23;have g3:=g2.trans g23;have ng0:H g=none:=g2.free ng2;have fg:f≠g:=kH hf ng2;have qf:q1≠f:=(kH hf nq).symm
 have qg:q1≠g:=λ z=>by
  rw [<-z] at ng;rw [kC] at ng;cases ng
 generalize upd (upd (upd H2 p1 (.tup ((ms.take 2).map vn))) q1 (.lst ((ms.take 2).map vn))) g (.lst [.ref q1])=H3 at *
 have t2:ms.take 2=[a,b]:=by
  obtain ⟨q0,q1',_⟩:=ends
  match ms,q0,q1' with
  | x::y::ms,e1,e2 =>
   have e1:x=a:=by simpa using e1
   have e2:y=b:=by simpa using e2
   rw [e1,e2]
   rfl
 have top0:Top W (ms.take 2) (ms.take 2):=by
  rw [t2];refine ⟨?_,λ x hx=>hx,λ x y ad=>?_⟩
  ·have:=(G.tr.nb.e G.ab).2.2
   simp [this.symm]
  ·rcases ad with ⟨rfl,rfl⟩ | z
   ·exact G.ab
   ·exact absurd z id
 refine ⟨_,rfl,o,_,rfl,.inr (SqT.of G3.ord),2,_,rfl,⟨by omega,by omega,(by rw [ao];omega),(by rw [ao];omega)⟩,?_⟩
 refine xZ (lo:=2) (n:=((((ms.map vn).length:Nat):Int)-2).toNat) (λ i σ H4=>∃ (x5 x6:Option V) (fa ga:List av) (fs ts:List (List Nat)),σ=[some (.ref w),some (.ref z),some (.ref o),some (.ref f),some (.ref g),x5,x6]/\Same H H4/\goF W ms i=some (fs,ts)/\fs.length=i/\ts.length=i+1/\Top W (ms.take (i+2)) (ts.getLastD [])/\LsAt H4 f fa fs/\LsAt H4 g ga ts/\(∀ x∈fa,x≠f/\x≠g)/\∀ x∈ga,x≠f/\x≠g)
  ⟨none,none,[],[q1],[],[ms.take 2],rfl,g3,rfl,rfl,rfl,top0,⟨hf3,rfl,λ i b Z e=>by simp at e⟩,(by
   exact ⟨hg,rfl,λ i b Z e1 e2=>by
    match i with
    | 0=>cases e1;cases e2;exact hq
    | i+1=>simp at e1⟩),(λ x hx=>by cases hx),(λ x hx=>by rw [cy.mp hx];exact ⟨qf,qg⟩)⟩ ?_ ?_
 ·rintro i σ H4 hi ⟨x5,x6,fa,ga,fs,ts,rfl,g4,go,lfs,lts,tp,lf,lg,af,ag⟩
  rw [ao] at hi;have hi:i+2<W.length:=by omega
  have G4:=G.kept g4;have tne:ts≠[]:=λ z=>by rw [z] at lts;cases lts
  have ets:ts=ts.dropLast++[ts.getLastD []]:=by
   rw [iG,eN tne];exact (eR tne).symm
  obtain ⟨ga',gl,ega,hgl⟩:=LsAt.tail (by rw [<-ets];exact lg);have topg:H4 g=some (.lst (ga'.map V.ref++[.ref gl])):=by rw [lg.top,ega,eI];rfl
  have np':ms.getD (i+2) 0∉ms.take (i+2):=by
   rw [ai,aa (by omega)];intro h;obtain ⟨j,hj,e⟩:=eU.mp h;rw [eK] at hj;rw [yn] at e;have:=(sd msn).mp e;omega
  have tkm:ms.take (i+1+2)=ms.take (i+2)++[ms.getD (i+2) 0]:=by
   rw [show i+1+2=i+2+1 by omega,ig,ai,aa (show i+2<ms.length by omega)]
   rfl
  have tlen:(ts.getLastD []).length<=42:=by
   have:=tp.len;rw [eK] at this;omega
  have plt:ms.getD (i+2) 0<W.length:=by
   rw [ai,aa (by omega)];exact gw.mp (G.perm.mem_iff.mp (gk _))
  have ati:(2+(i:Int))=((i+2:Nat):Int):=by omega
  have cA:jO (ms.map vn) none (some (2+(i:Int)))=(ms.take (i+2)).map vn:=by rw [ati,wA _ (by rw [ao];omega),<-ni]
  have atA:atI (ms.map vn) (2+(i:Int))=some (vn (ms.getD (i+2) 0)):=by
   rw [ati];refine qE ?_;rw [bh,ai,aa (by omega)]
   rfl
  refine ⟨_,rfl,_,rfl,_,rfl,g,_,_,_,rfl,rfl,SqL.of topg,xG _ _,_,rfl,_,rfl,_,rfl,o,_,rfl,SqT.of G4.ord,?_,λ p np=>?_⟩
  ·rintro ⟨_,z⟩
   rw [ati,oF (by rw [ao];omega),ao] at z;omega
  rw [cA];have gp:=kE np (.tup ((ms.take (i+2)).map vn));have hp:=kC (H:=H4) (a:=p) (o:=.tup ((ms.take (i+2)).map vn));have G5:=G4.kept gp;have hgl5:=gp _ _ hgl;have lf5:=lf.kept gp;have lg5:=lg.kept gp;have topg5:=gp _ _ topg;have g5:=g4.trans gp;generalize upd H4 p (.tup ((ms.take (i+2)).map vn))=H5 at *;refine ⟨_,rfl,_,rfl,o,_,_,_,rfl,rfl,SqT.of G5.ord,atA,w,gl,p,W,ts.getLastD [],ms.take (i+2),ms.getD (i+2) 0,rfl,G5.web,G.tr,hgl5,hp,tlen,(by rw [eK];omega),plt,tp.nd,tp.path,(λ no H6 g6=>?_),λ st hst s H6 g6 ns hs=>?_⟩
  ·refine ⟨_,rfl,rfl,_,rfl,aL (kn ?_ _ (g5.trans g6))⟩
   have:=bV (lH go no) (ms.length-2-(i+1));rwa [show i+1+(ms.length-2-(i+1))=ms.length-2 by omega] at this
  obtain ⟨tp2,sub,ne,_⟩:=tp.step G.tr.nb.sym np' hst;have go2:=pF go hst;have g06:=g5.trans g6;have lf6:=lf5.kept g6;have lg6:=lg5.kept g6;have sf:s≠f:=(kH lf5.top ns).symm;have sg:s≠g:=(kH lg5.top ns).symm;have lfl:fa.length=i:=by rw [lf.len,lfs]
  have lgl:ga.length=i+1:=by rw [lg.len,lts]
  refine ⟨_,rfl,rfl,_,rfl,zB ?_⟩;refine ⟨_,rfl,.inl ⟨rfl,_,SqL.of lf6.top⟩,_,rfl,f,_,_,rfl,rfl,lf6.top,(by rw [ao,lfl];exact kR (by omega)),?_⟩;have lf7:=lf6.app hs (λ z=>(af f z).1 rfl) sf;have other:∀ b u,b≠f->H6 b=some u->upd H6 f (.lst (fa.map V.ref++[.ref s])) b=some u:=λ b u n e=>by rw [kO n];exact e
  have lg7:LsAt (upd H6 f (.lst (fa.map V.ref++[.ref s]))) g ga ts:=lg6.but λ b u hb e=>other b u (by
   rcases hb with rfl | hb
   ·exact fg.symm
   ·exact (ag b hb).1) e
  have hs7:=other s _ sf hs;have g07:Same H (upd H6 f (.lst (fa.map V.ref++[.ref s]))):=qW nf0 g06;have glf:gl≠f:=(ag gl (by rw [ega];simp)).1;have hgl7:=other gl _ glf (g6 _ _ hgl5);have topg7:=other g _ fg.symm (g6 _ _ topg5);generalize upd H6 f (.lst (fa.map V.ref++[.ref s]))=H7 at *;have G7:=G.kept g07;refine ⟨_,rfl,.inl ⟨rfl,_,SqL.of topg7⟩,_,rfl,_,rfl,g,_,_,_,rfl,rfl,SqL.of topg7,xG _ _,_,rfl,_,rfl,_,rfl,o,_,_,_,rfl,rfl,SqT.of G7.ord,atA,gl,s,ts.getLastD [],st,ms.getD (i+2) 0,rfl,hgl7,hs7,ne,sub,tlen,λ s' H8 g8 ns' hs'=>?_⟩;have lf8:=lf7.kept g8;have lg8:=lg7.kept g8;have s'f:s'≠f:=(kH lf7.top ns').symm;have s'g:s'≠g:=(kH lg7.top ns').symm;refine ⟨g,_,_,rfl,rfl,lg8.top,(by rw [ao,lgl];exact kR (by omega)),?_⟩;have lg9:=lg8.app hs' (λ z=>(ag g z).2 rfl) s'g;refine ⟨_,_,fa++[s],ga++[s'],_,_,rfl,qW ng0 (g07.trans g8),go2,(by simp [lfs]),(by simp [lts]),(by rw [hV,tkm];exact tp2),lf8.but λ b u hb e=>?_,lg9,λ x hx=>?_,λ x hx=>?_⟩
  ·have:b≠g:=by
    rcases hb with rfl | hb
    ·exact fg
    ·rcases bz.mp hb with q | q
     ·exact (af b q).2
     ·rw [cy.mp q];exact sg
   rw [kO this];exact e
  ·rcases bz.mp hx with q | q
   ·exact af x q
   ·rw [cy.mp q];exact ⟨sf,sg⟩
  ·rcases bz.mp hx with q | q
   ·exact ag x q
   ·rw [cy.mp q];exact ⟨s'f,s'g⟩
 ·rintro σ H4 ⟨x5,x6,fa,ga,fs,ts,rfl,g4,go,lfs,lts,tp,lf,lg,af,ag⟩
  have en:((((ms.map vn).length:Nat):Int)-2).toNat=ms.length-2:=by rw [ao];omega
  rw [en] at go;refine ⟨_,rfl,_,rfl,yS2,λ t nt=>?_⟩;have gt:=kE nt (.tup [.ref f,.ref g]);exact k fs ts go t f g fa ga _ (g4.trans gt) kC (lf.kept gt) (lg.kept gt)
theorem kBU {W:Rows} {ms:List Nat}:∀ {i:Nat} {fs ts:List (List Nat)},goF W ms i=some (fs,ts)->fs.length=i/\ts.length=i+1
 | 0,fs,ts,h=>by
  unfold goF at h;have h:=bj h;injection h with h1 h2
  subst h1 h2;exact ⟨rfl,rfl⟩
 | i+1,fs,ts,h=>by
  unfold goF at h
  split at h
  ·cases h
  ·rename_i f t e
   split at h
   ·cases h
   ·have h:=bj h
    injection h with h1 h2
    obtain ⟨a,b⟩:=kBU e;rw [<-h1,<-h2,cg,cg,a,b];exact ⟨rfl,rfl⟩
def fH:Sp:=λ vs H Q _=>∃ (w z o:av) (W:Rows) (ms:List Nat) (a b c:Nat) (Fs Ts:List (List Nat)),vs=[.ref w,.ref z,.ref o]/\Gw H w z o W ms a b c/\(Tri.E W a c/\(nxt W (a,c)).2=b)/\xW W a b c ms=some (Fs,Ts)/\∀ (t f g:av) (fa ga:List av) (H':Hp),Same H H'->H' t=some (.tup [.ref f,.ref g])->LsAt H' f fa Fs->LsAt H' g ga Ts->Q (.ref t) H'
theorem fA {f:av} {fd:ed} (F:Fun K "must_be_laid" "must_be_laid" jK f fd) (jB:Own.Has P w K mg base "must_have_base" ["web","base"] 6 (vA)) (kAR:Own.Has P w K mg base "laid" ["web","base","thing"] 5 (nR)):FnOk P w K mg base CX0 7 f fd ["web","base","order"] (fH):=by
 refine F.ok sc_must_be_laid (λ vs H Q E h=>?_) (λ cdv A outer s0 H vs Q E hr h=>?_)
 ·obtain ⟨w,z,o,W,ms,a,b,c,Fs,Ts,rfl,_⟩:=h
  rfl
 obtain ⟨w,z,o,W,ms,a,b,c,Fs,Ts,rfl,G,isb,hl,k⟩:=h
 refine ⟨_,(kF (jJ (Own.pe_has jB (hr.mono (by decide)) rfl (kB (pv 0) (kB (pv 1) kD))))
   (kF (qB (i:=3) sc_must_be_laid.nd rfl (dw rfl) (Own.pe_has kAR (hr.mono (by decide)) rfl (kB (pv 0) (kB (pv 1) (kB (pv 2) kD)))))
   (kF (xA (qD kGG (pv 3) vC (qK _)) (kL fJ) qN)
   (kL (kS (pv 3)))))),?_⟩
 refine ⟨_,rfl,_,rfl,w,z,W,a,b,c,rfl,G.web,G.tr,G.base,isb.1,isb.2,λ H1 g1=>?_⟩;refine ⟨_,rfl,_,rfl,_,rfl,w,z,o,W,ms,a,b,c,rfl,G.kept g1,(λ no=>by rw [hl] at no;cases no),λ Fs' Ts' e t f g fa ga H2 g2 ht lf lg=>?_⟩;rw [hl] at e;obtain ⟨rfl,rfl⟩ : Fs=Fs'/\Ts=Ts':=by injection e with e;injection e with e1 e2;exact ⟨e1,e2⟩
 refine ⟨_,rfl,rfl,_,rfl,zB ?_⟩;exact ⟨_,rfl,k t f g fa ga H2 (g1.trans g2) ht lf lg⟩
theorem kEZ {H:Hp} {f D:av} {fa:List av} {Zs:List (List Nat)} (lf:LsAt H f fa Zs) (few:Zs.length<=1000) {N0:St->Hp->Prop} (nD:H D=none) (fin:∀ σ H5,Same H H5->RowsT H5 D Zs->N0 σ H5) :
  uW (Itl K f) (sJ 0) (kOI D (tCB (λ xs H Q=>∃ p ys,xs=[.ref p]/\((SqL K H p ys/\∀ l,H l=none->Q (.ref l) (upd H l (.tup ys)))\/(SqT K H p ys/\Q (.ref p) H))) (kKI (kLA 0) kNB))) N0 [none] (upd H D (.lst [])):=by
 refine xM (xs:=fa.map V.ref) (λ i σ H2=>∃ (x0:Option V),σ=[x0]/\Same H H2/\RowsT H2 D (Zs.take i)) ⟨none,rfl,kE nD _,⟨[],kC,rfl,λ i b t e=>by simp at e⟩⟩ ?_ ?_ ?_
 ·rintro i σ H2 _ ⟨x0,rfl,g2,_⟩
  exact SqL.of (g2 _ _ lf.top)
 ·rintro i x σ H2 hx ⟨x0,rfl,g2,rt⟩
  rw [bh] at hx;obtain ⟨b,eb,rfl⟩:=eJ.mp hx;have hi:i<Zs.length:=by rw [<-lf.len];exact (aq.mp eb).1
  have et:=aa hi;have hb:=g2 _ _ (lf.row i b _ eb et);have tk:Zs.take (i+1)=Zs.take i++[Zs[i]]:=by rw [ig,et];rfl
  rw [tk];generalize Zs[i]=Z at *;refine ⟨_,rfl,b,_,rfl,.inl ⟨SqL.of hb,λ l nl=>?_⟩⟩;have gl:=kE nl (.tup (Z.map vn));have hl:=kC (H:=H2) (a:=l) (o:=.tup (Z.map vn));obtain ⟨ss,c1,c2,c3⟩:=rt.kept gl;have ll:ss.length<=1000:=by rw [c2,eK];omega
  refine ⟨_,c1,(by rw [ao];exact kR ll),?_⟩;exact ⟨_,rfl,qW nD (g2.trans gl),RowsT.app c1 c2 c3 hl⟩
 ·rintro σ H2 ⟨x0,rfl,g2,rt⟩
  rw [ao,lf.len,ji] at rt;exact fin _ H2 g2 rt
theorem RowsT.web {H:Hp} {D t:av} {Zs:List (List Nat)} (h:RowsT H D Zs) (nt:H t=none):∃ ss:List av,H D=some (.lst (ss.map V.ref))/\WebAt (upd H t (.tup (ss.map V.ref))) t Zs:=by
 obtain ⟨ss,h1,h2,h3⟩:=h;exact ⟨ss,h1,ss,kC,h2,λ j a row e1 e2=>by rw [kO (kH (h3 j a row e1 e2) nt)];exact h3 j a row e1 e2⟩
def fY:Sp:=λ vs H Q _=>∃ (w z o:av) (W:Rows) (ms:List Nat) (a b c:Nat) (Fs Ts:List (List Nat)),vs=[.ref w,.ref z,.ref o]/\Gw H w z o W ms a b c/\(Tri.E W a c/\(nxt W (a,c)).2=b)/\xW W a b c ms=some (Fs,Ts)/\∀ (t:av) (H':Hp),Same H H'->WebAt H' t Ts->Q (.ref t) H'
def tK:Sp:=λ vs H Q _=>∃ (w z o:av) (W:Rows) (ms:List Nat) (a b c:Nat) (Fs Ts:List (List Nat)),vs=[.ref w,.ref z,.ref o]/\Gw H w z o W ms a b c/\(Tri.E W a c/\(nxt W (a,c)).2=b)/\xW W a b c ms=some (Fs,Ts)/\∀ (t:av) (H':Hp),Same H H'->WebAt H' t Fs->Q (.ref t) H'
theorem Gw.few {H:Hp} {w z o:av} {W:Rows} {ms:List Nat} {a b c:Nat} {Fs Ts:List (List Nat)} (h:Gw H w z o W ms a b c) (e:xW W a b c ms=some (Fs,Ts)):Ts.length<=1000/\Fs.length<=1000:=by
 unfold xW at e
 split at e
 ·obtain ⟨p,q⟩:=kBU e
  have l1:=h.tr.le;have l2:=h.perm.length_eq;rw [fv] at l2;omega
 ·cases e
theorem kDG {f:av} {fd:ed} (F:Fun K "rounds" "rounds" wR f fd) (jN:Own.Has P w K mg base "must_be_laid" ["web","base","order"] 7 (fH)) (z_tuple:mg "tuple" = none):FnOk P w K mg base CX0 8 f fd ["web","base","order"] (fY):=by
 refine F.ok sc_rounds (λ vs H Q E h=>?_) (λ cdv A outer s0 H vs Q E hr h=>?_)
 ·obtain ⟨w,z,o,W,ms,a,b,c,Fs,Ts,rfl,_⟩:=h
  rfl
 obtain ⟨w,z,o,W,ms,a,b,c,Fs,Ts,rfl,G,isb,hl,k⟩:=h
 refine ⟨_,(kF (vB (Own.pe_has jN (hr.mono (by decide)) rfl (kB (pv 0) (kB (pv 1) (kB (pv 2) kD)))) (xI rfl (kY (kQ (i:=3) sc_rounds.nd rfl (dw rfl)) (kY (kQ (i:=4) sc_rounds.nd rfl (dw rfl)) jR))))
   (kL (kS (qV qM rfl z_tuple fu (kB (wE (Nc:=["top"]) (js:=[none]) rfl rfl (yX (pv 4)) (CS.of rfl rfl) rfl (λ C s₂ H₂ fp pins=>(kQ (i:=0) (show iz (α:=Str) ["top"] by decide +kernel) rfl (dw rfl))) (λ C s₂ H₂ fp pins D L=>(yY (yD (qV (show xH _ _ (λ xs H Q=>∃ p ys,xs=[.ref p]/\((SqL K H p ys/\∀ l,H l=none->Q (.ref l) (upd H l (.tup ys)))\/(SqT K H p ys/\Q (.ref p) H))) from qM) rfl z_tuple fu (kB (pv 0) kD)))))) kD))))),?_⟩
 refine ⟨_,rfl,_,rfl,_,rfl,w,z,o,W,ms,a,b,c,Fs,Ts,rfl,G,isb,hl,λ t f g fa ga H2 g2 ht lf lg=>?_⟩;refine ⟨t,_,rfl,SqT.of ht,rfl,_,_,rfl,_,_,rfl,rfl,?_⟩;refine ⟨_,rfl,g,rfl,⟨_,SqL.of lg.top⟩,λ D nD=>?_⟩;refine kEZ lg (G.few hl).1 nD λ σ H3 g3 rt=>?_;obtain ⟨ss,h1,h2,h3⟩:=id rt;refine ⟨D,_,rfl,.inl ⟨SqL.of h1,λ u nu=>?_⟩⟩;obtain ⟨ss',q1,q2⟩:=rt.web nu;rw [h1] at q1;have q1:ss.map V.ref=ss'.map V.ref:=by injection (bj q1)
 rw [<-q1] at q2;exact k u _ (g2.trans (g3.trans (kE nu _))) q2
theorem oQ {f:av} {fd:ed} (F:Fun K "stretches" "stretches" xN f fd) (jN:Own.Has P w K mg base "must_be_laid" ["web","base","order"] 7 (fH)) (z_tuple:mg "tuple" = none):FnOk P w K mg base CX0 8 f fd ["web","base","order"] (tK):=by
 refine F.ok sc_stretches (λ vs H Q E h=>?_) (λ cdv A outer s0 H vs Q E hr h=>?_)
 ·obtain ⟨w,z,o,W,ms,a,b,c,Fs,Ts,rfl,_⟩:=h
  rfl
 obtain ⟨w,z,o,W,ms,a,b,c,Fs,Ts,rfl,G,isb,hl,k⟩:=h
 refine ⟨_,(kF (vB (Own.pe_has jN (hr.mono (by decide)) rfl (kB (pv 0) (kB (pv 1) (kB (pv 2) kD)))) (xI rfl (kY (kQ (i:=3) sc_stretches.nd rfl (dw rfl)) (kY (kQ (i:=4) sc_stretches.nd rfl (dw rfl)) jR))))
   (kL (kS (qV qM rfl z_tuple fu (kB (wE (Nc:=["stretch"]) (js:=[none]) rfl rfl (yX (pv 3)) (CS.of rfl rfl) rfl (λ C s₂ H₂ fp pins=>(kQ (i:=0) (show iz (α:=Str) ["stretch"] by decide +kernel) rfl (dw rfl))) (λ C s₂ H₂ fp pins D L=>(yY (yD (qV (show xH _ _ (λ xs H Q=>∃ p ys,xs=[.ref p]/\((SqL K H p ys/\∀ l,H l=none->Q (.ref l) (upd H l (.tup ys)))\/(SqT K H p ys/\Q (.ref p) H))) from qM) rfl z_tuple fu (kB (pv 0) kD)))))) kD))))),?_⟩
 refine ⟨_,rfl,_,rfl,_,rfl,w,z,o,W,ms,a,b,c,Fs,Ts,rfl,G,isb,hl,λ t f g fa ga H2 g2 ht lf lg=>?_⟩;refine ⟨t,_,rfl,SqT.of ht,rfl,_,_,rfl,_,_,rfl,rfl,?_⟩;refine ⟨_,rfl,f,rfl,⟨_,SqL.of lf.top⟩,λ D nD=>?_⟩;refine kEZ lf (G.few hl).2 nD λ σ H3 g3 rt=>?_;obtain ⟨ss,h1,h2,h3⟩:=id rt;refine ⟨D,_,rfl,.inl ⟨SqL.of h1,λ u nu=>?_⟩⟩;obtain ⟨ss',q1,q2⟩:=rt.web nu;rw [h1] at q1;have q1:ss.map V.ref=ss'.map V.ref:=by injection (bj q1)
 rw [<-q1] at q2;exact k u _ (g2.trans (g3.trans (kE nu _))) q2
def wN (W:Rows) (T:List Nat):Nat:=(((cu (T.length-2)).filter λ i=>decide (Fc.looseN W T (i+1)=2)).headD 0)+1
def kGN (W:Rows) (T:List Nat):List Nat:=T.take (wN W T-1)++(rot (W.getD (T.getD (wN W T) 0) []) (T.getD (wN W T-1) 0)).take ((rot (W.getD (T.getD (wN W T) 0) []) (T.getD (wN W T-1) 0)).idxOf (T.getD (wN W T+1) 0)+1)++T.drop (wN W T+2)
inductive Pd (W:Rows):List Nat->List Nat->Prop
 | done {T:List Nat}:¬ T.length>2->Pd W T []
 | step {T rest:List Nat}:T.length>2->Pd W (kGN W T) rest->Pd W T (T.getD (wN W T) 0::rest)
def nU:Sp:=λ vs H Q _=>∃ (w tp:av) (W:Rows) (T:List Nat),vs=[.ref w,.ref tp]/\WebAt H w W/\H tp=some (.lst (T.map vn))/\(∀ x∈T,x<W.length)/\T.length<=42/\(∃ i,0<i/\i+1<T.length/\Fc.looseN W T i=2) /\
 ∀ (i:Nat) (H':Hp),Same H H'->i=wN W T->0<i->i+1<T.length->Fc.looseN W T i=2->Q (vn i) H'
theorem gP {f:av} {fd:ed} (F:Fun K "first_loose" "first_loose" jW f fd) (z_range:mg "range" = none) (z_len:mg "len" = none):FnOk P w K mg base CX0 1 f fd ["web","top"] (nU):=by
 refine F.ok sc_first_loose (λ vs H Q E h=>?_) (λ cdv A outer s0 H vs Q E hr h=>?_)
 ·obtain ⟨w,tp,W,T,rfl,_⟩:=h
  rfl
 obtain ⟨w,tp,W,T,rfl,hW,hT,rng,l42,ex,k⟩:=h
 refine ⟨_,(kF (kIQ (i:=2) (Nc:=["at","top","web"]) (js:=[none,some 1,some 0]) rfl rfl sc_first_loose.nd rfl (dw rfl) (cW rfl z_range (kB kK (kB (kX jI (kN kM rfl z_len di (kB (pv 1) kD)) kK) kD))) (CS2.of rfl rfl) rfl (λ C s₂ H₂ fp pins=>(kQ (i:=0) (show iz (α:=Str) ["at","top","web"] by decide +kernel) rfl (DI rfl))) (λ C s₂ H₂ fp pins D L=>(zR (qD gN (kN (show xH _ _ (λ xs H Q=>∃ p ys,xs=[.ref p]/\(SqL K H p ys\/SqT K H p ys)/\Q (.int ys.length) H) from kM) rfl z_len di (kB (wE (Nc:=["q","web","top","at"]) (js:=[none,some 2,some 1,some 0]) rfl rfl (show PI _ _ _ (kKN K _) from (yX (pv 1))) (CS.of rfl rfl) rfl (λ C s₂ H₂ fp pins=>(kQ (i:=0) (show iz (α:=Str) ["q","web","top","at"] by decide +kernel) rfl (dw rfl))) (λ C s₂ H₂ fp pins D L=>(zR (qD (show OpR _ _ (rIn K false) from wV) (pv 0) (kU (show IxR _ (kFV K) from qH) (pv 1) (kU (show IxR _ (kLJ K) from kZ) (pv 2) (pv 3) (λ _ _=>rfl)) (λ _ _=>rfl)) rfl) (yD (pv 0))))) kD)) kK (qK _)) (yD (pv 0)))))
   (kL (kS (kU kZ (pv 2) kK (λ _ _=>rfl))))),?_⟩
 obtain ⟨tw,hw1,lw,hw3⟩:=hW.at;refine ⟨_,rfl,tp,_,rfl,.inl (SqL.of hT),_,_,rfl,rfl,1,_,rfl,⟨by omega,by omega,(by rw [ao];omega),(by rw [ao];omega)⟩,λ D nD=>?_⟩;refine fR (lo:=1) (n:=((((T.map vn).length:Nat):Int)-1-1).toNat) (λ j σ H2=>∃ (x0:Option V),σ=[x0,some (.ref tp),some (.ref w)]/\Same H H2/\H2 D=some (.lst (((cu j).filter λ i=>decide (Fc.looseN W T (i+1)=2)).map λ i=>vn (i+1)))) ⟨none,rfl,kE nD _,kC⟩ ?_ ?_
 ·rintro j σ H2 hj ⟨x0,rfl,g2,hD⟩
  rw [ao] at hj;have hj:j+2<T.length:=by omega
  have atj:atI (T.map vn) (1+(j:Int))=some (vn (T.getD (j+1) 0)):=by
   rw [show (1+(j:Int))=((j+1:Nat):Int) by omega];exact qE (by rw [bh,ai,aa (show j+1<T.length by omega)];rfl)
  have plt:T.getD (j+1) 0<W.length:=by
   rw [ai,aa (show j+1<T.length by omega)];exact rng _ (gk _)
  have erow:W.getD (T.getD (j+1) 0) []=W[T.getD (j+1) 0]:=by rw [ai,aa plt];rfl
  have elo:Fc.looseN W T (j+1)=(T.filter λ q=>decide (q∈W[T.getD (j+1) 0])).length:=by unfold Fc.looseN;rw [erow]
  obtain ⟨b',e1,e2⟩:=hw3 _ _ (aa plt);have lf:=og (λ i=>decide (Fc.looseN W T (i+1)=2)) (cu j);rw [fv] at lf;generalize W[T.getD (j+1) 0]=row at *;refine ⟨_,rfl,tp,rfl,⟨_,SqL.of (g2 _ _ hT)⟩,λ D2 nD2=>?_⟩;refine xM (xs:=T.map vn) (λ m σ H3=>∃ (x:Option V),σ=[x,some (.ref w),some (.ref tp),some (.int (1+(j:Int)))]/\H3 D2=some (.lst (((T.take m).filter λ q=>decide (q∈row)).map vn))/\Same H2 H3) ⟨none,rfl,kC,kE nD2 _⟩ ?_ ?_ ?_
  ·rintro m σ H3 _ ⟨x,rfl,_,g3⟩
   exact SqL.of (g3 _ _ (g2 _ _ hT))
  ·rintro m v σ H3 hv ⟨x,rfl,hD2,g3⟩
   rw [bh] at hv;obtain ⟨q,eq',rfl⟩:=eJ.mp hv;have g23:=g2.trans g3;have lf2:=og (λ q=>decide (q∈row)) (T.take m);rw [eK] at lf2;refine ⟨_,rfl,_,rfl,_,rfl,_,rfl,tp,_,_,_,rfl,rfl,SqL.of (g23 _ _ hT),atj,w,_,_,_,rfl,rfl,SqT.of (g23 _ _ hw1),e1,b',_,rfl,.inr (SqT.of (g23 _ _ e2)),rfl,zZ _,_,rfl,?_⟩;rw [vJ,ig,eq',Cc,jz,eI];refine vS (λ c=>?_) (λ c=>?_)
   ·refine ⟨_,rfl,_,hD2,(by rw [ao];exact kR (by omega)),?_⟩
    refine ⟨_,rfl,?_,qW nD2 g3⟩;rw [oz (p:=λ q=>decide (q∈row)) (show decide (q∈row)=true from c)];exact kC
   ·rw [pd (p:=λ q=>decide (q∈row)) (show ¬ decide (q∈row)=true from c),xu,Bw,iN]
    exact ⟨_,rfl,hD2,g3⟩
  ·rintro σ H3 ⟨x,rfl,hD2,g3⟩
   rw [ao,ji] at hD2;have g23:=g2.trans g3;refine ⟨D2,_,rfl,.inl (SqL.of hD2),rfl,_,rfl,?_⟩;rw [ao,<-elo,yv,jz,eI];by_cases c:Fc.looseN W T (j+1)=2
   ·rw [show decide (V.int ((Fc.looseN W T (j+1):Nat):Int)=V.int 2)=true from decide_eq_true (by rw [c];rfl)]
    refine aL ⟨_,rfl,_,g3 _ _ hD,(by rw [ao];exact kR (by omega)),?_⟩;refine ⟨_,rfl,qW nD g23,?_⟩;rw [oz (p:=λ i=>decide (Fc.looseN W T (i+1)=2)) (decide_eq_true c),show V.int (1+(j:Int))=vn (j+1) by unfold vn;congr 1;omega];exact kC
   ·rw [show decide (V.int ((Fc.looseN W T (j+1):Nat):Int)=V.int 2)=false from decide_eq_false λ z=>c (by have:=V.int.inj z;omega)]
    refine zB ⟨_,rfl,g23,?_⟩;rw [pd (p:=λ i=>decide (Fc.looseN W T (i+1)=2)) (by simpa using c),xu,Bw,iN];exact g3 _ _ hD
 ·rintro σ H2 ⟨x0,rfl,g2,hD⟩
  rw [ao,show (((T.length:Nat):Int)-1-1).toNat=T.length-2 by omega] at hD;obtain ⟨i,h0,h1,hi⟩:=ex;have mi:i-1∈(cu (T.length-2)).filter λ i=>decide (Fc.looseN W T (i+1)=2):=fj.mpr ⟨gw.mpr (by omega),decide_eq_true (by rw [show i-1+1=i by omega];exact hi)⟩
  have all:∀ x∈(cu (T.length-2)).filter λ i=>decide (Fc.looseN W T (i+1)=2),x+2<T.length/\Fc.looseN W T (x+1)=2:=λ x hx=>by
   obtain ⟨m1,m2⟩:=fj.mp hx;have:=gw.mp m1;exact ⟨by omega,of_decide_eq_true m2⟩
  have el:wN W T=((cu (T.length-2)).filter λ i=>decide (Fc.looseN W T (i+1)=2)).headD 0+1:=rfl;generalize (cu (T.length-2)).filter (λ i=>decide (Fc.looseN W T (i+1)=2))=L at *
  cases L with
  | nil=>cases mi
  | cons x L =>
   obtain ⟨a1,a2⟩:=all x (by simp);refine ⟨_,rfl,D,_,_,_,rfl,rfl,SqL.of hD,qE (j:=0) rfl,k (x+1) H2 g2 el.symm (by omega) (by omega) a2⟩
def fZ:Sp:=λ vs H Q _=>∃ (r:av) (row:List Nat) (x y:Nat),vs=[.ref r,vn x,vn y]/\H r=some (.tup (row.map vn))/\x∈row/\y∈row/\row.length<=42 /\
 ∀ (l:av) (H':Hp),Same H H'->H' l=some (.lst (((rot row x).take ((rot row x).idxOf y+1)).map vn))->Q (.ref l) H'
theorem kAG {f:av} {fd:ed} (F:Fun K "from_to" "from_to" zL f fd) (dO:Own.Has P w K mg base "from_on" ["row","first"] 1 (gC)) (z_list:mg "list" = none):FnOk P w K mg base CX0 2 f fd ["row","first","last"] (fZ):=by
 refine F.ok sc_from_to (λ vs H Q E h=>?_) (λ cdv A outer s0 H vs Q E hr h=>?_)
 ·obtain ⟨r,row,x,y,rfl,_⟩:=h
  rfl
 obtain ⟨r,row,x,y,rfl,hr',hx,hy,l42,k⟩:=h
 refine ⟨_,(kF (qB (i:=3) sc_from_to.nd rfl (dw rfl) (Own.pe_has dO (hr.mono (by decide)) rfl (kB (pv 0) (kB (pv 1) kD))))
   (kL (kS (qV cE rfl z_list BX (kB (qJ kBD (pv 3) jF (qI (kX qO (xB xj xk xm dA (pv 3) (kB (pv 2) kD)) kK))) kD))))),?_⟩
 refine ⟨_,rfl,_,rfl,r,row,x,rfl,.inr hr',hx,by omega,λ t H1 g1 ht=>?_⟩;have mr:y∈rot row x:=((kFQ row x).mem y).mp hy;have lr:(rot row x).length=row.length:=(kFQ row x).perm.length_eq.symm;have il:=gh mr;refine ⟨_,rfl,_,rfl,.inr (.inl ⟨rfl,.inr ⟨_,ht⟩⟩),_,rfl,t,(rot row x).map ci,y,(rot row x).idxOf y,rfl,rfl,SqT.of (by rw [ht,yB]),qZ mr,_,_,rfl,rfl,_,rfl,t,_,rfl,ht,λ p H2 g2 hp=>?_⟩;rw [show (((rot row x).idxOf y:Nat):Int)+1=(((rot row x).idxOf y+1:Nat):Int) by omega,wA _ (by rw [ao];omega),<-ni] at hp;exact ⟨p,_,rfl,.inr (SqT.of hp),λ l nl=>k l _ (g1.trans (Same.trans g2 (kE nl _))) kC⟩
def kDQ (K0:Nat) (σ:St) (H:Hp):Nat:=match σ with
 | [_,_,_,_,_,_,some (.ref s),_,_]=>K0-lO (H s)
 | _=>0
theorem kBH {W:Rows} {T off:List Nat} {a b:Nat} (h:Fc.Pel W a b T off):∀ x∈T,x<W.length:=λ x hx=>by
 obtain ⟨u,hu⟩:=mN hx;obtain ⟨v,hv⟩:=vF hx;obtain ⟨row,_,_,er,_⟩:=h.row u x v hu hv;exact (aq.mp er).1
theorem aD {T:List Nat} {i:Nat} (h:i<T.length):atI (T.map vn) (i:Int)=some (vn (T.getD i 0)):=qE (by rw [bh,ai,aa h];rfl)
def cP:Sp:=λ vs H Q _=>∃ (w z:av) (W:Rows) (a b c:Nat),vs=[.ref w,.ref z]/\WebAt H w W/\Tr W/\Good W/\H z=some (.tup [vn a,vn b,vn c])/\Tri.E W a c/\(nxt W (a,c)).2=b /\
 ∀ (o:av) (rest:List Nat) (H':Hp),Same H H'->H' o=some (.tup ((a::b::rest.reverse).map vn))->Fc.Peels W a b [a,c,b] [] rest->Pd W [a,c,b] rest->Q (.ref o) H'
theorem rP {f:av} {fd:ed} (F:Fun K "order_of" "order_of" yM f fd) (jB:Own.Has P w K mg base "must_have_base" ["web","base"] 6 (vA)) (wO:Own.Has P w K mg base "first_loose" ["web","top"] 1 (nU)) (dN:Own.Has P w K mg base "from_to" ["row","first","last"] 2 (fZ)) (z_len:mg "len" = none) (z_tuple:mg "tuple" = none):FnOk P w K mg base CX0 7 f fd ["web","base"] (cP):=by
 refine F.ok sc_order_of (λ vs H Q E h=>?_) (λ cdv A outer s0 H vs Q E hr h=>?_)
 ·obtain ⟨w,z,W,a,b,c,rfl,_⟩:=h
  rfl
 obtain ⟨w,z,W,a,b,c,rfl,hW,TW,G,hz,hE,hb,k⟩:=h
 refine ⟨_,(kF (jJ (Own.pe_has jB (hr.mono (by decide)) rfl (kB (pv 0) (kB (pv 1) kD))))
   (kF (vB (pv 1) (xI rfl (kY (kQ (i:=2) sc_order_of.nd rfl (dw rfl)) (kY (kQ (i:=3) sc_order_of.nd rfl (dw rfl)) (kY (kQ (i:=4) sc_order_of.nd rfl (dw rfl)) jR)))))
   (kF (qB (i:=5) sc_order_of.nd rfl (dw rfl) (jH (kB (pv 2) (kB (pv 4) (kB (pv 3) kD)))))
   (kF (qB (i:=6) sc_order_of.nd rfl (dw rfl) (jH kD))
   (kF (rM iM (qD kKM (kN kM rfl z_len di (kB (pv 5) kD)) kK (qK _)) (kF (qB (i:=7) sc_order_of.nd rfl (dw rfl) (Own.pe_has wO (hr.mono (by decide)) rfl (kB (pv 0) (kB (pv 5) kD))))
   (kF (qB (i:=8) sc_order_of.nd rfl (dw rfl) (kU kZ (pv 5) (pv 7) (λ _ _=>rfl)))
   (kF (qB (i:=5) sc_order_of.nd rfl (dw rfl) (kX vD (kX vD (qJ jQ (pv 5) jF (qI (kX jI (pv 7) kK))) (Own.pe_has dN (hr.mono (by decide)) rfl (kB (kU qH (pv 0) (pv 8) (λ _ _=>rfl)) (kB (kU kZ (pv 5) (kX jI (pv 7) kK) (λ _ _=>rfl)) (kB (kU kZ (pv 5) (kX qO (pv 7) kK) (λ _ _=>rfl)) kD))))) (qJ jQ (pv 5) (qI (kX qO (pv 7) kK)) jF)))
   (kL (jJ (xB eE iH iI jX (pv 6) (kB (pv 8) kD))))))))
   (kL (kS (kX kJA (jZ (kB (pv 2) (kB (pv 3) kD))) (qV qM rfl z_tuple fu (kB (kIT (pv 6) (qI (wD yC kK))) kD)))))))))),?_⟩
 refine ⟨_,rfl,_,rfl,w,z,W,a,b,c,rfl,hW,TW,hz,hE,hb,λ H1 g1=>?_⟩;refine ⟨_,rfl,z,_,rfl,SqT.of (g1 _ _ hz),rfl,_,_,rfl,_,_,rfl,_,_,rfl,rfl,?_⟩;refine ⟨_,rfl,_,rfl,_,rfl,yS3,λ tp ntp=>?_⟩;have gt:=kE ntp (.lst [vn a,vn c,vn b]);have htp:=kC (H:=H1) (a:=tp) (o:=.lst [vn a,vn c,vn b]);refine ⟨yS0,λ fo nfo=>?_⟩;have gf:=kE nfo (.lst []);have hfo:=kC (H:=upd H1 tp (.lst [vn a,vn c,vn b])) (a:=fo) (o:=.lst []);have g2:=g1.trans (gt.trans gf);have nfo0:H fo=none:=(g1.trans gt).free nfo;have tf:tp≠fo:=kH htp nfo;have htp2:=gf _ _ htp;generalize upd (upd H1 tp (.lst [vn a,vn c,vn b])) fo (.lst [])=H2 at *;have S:=TW.nb;have l42:=TW.le
 have hR:R W c b a:=by
  obtain ⟨v,rv,nv,_⟩:=yJ S hE;rw [nv] at hb;exact hb ▸ rv
 refine pY (λ σ H3=>∃ (tp:av) (x7 x8:Option V) (T off:List Nat),σ=[some (.ref w),some (.ref z),some (vn a),some (vn b),some (vn c),some (.ref tp),some (.ref fo),x7,x8]/\Same H H3/\H3 tp=some (.lst (T.map vn))/\H3 fo=some (.lst (off.map vn))/\tp≠fo/\Fc.Pel W a b T off/\(∀ x∈off,x<W.length)/\(∀ rest,Fc.Peels W a b T off rest->Fc.Peels W a b [a,c,b] [] (off++rest))/\∀ rest,Pd W T rest->Pd W [a,c,b] (off++rest)) (kDQ (W.length+1))
  ⟨tp,none,none,[a,c,b],[],rfl,g2,htp2,hfo,tf,Fc.Pel.start G hR,(by simp),(λ rest h=>h),λ rest h=>h⟩ ?_ ?_
 ·rintro σ H3 ⟨tp,x7,x8,T,off,rfl,g3,hT,hF,tf,hP,offr,hist,histd⟩
  have rng:=kBH hP
  have Tl:T.length<=W.length:=by
   have:=de hP.nd (l₂:=cu W.length) λ x hx=>gw.mpr (rng x hx);rwa [fv] at this
  have ol:off.length<=W.length:=by
   have:=de hP.nof (l₂:=cu W.length) λ x hx=>gw.mpr (offr x hx);rwa [fv] at this
  have two:=hP.two;refine ⟨_,rfl,tp,_,rfl,.inl (SqL.of hT),_,_,rfl,rfl,_,rfl,?_⟩;rw [ao];by_cases cc:T.length>2
  ·rw [decide_eq_true (show ((T.length:Nat):Int)>2 by omega)]
   refine aL ?_;refine ⟨_,rfl,_,rfl,w,tp,W,T,rfl,hW.kept g3,hT,rng,by omega,hP.looseN G (by omega),λ i H4 g4 ei h0 h1 lo=>?_⟩;obtain ⟨mid,row,er,mu,mw,ert,hP2,hist2⟩:=hP.turn G h0 h1 lo
   have enx:kGN W T=T.take (i-1)++(T.getD (i-1) 0::mid++[T.getD (i+1) 0])++T.drop (i+2):=by
    unfold kGN;rw [<-ei,show W.getD (T.getD i 0) []=row by rw [ai,er];rfl,ert]
   have g04:=g3.trans g4;have hT4:=g4 _ _ hT;have lrow:=S.len er;refine ⟨_,rfl,_,rfl,tp,_,_,_,rfl,rfl,SqL.of hT4,aD (by omega),?_⟩;refine ⟨_,rfl,_,rfl,_,_,rfl,rfl,_,rfl,tp,_,rfl,SqL.of hT4,λ p1 m1=>?_⟩;rw [show ((i:Int)-1)=((i-1:Nat):Int) by omega,wA _ (by rw [ao];omega),<-ni];have gp1:=kE m1 (.lst ((T.take (i-1)).map vn));have hp1:=kC (H:=H4) (a:=p1) (o:=.lst ((T.take (i-1)).map vn));have g05:=g04.trans gp1;have hT5:=gp1 _ _ hT4;have hF5:=gp1 _ _ (g4 _ _ hF);generalize upd H4 p1 (.lst ((T.take (i-1)).map vn))=H5 at *;obtain ⟨tw,hw1,lw,hw3⟩:=(hW.kept g05).at;obtain ⟨b',e1,e2⟩:=hw3 _ _ er;have ati1:atI (T.map vn) ((i:Int)-1)=some (vn (T.getD (i-1) 0)):=by rw [show ((i:Int)-1)=((i-1:Nat):Int) by omega];exact aD (by omega)
   have ati2:atI (T.map vn) ((i:Int)+1)=some (vn (T.getD (i+1) 0)):=aD (i:=i+1) (by omega);refine ⟨_,rfl,_,rfl,w,_,_,_,rfl,rfl,SqT.of hw1,e1,_,rfl,_,rfl,_,_,rfl,rfl,tp,_,_,_,rfl,rfl,SqL.of hT5,ati1,_,rfl,_,rfl,_,_,rfl,rfl,tp,_,_,_,rfl,rfl,SqL.of hT5,ati2,b',row,_,_,rfl,e2,mu,mw,by omega,λ l H6 g6 hl=>?_⟩;rw [ert] at hl;have hT6:=g6 _ _ hT5;have hF6:=g6 _ _ hF5;have hp6:=g6 _ _ hp1;have g06:=g05.trans g6;have rng2:=kBH hP2
   have T2l:(T.take (i-1)++(T.getD (i-1) 0::mid++[T.getD (i+1) 0])++T.drop (i+2)).length<=W.length:=by
    have:=de hP2.nd (l₂:=cu W.length) λ x hx=>gw.mpr (rng2 x hx);rwa [fv] at this
   generalize hst:T.getD (i-1) 0::mid++[T.getD (i+1) 0]=st at *;rw [cg,cg] at T2l;refine ⟨p1,l,_,_,rfl,rfl,hp6,hl,(by rw [ao,ao];exact jj (kR (by omega))),λ p3 m3=>?_⟩;have gp3:=kE m3 (.lst ((T.take (i-1)).map vn++st.map vn));have hp3:=kC (H:=H6) (a:=p3) (o:=.lst ((T.take (i-1)).map vn++st.map vn));have hT7:=gp3 _ _ hT6;have hF7:=gp3 _ _ hF6;have g07:=g06.trans gp3;generalize upd H6 p3 (.lst ((T.take (i-1)).map vn++st.map vn))=H7 at *;refine ⟨_,rfl,_,rfl,_,_,rfl,rfl,_,rfl,tp,_,rfl,SqL.of hT7,λ p4 m4=>?_⟩;rw [show ((i:Int)+2)=((i+2:Nat):Int) by omega,wB _ (by rw [ao];omega),<-ua];have gp4:=kE m4 (.lst ((T.drop (i+2)).map vn));have hp4:=kC (H:=H7) (a:=p4) (o:=.lst ((T.drop (i+2)).map vn));have hp38:=gp4 _ _ hp3;have hF8:=gp4 _ _ hF7;have g08:=g07.trans gp4;generalize upd H7 p4 (.lst ((T.drop (i+2)).map vn))=H8 at *;refine ⟨p3,p4,_,_,rfl,rfl,hp38,hp4,(by rw [cg,ao,ao,ao];exact jj (kR (by omega))),λ p5 m5=>?_⟩;rw [<-eI,<-eI];generalize hT':T.take (i-1)++st++T.drop (i+2)=T' at *;have gp5:=kE m5 (.lst (T'.map vn));have hp5:=kC (H:=H8) (a:=p5) (o:=.lst (T'.map vn));have hF9:=gp5 _ _ hF8;have g09:=g08.trans gp5;have p5f:p5≠fo:=(kH hF8 m5).symm;generalize upd H8 p5 (.lst (T'.map vn))=H9 at *;refine ⟨_,rfl,.inl ⟨rfl,_,SqL.of hF9⟩,_,rfl,fo,_,_,rfl,rfl,hF9,(by rw [ao];exact kR (by omega)),?_⟩;have eoff:off.map vn++[vn (T.getD i 0)]=(off++[T.getD i 0]).map vn:=by rw [eI];rfl
   rw [eoff];refine ⟨⟨p5,_,_,T',off++[T.getD i 0],rfl,qW nfo0 g09,(by rw [kO p5f];exact hp5),kC,p5f,hP2,λ x hx=>?_,λ rest hr=>?_,λ rest hr=>?_⟩,?_⟩
   ·rcases bz.mp hx with q | q
    ·exact offr x q
    ·rw [cy.mp q]
     exact (aq.mp er).1
   ·rw [cv]
    exact hist _ (hist2 rest hr)
   ·rw [cv]
    refine histd _ ?_;rw [ei];exact .step cc (by rw [enx];exact hr)
   ·show W.length+1-lO (upd H9 fo (.lst ((off++[T.getD i 0]).map vn)) fo)<W.length+1-lO (H3 fo)
    rw [kC,hF];show W.length+1-((off++[T.getD i 0]).map vn).length<W.length+1-(off.map vn).length;rw [ao,ao,cg,gi];omega
  ·rw [decide_eq_false (show ¬ ((T.length:Nat):Int)>2 by omega)]
   refine zB ?_;have T2:=hP.two_end (by omega);subst T2;have fin:=hist [] (.done hP);rw [iN] at fin;have find:=histd [] (.done (by simp));rw [iN] at find;refine ⟨_,rfl,_,rfl,yS2,λ t2 n2=>?_⟩;have gt2:=kE n2 (.tup [vn a,vn b]);have ht2:=kC (H:=H3) (a:=t2) (o:=.tup [vn a,vn b]);have hF4:=gt2 _ _ hF;have g04:=g3.trans gt2;generalize upd H3 t2 (.tup [vn a,vn b])=H4 at *;refine ⟨_,rfl,_,rfl,_,rfl,fo,_,rfl,rfl,hF4,λ p np=>⟨p,_,rfl,.inl ⟨SqL.of kC,λ t3 n3=>?_⟩⟩⟩;have gp:=kE np (.lst (off.map vn).reverse);have g3':=kE n3 (.tup (off.map vn).reverse);refine ⟨t2,t3,_,_,rfl,rfl,g3' _ _ (gp _ _ ht2),kC,(by rw [wg,ao];exact jj (kR (by show 2+_<=_;omega))),λ o H5 g5 ho=>?_⟩;refine k o off H5 (g04.trans (gp.trans (g3'.trans g5))) ?_ fin find;rw [ho,<-List.map_reverse]
   rfl
 ·rintro σ H1 Q1 Q2 m ⟨v,e1,p,ys,e2,e3,i,j,e4,e5,kk,e6,q1⟩
  exact ⟨v,e1,p,ys,e2,e3,i,j,e4,e5,kk,e6,m _ _ q1⟩
def bG (T:List (List Nat)):BQ:=.list (T.map gH)
theorem RowsT.dt {H:Hp} {s:av} {T:List (List Nat)} (h:RowsT H s T):Dt K H (bG T) (.ref s):=by
 obtain ⟨ss,h1,h2,h3⟩:=h;unfold bG Dt;exact ⟨s,_,rfl,SqL.of h1,sN h2 h3⟩
theorem rH (T:List (List Nat)):mj (bG T)=true:=by
 obtain ⟨h1,h2⟩:=kEU T;unfold bG mj;simp only [kq,ou,h1]
 first | (simp;omega) | (rw [eZ];exact ⟨rfl,decide_eq_true (by omega)⟩) | simp_all
theorem kCW (T:List (List Nat)):iw (bG T) (bG T)=true:=by
 unfold bG;simp [iw,kFN]
def tN:Sp:=λ vs H Q _=>∃ (x y v:Nat),vs=[vn x,vn y,vn v]/\∀ (t:av) (H':Hp),Same H H'->H t=none->H' t=some (.tup ((Fc.nf x y v).map vn))->Q (.ref t) H'
def gD:Sp:=λ vs H Q _=>∃ (w z o q:av) (W:Rows) (ms:List Nat) (a b c:Nat) (Fs:List (List Nat)),vs=[.ref w,.ref z,.ref o,.ref q]/\WebAt H w W/\Tr W/\H z=some (.tup [vn a,vn b,vn c])/\H o=some (.tup (ms.map vn))/\WebAt H q Fs/\ms.length=W.length/\Fs.length+2=W.length/\(∀ F∈Fs,2<=F.length/\F.length<=42)/\(Fc.nf a c b::Fc.mkF ms Fs).Perm (Fc.facesU W)/\∀ H',Same H H'->Q (.bl true) H'
theorem rR {f:av} {fd:ed} (F:Fun K "_law_face" "_law_face" yO f fd) (z_min:mg "min" = none):FnOk P w K mg base CX0 1 f fd ["_law_x","_law_y","_law_z"] (tN):=by
 refine F.ok sc_law_face (λ vs H Q E h=>?_) (λ cdv A outer s0 H vs Q E hr h=>?_)
 ·obtain ⟨x,y,v,rfl,_⟩:=h
  rfl
 obtain ⟨x,y,v,rfl,k⟩:=h
 refine ⟨_,(kF (qB (i:=3) sc_law_face.nd rfl (dw rfl) (kN (kEM rfl) rfl z_min yr (kB (pv 0) (kB (pv 1) (kB (pv 2) kD)))))
   (kF (xA (qD gN (pv 3) (pv 0) (qK _)) (kL (kS (jZ (kB (pv 0) (kB (pv 1) (kB (pv 2) kD)))))) qN)
   (kF (xA (qD gN (pv 3) (pv 1) (qK _)) (kL (kS (jZ (kB (pv 1) (kB (pv 2) (kB (pv 0) kD)))))) qN)
   (kL (kS (jZ (kB (pv 2) (kB (pv 0) (kB (pv 1) kD))))))))),?_⟩
 refine ⟨_,rfl,_,rfl,_,rfl,x,y,v,rfl,?_⟩
 have em:(if (y:Int)<(x:Int) then (if (v:Int)<(y:Int) then (v:Int) else (y:Int)) else if (v:Int)<(x:Int) then (v:Int) else (x:Int))=((Fc.lst3 x y v:Nat):Int):=by
  unfold Fc.lst3
  split<;>split<;>split<;>first | rfl | omega | (split<;>first | rfl | omega)
 rw [em];have tup:∀ (H1:Hp) (t:av) (p q r:Nat),Same H H1->H1 t=none->Fc.nf x y v=[p,q,r]->(λ v H'=>Q v H') (.ref t) (upd H1 t (.tup [vn p,vn q,vn r])):=λ H1 t p q r g nt e=>k t _ (g.trans (kE nt _)) (g.free nt) (by rw [e];exact kC);have g0:Same H H:=Same.refl H
 have vi:∀ {p q:Nat},(V.int ((p:Nat):Int)=vn q)->p=q:=λ {p q} h=>by
  injection h with h
  omega
 refine ⟨_,rfl,_,rfl,rfl,_,rfl,vS (λ cc=>?_) (λ cc=>?_)⟩
 ·have c1:=vi (of_decide_eq_true cc)
  exact ⟨_,rfl,_,rfl,_,rfl,yS3,λ t nt=>tup H t x y v g0 nt (by unfold Fc.nf;rw [if_pos c1])⟩
 have c1:Fc.lst3 x y v≠x:=λ q=>cc (decide_eq_true (by rw [q];rfl));refine ⟨_,rfl,_,rfl,rfl,_,rfl,vS (λ dd=>?_) (λ dd=>?_)⟩
 ·have c2:=vi (of_decide_eq_true dd)
  exact ⟨_,rfl,_,rfl,_,rfl,yS3,λ t nt=>tup H t y v x g0 nt (by unfold Fc.nf;rw [if_neg c1,if_pos c2])⟩
 have c2:Fc.lst3 x y v≠y:=λ q=>dd (decide_eq_true (by rw [q];rfl));exact ⟨_,rfl,_,rfl,_,rfl,yS3,λ t nt=>tup H t v x y g0 nt (by unfold Fc.nf;rw [if_neg c1,if_neg c2])⟩
theorem aK {f:av} {fd:ed} (F:Fun K "_law_faces_right" "_law_faces_right" qU f fd) (vK:Own.Has P w K mg base "_law_face" ["_law_x","_law_y","_law_z"] 1 (tN)) (zE:Own.Has P w K mg base "faces" ["web"] 3 (bD)) (z_enumerate:mg "enumerate" = none) (z_range:mg "range" = none) (z_len:mg "len" = none) (z_sorted:mg "sorted" = none):FnOk P w K mg base CX0 4 f fd ["_law_web_here","_law_base","_law_order","_law_parts"] (gD):=by
 refine F.ok sc_law_faces_right (λ vs H Q EX h=>?_) (λ cdv A outer s0 H vs Q EX hr h=>?_)
 ·obtain ⟨w,z,o,q,W,ms,a,b,c,Fs,rfl,_⟩:=h
  rfl
 obtain ⟨w,z,o,q,W,ms,a,b,c,Fs,rfl,hW,TW,hz,ho,hq,lm,lF,l42,per,k⟩:=h
 refine ⟨_,(kF (qB (i:=4) sc_law_faces_right.nd rfl (dw rfl) (jH (kB (Own.pe_has vK (hr.mono (by decide)) rfl (kB (kU qH (pv 1) kK (λ _ _=>rfl)) (kB (kU qH (pv 1) kK (λ _ _=>rfl)) (kB (kU qH (pv 1) kK (λ _ _=>rfl)) kD)))) kD)))
   (kF (yR iM rfl (bI false rfl z_enumerate (kB (pv 3) kD)) (xI rfl (kY (kQ (i:=5) sc_law_faces_right.nd rfl (dw rfl)) (kY (kQ (i:=6) sc_law_faces_right.nd rfl (dw rfl)) jR))) (kL (yR iM rfl (yS rfl z_range (kB (kX jI (kN kM rfl z_len di (kB (pv 6) kD)) kK) kD)) (kQ (i:=7) sc_law_faces_right.nd rfl (dw rfl)) (kL (jJ (xB eE iH iI jX (pv 4) (kB (Own.pe_has vK (hr.mono (by decide)) rfl (kB (kU qH (pv 6) (pv 7) (λ _ _=>rfl)) (kB (kU qH (pv 6) (kX qO (pv 7) kK) (λ _ _=>rfl)) (kB (kU qH (pv 2) (kX qO (pv 5) kK) (λ _ _=>rfl)) kD)))) kD)))))))
   (kL (kS (uM (kAB hr.units) (kN aU rfl z_sorted ug (kB (pv 4) kD)) (Own.pe_has zE (hr.mono (by decide)) rfl (kB (pv 0) kD)) (qK _)))))),?_⟩
 obtain ⟨qs,q1,lqs,q3⟩:=id hq
 have few:(Fc.nf a c b::Fc.mkF ms Fs).length<=1000:=by
  rw [per.length_eq];have f:=TW.flat;unfold Fc.facesS at f;rw [(Fc.sortL_perm _).length_eq] at f;have:=Fc.ties_len TW.nb;have:=TW.cnt;have:=TW.le;omega
 refine ⟨_,rfl,z,_,_,_,rfl,rfl,SqT.of hz,qE (j:=0) rfl,_,rfl,z,_,_,_,rfl,rfl,SqT.of hz,qE (j:=2) rfl,_,rfl,z,_,_,_,rfl,rfl,SqT.of hz,qE (j:=1) rfl,a,c,b,rfl,λ t0 H1 g1 n0 h0=>?_⟩;refine ⟨yS1,λ m nm=>?_⟩;have g2:=kE nm (.lst [.ref t0])
 have m0:RowsT (upd H1 m (.lst [.ref t0])) m [Fc.nf a c b]:=⟨[t0],kC,rfl,λ i x t e1 e2=>by
  match i,e1,e2 with
  | 0,e1,e2=>cases e1;cases e2;exact g2 _ _ h0
  | i+1,e1,e2=>simp at e1⟩
 have nm0:H m=none:=g1.free nm;have gA:=g1.trans g2
 refine ⟨_,rfl,q,rfl,⟨_,SqT.of (gA _ _ q1)⟩,bX (k:=false) (xs:=qs.map V.ref) (λ i σ H2=>∃ (x5 x6 x7:Option V),σ=[some (.ref w),some (.ref z),some (.ref o),some (.ref q),some (.ref m),x5,x6,x7]/\Same H H2/\RowsT H2 m (Fc.nf a c b::Fc.mkF ms (Fs.take i)))
  ⟨none,none,none,rfl,gA,(by rw [yo];exact m0)⟩ ?_ ?_ ?_⟩
 ·rintro i σ H2 _ ⟨x5,x6,x7,rfl,gB,_⟩
  exact SqT.of (gB _ _ q1)
 ·rintro i x T σ H2 hx nT ⟨x5,x6,x7,rfl,gB,rm⟩
  rw [bh] at hx;obtain ⟨p,ep,rfl⟩:=eJ.mp hx;have hi:i<Fs.length:=by rw [<-lqs];exact (aq.mp ep).1
  have et:=aa hi;have hp0:=q3 i p _ ep et;obtain ⟨f2,f42⟩:=l42 _ (gk hi);have tks:Fs.take (i+1)=Fs.take i++[Fs[i]]:=by rw [ig,et];rfl
  have lti:(Fs.take i).length=i:=by rw [eK];omega
  have mks:Fc.mkF ms (Fs.take (i+1))=Fc.mkF ms (Fs.take i)++Fc.pf Fs[i] (ms.getD (i+2) 0):=by rw [tks,Fc.mkF_snoc,lti]
  generalize Fs[i]=G at *;have gT':=kE nT (.tup [.int i,.ref p]);have gT:=gB.trans gT';have rmT:=rm.kept gT';refine ⟨T,_,rfl,SqT.of kC,rfl,_,_,rfl,_,_,rfl,rfl,?_⟩;generalize upd H2 T (.tup [.int i,.ref p])=H3 at *;have hp:=gT _ _ hp0;refine ⟨_,rfl,p,_,rfl,.inr (SqT.of hp),_,_,rfl,rfl,?_⟩;have lp:=Fc.pf_len G (ms.getD (i+2) 0)
  refine ⟨_,rfl,(by rw [ao];omega),(by rw [ao];omega),xZ (lo:=0) (n:=((((G.map vn).length:Nat):Int)-1).toNat) (λ j σ H4=>∃ (x7:Option V),σ=[some (.ref w),some (.ref z),some (.ref o),some (.ref q),some (.ref m),some (.int i),some (.ref p),x7]/\Same H H4/\RowsT H4 m ((Fc.nf a c b::Fc.mkF ms (Fs.take i))++(Fc.pf G (ms.getD (i+2) 0)).take j))
   ⟨_,rfl,gT,by rw [yo,iN];exact rmT⟩ ?_ ?_⟩
  ·rintro j σ H4 hj ⟨x7,rfl,g4,rm4⟩
   rw [ao] at hj;have hj:j+1<G.length:=by omega
   have p4:=g4 _ _ hp0;have o4:=g4 _ _ ho;obtain ⟨ss,s1,s2,s3⟩:=id rm4;have a1:atI (G.map vn) (0+(j:Int))=some (vn (G.getD j 0)):=by rw [show (0+(j:Int))=((j:Nat):Int) by omega];exact aD (by omega)
   have a2:atI (G.map vn) (0+(j:Int)+1)=some (vn (G.getD (j+1) 0)):=by rw [show (0+(j:Int)+1)=((j+1:Nat):Int) by omega];exact aD hj
   have a3:atI (ms.map vn) ((i:Int)+2)=some (vn (ms.getD (i+2) 0)):=by rw [show ((i:Int)+2)=((i+2:Nat):Int) by omega];exact aD (by omega)
   refine ⟨_,rfl,.inl ⟨rfl,_,SqL.of s1⟩,_,rfl,_,rfl,p,_,_,_,rfl,rfl,SqT.of p4,a1,_,rfl,_,rfl,_,_,rfl,rfl,p,_,_,_,rfl,rfl,SqT.of p4,a2,_,rfl,_,rfl,_,_,rfl,rfl,o,_,_,_,rfl,rfl,SqT.of o4,a3,G.getD j 0,G.getD (j+1) 0,ms.getD (i+2) 0,rfl,λ t H5 g5 nt ht=>?_⟩;refine ⟨m,_,_,rfl,rfl,g5 _ _ s1,?_,?_⟩
   ·have:=Fc.mkF_mono ms (Fs.take (i+1)) (Fs.drop (i+1))
    rw [eW,mks,cg] at this;rw [ao,s2,cg,eK];rw [eX] at few ⊢;exact kR (by omega)
   refine ⟨_,rfl,qW nm0 (g4.trans g5),?_⟩
   have pj:(Fc.pf G (ms.getD (i+2) 0)).take (j+1)=(Fc.pf G (ms.getD (i+2) 0)).take j++[Fc.nf (G.getD j 0) (G.getD (j+1) 0) (ms.getD (i+2) 0)]:=by
    rw [ig,Fc.pf_at hj]
    rfl
   rw [pj,<-cv];exact RowsT.app (g5 _ _ s1) s2 (λ i b t e1 e2=>g5 _ _ (s3 i b t e1 e2)) ht
  ·rintro σ H4 ⟨x7,rfl,g4,rm4⟩
   rw [ao,gn (l:=Fc.pf G (ms.getD (i+2) 0)) (by omega),iC,<-mks] at rm4;exact ⟨_,_,_,rfl,g4,rm4⟩
 ·rintro σ H2 ⟨x5,x6,x7,rfl,gB,rm⟩
  rw [ao,lqs,ji] at rm
  obtain ⟨ps,e1,e2,e3⟩:=mI rm (λ t ht z=>by
   rcases du.mp ht with rfl | ht
   ·rcases Fc.nf_rot a c b with e | e | e<;>rw [e] at z<;>cases z
   ·have:=per.mem_iff.mp (dj _ ht)
    exact sL TW.nb wZ t this z)
  refine ⟨_,rfl,m,ps,rfl,.inl (SqL.of e1),e2,λ l ps' nl pm sr=>?_⟩;have r1:=e3 l ps' nl pm sr;have gl:=kE nl (.lst (ps'.map λ q=>V.ref q.1));refine ⟨_,rfl,w,W,rfl,(hW.kept gB).kept gl,TW.nb,TW.le,λ s H4 g4 _ r2=>?_⟩;have eS:Fc.sortL (Fc.nf a c b::Fc.mkF ms Fs)=Fc.facesS W:=Fc.sortL_is ((Fc.sortL_perm _).trans per) (Fc.sortL_sorted _);rw [eS] at r1;refine ⟨bG (Fc.facesS W),bG (Fc.facesS W),(r1.kept g4).dt,r2.dt,rH _,rH _,?_⟩;rw [if_neg (by decide),kCW];exact k _ (gB.trans (gl.trans g4))
structure TsOk (W:Rows) (ms:List Nat) (a b c:Nat) (Ts:List (List Nat)):Prop where
 len:Ts.length+1=ms.length
 few:ms.length<=42
 fst:Ts[0]?=some [a,b]
 lst:Ts.getLast?=some [a,c,b]
 row:∀ (k:Nat) (T:List Nat),Ts[k]?=some T->T.head?=some a/\T.getLast?=some b/\T.Nodup/\T.length<=42/\ms.getD (k+1) 0∈T
 path:∀ (k:Nat) (T:List Nat),Ts[k]?=some T->∀ j,j+1<T.length->E W (T.getD j 0) (T.getD (j+1) 0)
theorem neT {p:Prop} [Decidable p] (h:p):¬ ((!decide p)=true):=by simp [h]
theorem neI {i j:Int} (h:i=j):¬ ((!decide (V.int i=V.int j))=true):=neT (congrArg V.int h)
theorem kMR {T:List Nat} {a:Nat} (h:T.head?=some a):atI (T.map vn) 0=some (vn a):=by
 refine qE (j:=0) ?_;rw [bh,<-List.head?_eq_getElem?,h]
 rfl
theorem kHW {T:List Nat} {b:Nat} (h:T.getLast?=some b):atI (T.map vn) (-1)=some (vn b):=by
 have ne:T≠[]:=λ z=>by rw [z] at h;cases h
 have e:T=T.dropLast++[b]:=by
  rw [eN ne] at h;rw [<-bj h];exact (eR ne).symm
 rw [e,eI];exact xG _ _
theorem WebAt.last {H:Hp} {t:av} {Ts:List (List Nat)} {ts:List av} {T:List Nat} (h1:H t=some (.tup (ts.map V.ref))) (lt:ts.length=Ts.length) (h3:∀ (i:Nat) (b:av) (r:List Nat),ts[i]?=some b->Ts[i]?=some r->H b=some (.tup (r.map vn))) (e:Ts.getLast?=some T):∃ x,atI (ts.map V.ref) (-1)=some (.ref x)/\H x=some (.tup (T.map vn)):=by
 rw [eh] at e;have l0:=(aq.mp e).1;have ne:ts≠[]:=λ z=>by rw [z] at lt;simp at lt;omega
 refine ⟨ts.getLast ne,?_,h3 (Ts.length-1) _ _ ?_ e⟩
 ·have q:ts.map V.ref=ts.dropLast.map V.ref++[.ref (ts.getLast ne)]:=by
   conv=>lhs;rw [<-eR ne]
   rw [eI]
   rfl
  rw [q];exact xG _ _
 ·rw [<-lt,<-eh,eN ne]
def cL:Sp:=λ vs H Q _=>∃ (w z o t:av) (W:Rows) (ms:List Nat) (a b c:Nat) (Ts:List (List Nat)),vs=[.ref w,.ref z,.ref o,.ref t]/\WebAt H w W/\Tr W/\H z=some (.tup [vn a,vn b,vn c])/\H o=some (.tup (ms.map vn))/\WebAt H t Ts/\TsOk W ms a b c Ts/\∀ H',Same H H'->Q (.bl true) H'
theorem uU {f:av} {fd:ed} (F:Fun K "_law_rounds_right" "_law_rounds_right" qP f fd) (z_len:mg "len" = none) (z_enumerate:mg "enumerate" = none) (z_set:mg "set" = none) (z_range:mg "range" = none):FnOk P w K mg base CX0 1 f fd ["_law_web_here","_law_base","_law_order","_law_told"] (cL):=by
 refine F.ok sc_law_rounds_right (λ vs H Q EX h=>?_) (λ cdv A outer s0 H vs Q EX hr h=>?_)
 ·obtain ⟨w,z,o,t,W,ms,a,b,c,Ts,rfl,_⟩:=h
  rfl
 obtain ⟨w,z,o,t,W,ms,a,b,c,Ts,rfl,hW,TW,hz,ho,hT,ok,k⟩:=h
 refine ⟨_,(kF (xA (PW.pt (vQ (qD uX (kN kM rfl z_len di (kB (pv 3) kD)) (kX jI (kN kM rfl z_len di (kB (pv 2) kD)) kK) (qK _)) (vQ (qD (gM hr.units) (kU qH (pv 3) kK (λ _ _=>rfl)) (qJ kBD (pv 1) jF (qI kK)) (qK _)) (vZ (qD (gM hr.units) (kU qH (pv 3) (wD yC kK) (λ _ _=>rfl)) (jZ (kB (kU qH (pv 1) kK (λ _ _=>rfl)) (kB (kU qH (pv 1) kK (λ _ _=>rfl)) (kB (kU qH (pv 1) kK (λ _ _=>rfl)) kD)))) (qK _)))))) (kL (kS zV)) qN)
   (kF (yR iM rfl (bI false rfl z_enumerate (kB (pv 3) kD)) (xI rfl (kY (kQ (i:=4) sc_law_rounds_right.nd rfl (dw rfl)) (kY (kQ (i:=5) sc_law_rounds_right.nd rfl (dw rfl)) jR))) (kF (xA (PW.pt (vQ (qD uX (kU qH (pv 5) kK (λ _ _=>rfl)) (kU qH (pv 1) kK (λ _ _=>rfl)) (qK _)) (vQ (qD uX (kU qH (pv 5) (wD yC kK) (λ _ _=>rfl)) (kU qH (pv 1) kK (λ _ _=>rfl)) (qK _)) (vQ (qD uX (kN kEO rfl z_len di (kB (qV (kEK rfl) rfl z_set FO (kB (pv 5) kD)) kD)) (kN kM rfl z_len di (kB (pv 5) kD)) (qK _)) (vZ (qD bJ (kU qH (pv 2) (kX qO (pv 4) kK) (λ _ _=>rfl)) (pv 5) rfl)))))) (kL (kS zV)) qN)
   (kL (yR iM rfl (yS rfl z_range (kB (kX jI (kN kM rfl z_len di (kB (pv 5) kD)) kK) kD)) (kQ (i:=6) sc_law_rounds_right.nd rfl (dw rfl)) (kL (xA (qD bJ (kU qH (pv 5) (kX qO (pv 6) kK) (λ _ _=>rfl)) (kU qH (pv 0) (kU qH (pv 5) (pv 6) (λ _ _=>rfl)) (λ _ _=>rfl)) rfl) (kL (kS zV)) qN))))))
   (kL (kS zV)))),?_⟩
 obtain ⟨ts,t1,lts,t3⟩:=id hT;have lT:=ok.len;have few:=ok.few
 have t0:∃ x,atI (ts.map V.ref) 0=some (.ref x)/\H x=some (.tup [vn a,vn b]):=by
  have l0:=(aq.mp ok.fst).1;have e0:ts[0]?=some (ts[0]'(by omega)):=aa _;exact ⟨_,qE (j:=0) (by rw [bh,e0];rfl),t3 0 _ _ e0 ok.fst⟩
 obtain ⟨x0,ax0,hx0⟩:=t0;obtain ⟨x9,ax9,hx9⟩:=WebAt.last t1 lts t3 ok.lst;refine ⟨_,rfl,t,_,rfl,.inr (SqT.of t1),_,rfl,o,_,rfl,.inr (SqT.of ho),_,_,rfl,rfl,rfl,_,rfl,?_⟩;refine vS (λ cc=>absurd cc (neI (by rw [ao,ao];omega))) λ _=>?_;refine ⟨_,rfl,t,_,_,_,rfl,rfl,SqT.of t1,ax0,_,rfl,_,rfl,z,_,rfl,hz,λ p1 H1 g1 c1=>?_⟩
 have c1:H1 p1=some (.tup [vn a,vn b]):=by
  rw [c1,show (2:Int)=((2:Nat):Int) from rfl,wA _ (by simp)]
  rfl
 refine ⟨uS [a,b],uS [a,b],dP (g1 _ _ hx0),dP c1,uJ _,uJ _,_,rfl,?_⟩;rw [rB];refine zB ?_;have g1:Same H H1:=g1;have hz1:=g1 _ _ hz;refine ⟨_,rfl,_,rfl,t,_,_,_,rfl,rfl,SqT.of (g1 _ _ t1),ax9,_,rfl,z,_,_,_,rfl,rfl,SqT.of hz1,qE (j:=0) rfl,_,rfl,z,_,_,_,rfl,rfl,SqT.of hz1,qE (j:=2) rfl,_,rfl,z,_,_,_,rfl,rfl,SqT.of hz1,qE (j:=1) rfl,yS3,λ p2 n2=>?_⟩;have g2:=kE n2 (.tup [vn a,vn c,vn b]);refine ⟨uS [a,c,b],uS [a,c,b],dP (g2 _ _ (g1 _ _ hx9)),dP kC,uJ _,uJ _,_,rfl,?_⟩;rw [rB];refine zB ?_;have gA:=g1.trans g2;generalize upd H1 p2 (.tup [vn a,vn c,vn b])=H2 at *;obtain ⟨tw,hw1,lw,hw3⟩:=hW.at
 refine ⟨_,rfl,t,rfl,⟨_,SqT.of (gA _ _ t1)⟩,bX (k:=false) (xs:=ts.map V.ref) (λ i σ H3=>∃ (x4 x5 x6:Option V),σ=[some (.ref w),some (.ref z),some (.ref o),some (.ref t),x4,x5,x6]/\Same H H3)
  ⟨none,none,none,rfl,gA⟩ ?_ ?_ ?_⟩
 ·rintro i σ H3 _ ⟨x4,x5,x6,rfl,g3⟩
  exact SqT.of (g3 _ _ t1)
 ·rintro i x T σ H3 hx nT ⟨x4,x5,x6,rfl,g3⟩
  rw [bh] at hx;obtain ⟨p,ep,rfl⟩:=eJ.mp hx;have hi:i<Ts.length:=by rw [<-lts];exact (aq.mp ep).1
  have et:=aa hi;have hp:=t3 i p _ ep et;obtain ⟨hd,hla,nd,l42,hm⟩:=ok.row i _ et;have pth:=ok.path i _ et;generalize Ts[i]=G at *;have gT:=g3.trans (kE nT (.tup [.int i,.ref p]));refine ⟨T,_,rfl,SqT.of kC,rfl,_,_,rfl,_,_,rfl,rfl,?_⟩;generalize upd H3 T (.tup [.int i,.ref p])=H4 at *;have hp4:=gT _ _ hp;have hz4:=gT _ _ hz;have ho4:=gT _ _ ho;refine ⟨_,rfl,p,_,_,_,rfl,rfl,SqT.of hp4,kMR hd,_,rfl,z,_,_,_,rfl,rfl,SqT.of hz4,qE (j:=0) rfl,rfl,_,rfl,?_⟩;refine vS (λ cc=>absurd cc (neI rfl)) λ _=>?_;refine ⟨_,rfl,_,rfl,p,_,_,_,rfl,rfl,SqT.of hp4,kHW hla,_,rfl,z,_,_,_,rfl,rfl,SqT.of hz4,qE (j:=1) rfl,rfl,_,rfl,?_⟩;refine vS (λ cc=>absurd cc (neI rfl)) λ _=>?_;refine ⟨_,rfl,p,G.map ci,rfl,.inr (SqT.of (by rw [hp4,yB])),(by rw [ao];omega),λ S fS nS nS0 iS _=>?_⟩
  have nS1:nS=G.length:=by
   rw [ao] at iS;refine iS.mpr (ke.mpr (nd.imp λ {u v} ne e=>ne ?_));have e:(u:Int)=(v:Int):=e;omega
  have gS:=kE nS0 (.set fS nS);have g5:=gT.trans gS;refine ⟨S,fS,nS,rfl,kC,_,rfl,p,_,rfl,.inr (SqT.of (gS _ _ hp4)),rfl,_,rfl,?_⟩;refine vS (λ cc=>absurd cc (neI (by rw [ao,nS1]))) λ _=>?_;generalize upd H4 S (.set fS nS)=H5 at *;have a1:atI (ms.map vn) ((i:Int)+1)=some (vn (ms.getD (i+1) 0)):=by rw [show ((i:Int)+1)=((i+1:Nat):Int) by omega];exact aD (by omega)
  refine ⟨_,rfl,_,rfl,_,_,rfl,rfl,o,_,_,_,rfl,rfl,SqT.of (g5 _ _ ho),a1,_,rfl,p,_,rfl,.inr (SqT.of (g5 _ _ hp)),rfl,zZ _,_,rfl,?_⟩;rw [vJ,decide_eq_true hm];refine zB ?_
  refine ⟨_,rfl,p,_,rfl,.inr (SqT.of (g5 _ _ hp)),_,_,rfl,rfl,_,rfl,(by rw [ao];omega),(by rw [ao];omega),xZ (lo:=0) (n:=((((G.map vn).length:Nat):Int)-1).toNat) (λ j σ H6=>∃ (x6:Option V),σ=[some (.ref w),some (.ref z),some (.ref o),some (.ref t),some (.int i),some (.ref p),x6]/\Same H H6)
   ⟨_,rfl,g5⟩ ?_ ?_⟩
  ·rintro j σ H6 hj ⟨x6,rfl,g6⟩
   rw [ao] at hj;have hj:j+1<G.length:=by omega
   obtain ⟨row,er,mr⟩:=pth j hj;obtain ⟨b',e1,e2⟩:=hw3 _ _ er;have a1:atI (G.map vn) (0+(j:Int))=some (vn (G.getD j 0)):=by rw [show (0+(j:Int))=((j:Nat):Int) by omega];exact aD (by omega)
   have a2:atI (G.map vn) (0+(j:Int)+1)=some (vn (G.getD (j+1) 0)):=by rw [show (0+(j:Int)+1)=((j+1:Nat):Int) by omega];exact aD hj
   refine ⟨_,rfl,_,rfl,_,_,rfl,rfl,p,_,_,_,rfl,rfl,SqT.of (g6 _ _ hp),a2,_,rfl,_,rfl,_,rfl,p,_,_,_,rfl,rfl,SqT.of (g6 _ _ hp),a1,w,_,_,_,rfl,rfl,SqT.of (g6 _ _ hw1),e1,b',_,rfl,.inr (SqT.of (g6 _ _ e2)),rfl,zZ _,_,rfl,?_⟩;rw [vJ,decide_eq_true mr];exact zB ⟨_,rfl,g6⟩
  ·rintro σ H6 ⟨x6,rfl,g6⟩
   exact ⟨_,_,_,rfl,g6⟩
 ·rintro σ H3 ⟨x4,x5,x6,rfl,g3⟩
  exact k _ g3
def fX:Sp:=λ vs H Q _=>∃ (t q:av) (Ts Fs:List (List Nat)),vs=[.ref t,.ref q]/\WebAt H t Ts/\WebAt H q Fs/\Ts.length=Fs.length+1/\(∀ (k:Nat) (F T T':List Nat),Fs[k]?=some F->Ts[k]?=some T->Ts[k+1]?=some T'->T'.length+F.length=T.length+3)/\∀ H',Same H H'->Q (.bl true) H'
theorem aJ {f:av} {fd:ed} (F:Fun K "_law_sizes_right" "_law_sizes_right" qT f fd) (z_enumerate:mg "enumerate" = none) (z_len:mg "len" = none):FnOk P w K mg base CX0 1 f fd ["_law_told","_law_parts"] (fX):=by
 refine F.ok sc_law_sizes_right (λ vs H Q EX h=>?_) (λ cdv A outer s0 H vs Q EX hr h=>?_)
 ·obtain ⟨t,q,Ts,Fs,rfl,_⟩:=h
  rfl
 obtain ⟨t,q,Ts,Fs,rfl,hT,hF,lT,sz,k⟩:=h
 refine ⟨_,(kF (yR iM rfl (bI false rfl z_enumerate (kB (pv 1) kD)) (xI rfl (kY (kQ (i:=2) sc_law_sizes_right.nd rfl (dw rfl)) (kY (kQ (i:=3) sc_law_sizes_right.nd rfl (dw rfl)) jR))) (kL (xA (qD uX (kN kM rfl z_len di (kB (kU qH (pv 0) (kX qO (pv 2) kK) (λ _ _=>rfl)) kD)) (kX jI (kX qO (kN kM rfl z_len di (kB (kU qH (pv 0) (pv 2) (λ _ _=>rfl)) kD)) kK) (kN kM rfl z_len di (kB (pv 3) kD))) (qK _)) (kL (kS zV)) qN)))
   (kL (kS zV))),?_⟩
 obtain ⟨ts,t1,lts,t3⟩:=id hT;obtain ⟨qs,q1,lqs,q3⟩:=id hF
 refine ⟨_,rfl,q,rfl,⟨_,SqT.of q1⟩,bX (k:=false) (xs:=qs.map V.ref) (λ i σ H2=>∃ (x2 x3:Option V),σ=[some (.ref t),some (.ref q),x2,x3]/\Same H H2)
  ⟨none,none,rfl,Same.refl H⟩ ?_ ?_ ?_⟩
 ·rintro i σ H2 _ ⟨x2,x3,rfl,g2⟩
  exact SqT.of (g2 _ _ q1)
 ·rintro i x T σ H2 hx nT ⟨x2,x3,rfl,g2⟩
  rw [bh] at hx;obtain ⟨p,ep,rfl⟩:=eJ.mp hx;have hi:i<Fs.length:=by rw [<-lqs];exact (aq.mp ep).1
  have e0:=aa hi;have e1:=aa (show i<Ts.length by omega);have e2:=aa (show i+1<Ts.length by omega);have s1:=aa (show i<ts.length by omega);have s2:=aa (show i+1<ts.length by omega);have eq':=sz i _ _ _ e0 e1 e2;have hp:=q3 i p _ ep e0;have h1:=t3 i _ _ s1 e1;have h2:=t3 (i+1) _ _ s2 e2;have gT:=g2.trans (kE nT (.tup [.int i,.ref p]));refine ⟨T,_,rfl,SqT.of kC,rfl,_,_,rfl,_,_,rfl,rfl,?_⟩;generalize upd H2 T (.tup [.int i,.ref p])=H3 at *;have a1:atI (ts.map V.ref) ((i:Int))=some (.ref ts[i]):=qE (by rw [bh,s1];rfl);have a2:atI (ts.map V.ref) ((i:Int)+1)=some (.ref ts[i+1]):=by rw [show ((i:Int)+1)=((i+1:Nat):Int) by omega];exact qE (by rw [bh,s2];rfl)
  refine ⟨_,rfl,_,rfl,_,_,rfl,rfl,t,_,_,_,rfl,rfl,SqT.of (gT _ _ t1),a2,_,_,rfl,.inr (SqT.of (gT _ _ h2)),_,rfl,_,rfl,t,_,_,_,rfl,rfl,SqT.of (gT _ _ t1),a1,_,_,rfl,.inr (SqT.of (gT _ _ h1)),_,_,rfl,rfl,_,rfl,p,_,rfl,.inr (SqT.of (gT _ _ hp)),_,_,rfl,rfl,rfl,_,rfl,?_⟩;refine vS (λ cc=>absurd cc (neI (by simp only [ao];omega))) λ _=>?_;exact ⟨_,_,rfl,gT⟩
 ·rintro σ H2 ⟨x2,x3,rfl,g2⟩
  exact k _ g2
def cQ:Sp:=λ vs H Q _=>∃ (z o t:av) (ms:List Nat) (Ts:List (List Nat)),vs=[.ref z,.ref o,.ref t]/\H o=some (.tup (ms.map vn))/\WebAt H t Ts/\Ts.length+1=ms.length/\ms.length<=42/\(∀ T∈Ts,T.length<=42)/\(∀ k,2<=k->k+1<ms.length->∃ e,k-1<=e/\e+1<Ts.length/\∀ j,j<Ts.length->(ms.getD k 0∈Ts.getD j []↔k-1<=j/\j<=e))/\∀ H',Same H H'->Q (.bl true) H'
theorem uV {f:av} {fd:ed} (F:Fun K "_law_leaves_right" "_law_leaves_right" qQ f fd) (z_range:mg "range" = none) (z_len:mg "len" = none):FnOk P w K mg base CX0 1 f fd ["_law_base","_law_order","_law_told"] (cQ):=by
 refine F.ok sc_law_leaves_right (λ vs H Q EX h=>?_) (λ cdv A outer s0 H vs Q EX hr h=>?_)
 ·obtain ⟨z,o,t,ms,Ts,rfl,_⟩:=h
  rfl
 obtain ⟨z,o,t,ms,Ts,rfl,ho,hT,lT,few,l42,iv,k⟩:=h
 refine ⟨_,(kF (yR iM rfl (cW rfl z_range (kB kK (kB (kX jI (kN kM rfl z_len di (kB (pv 1) kD)) kK) kD))) (kQ (i:=3) sc_law_leaves_right.nd rfl (DI rfl)) (kF (fI (i:=4) (Nc:=["_law_j","_law_order","_law_k","_law_told"]) (js:=[none,some 1,some 3,some 2]) rfl rfl sc_law_leaves_right.nd rfl (dw rfl) (yS rfl z_range (kB (kN kM rfl z_len di (kB (pv 2) kD)) kD)) (CS.of rfl rfl) rfl (λ C s₂ H₂ fp pins=>(kQ (i:=0) (show iz (α:=Str) ["_law_j","_law_order","_law_k","_law_told"] by decide +kernel) rfl (dw rfl))) (λ C s₂ H₂ fp pins D L=>(zR (qD (show OpR _ _ (rIn K false) from wV) (kU (show IxR _ (kFV K) from qH) (pv 1) (pv 2) (λ _ _=>rfl)) (kU (show IxR _ (kFV K) from qH) (pv 3) (pv 0) (λ _ _=>rfl)) rfl) (yD (pv 0)))))
   (kL (xA (PW.pt (vQ (qD uX (kU kZ (pv 4) kK (λ _ _=>rfl)) (kX jI (pv 3) kK) (qK _)) (vQ (qD uX (kU kZ (pv 4) (wD yC kK) (λ _ _=>rfl)) (kX qO (kX jI (pv 3) kK) (kN kM rfl z_len di (kB (pv 4) kD))) (qK _)) (vZ (qD gN (kU kZ (pv 4) (wD yC kK) (λ _ _=>rfl)) (kX jI (kN kM rfl z_len di (kB (pv 2) kD)) kK) (qK _)))))) (kL (kS zV)) qN))))
   (kL (kS zV))),?_⟩
 obtain ⟨ts,t1,lts,t3⟩:=id hT;refine ⟨_,rfl,o,_,rfl,.inr (SqT.of ho),_,_,rfl,rfl,2,_,rfl,⟨by omega,by omega,(by rw [ao];omega),(by rw [ao];omega)⟩,?_⟩
 refine xZ (lo:=2) (n:=((((ms.map vn).length:Nat):Int)-1-2).toNat) (λ i σ H2=>∃ (x3 x4:Option V),σ=[some (.ref z),some (.ref o),some (.ref t),x3,x4]/\Same H H2)
  ⟨none,none,rfl,Same.refl H⟩ ?_ ?_
 ·rintro i σ H2 hi ⟨x3,x4,rfl,g2⟩
  rw [ao] at hi;have hi:i+2+1<ms.length:=by omega
  obtain ⟨e,e1,e2,e3⟩:=iv (i+2) (by omega) hi;have ak:atI (ms.map vn) (2+(i:Int))=some (vn (ms.getD (i+2) 0)):=by rw [show (2+(i:Int))=((i+2:Nat):Int) by omega];exact aD (by omega)
  generalize ms.getD (i+2) 0=v at *;refine ⟨_,rfl,t,_,rfl,.inr (SqT.of (g2 _ _ t1)),?_⟩;refine ⟨_,rfl,(by rw [ao];omega),(by rw [ao];omega),λ D nD=>?_⟩;refine fR (lo:=0) (n:=((((ts.map V.ref).length:Nat):Int)).toNat) (λ j σ H3=>∃ (x0:Option V),σ=[x0,some (.ref o),some (.int (2+(i:Int))),some (.ref t)]/\Same H H3/\H3 D=some (.lst (((cu j).filter λ j=>decide (v∈Ts.getD j [])).map vn))) ⟨none,rfl,g2.trans (kE nD _),kC⟩ ?_ ?_
  ·rintro j σ H3 hj ⟨x0,rfl,g3,hD⟩
   rw [ao,lts] at hj;have hj:j<Ts.length:=by omega
   have eT:Ts[j]?=some (Ts.getD j []):=by rw [ai,aa hj];rfl
   have s1:=aa (show j<ts.length by omega);have hb:=t3 j _ _ s1 eT;have aj:atI (ts.map V.ref) (0+(j:Int))=some (.ref (ts[j]'(by omega))):=by rw [show (0+(j:Int))=((j:Nat):Int) by omega];exact qE (by rw [bh,s1];rfl)
   have lf:=og (λ j=>decide (v∈Ts.getD j [])) (cu j);rw [fv] at lf;refine ⟨_,rfl,_,rfl,o,_,_,_,rfl,rfl,SqT.of (g3 _ _ ho),ak,_,rfl,_,rfl,t,_,_,_,rfl,rfl,SqT.of (g3 _ _ t1),aj,_,_,rfl,.inr (SqT.of (g3 _ _ hb)),rfl,zZ _,_,rfl,?_⟩;rw [vJ,yv,jz,eI];refine vS (λ c=>?_) (λ c=>?_)
   ·refine ⟨_,rfl,_,hD,(by rw [ao];exact kR (by omega)),?_⟩
    refine ⟨_,rfl,qW (g2.free nD) g3,?_⟩;rw [oz (p:=λ j=>decide (v∈Ts.getD j [])) c,show V.int (0+(j:Int))=vn j by unfold vn;congr 1;omega];exact kC
   ·rw [pd (p:=λ j=>decide (v∈Ts.getD j [])) c,xu,Bw,iN]
    exact ⟨_,rfl,g3,hD⟩
  rintro σ H3 ⟨x0,rfl,g3,hD⟩;rw [ao,lts,show ((Ts.length:Nat):Int).toNat=Ts.length by omega,Fc.filter_iv (lo:=i+1) (hi:=e) (by omega) (by omega) (λ j hj=>by rw [decide_eq_true_iff];exact e3 j hj)] at hD;have ln:(jb (i+1) (e+1-(i+1))).length=e+1-(i+1):=CO;have a0:atI ((jb (i+1) (e+1-(i+1))).map vn) 0=some (vn (i+1)):=qE (j:=0) (by rw [bh,Bt (by omega)];rfl)
  have a9:atI ((jb (i+1) (e+1-(i+1))).map vn) (-1)=some (vn e):=kHW (by
   rw [eh,ln,Bt (by omega)]
   congr 1
   omega)
  refine ⟨_,rfl,D,_,_,_,rfl,rfl,SqL.of hD,a0,_,rfl,_,_,rfl,rfl,rfl,_,rfl,?_⟩;refine vS (λ cc=>absurd cc (neI (by omega))) λ _=>?_;refine ⟨_,rfl,_,rfl,D,_,_,_,rfl,rfl,SqL.of hD,a9,_,rfl,_,_,rfl,rfl,_,rfl,D,_,rfl,.inl (SqL.of hD),_,_,rfl,rfl,rfl,_,rfl,?_⟩;refine vS (λ cc=>absurd cc (neI (by rw [ao,ln];omega))) λ _=>?_;refine ⟨_,rfl,_,rfl,D,_,_,_,rfl,rfl,SqL.of hD,a9,_,rfl,t,_,rfl,.inr (SqT.of (g3 _ _ t1)),_,_,rfl,rfl,rfl,_,rfl,?_⟩;refine vS (λ cc=>absurd (of_decide_eq_true cc) λ z=>?_) λ _=>⟨_,_,rfl,g3⟩;have z:=V.int.inj z;rw [ao] at z;omega
 ·rintro σ H2 ⟨x3,x4,rfl,g2⟩
  exact k _ g2
theorem kJX {W:Rows} (G:Good W) (h:W.length<=42):Tr W:=⟨(Wb.of G).toNb,h,(aS G).1,(aS G).2⟩
theorem kGQ {ms T:List Nat} (h:T.Nodup/\∀ x∈T,x∈ms):T.length<=ms.length:=de h.1 λ x hx=>h.2 x hx
def cM:Sp:=λ vs H Q _=>∃ (w z o:av) (W:Rows) (ms:List Nat) (a b c:Nat) (Fs Ts:List (List Nat)),vs=[.ref w,.ref z,.ref o]/\Gw H w z o W ms a b c/\(Tri.E W a c/\(nxt W (a,c)).2=b)/\xW W a b c ms=some (Fs,Ts)/\∀ H',Same H H'->Q (.bl true) H'
theorem oR {f:av} {fd:ed} (F:Fun K "_law_right" "_law_right" xO f fd) (lG:Own.Has P w K mg base "rounds" ["web","base","order"] 8 (fY)) (uD:Own.Has P w K mg base "stretches" ["web","base","order"] 8 (tK)) (yG:Own.Has P w K mg base "_law_faces_right" ["_law_web_here","_law_base","_law_order","_law_parts"] 4 (gD)) (yF:Own.Has P w K mg base "_law_sizes_right" ["_law_told","_law_parts"] 1 (fX)) (xK:Own.Has P w K mg base "_law_rounds_right" ["_law_web_here","_law_base","_law_order","_law_told"] 1 (cL)) (xL:Own.Has P w K mg base "_law_leaves_right" ["_law_base","_law_order","_law_told"] 1 (cQ)) (z_len:mg "len" = none):FnOk P w K mg base CX0 9 f fd ["_law_web_here","_law_base","_law_order"] (cM):=by
 refine F.ok sc_law_right (λ vs H Q EX h=>?_) (λ cdv A outer s0 H vs Q EX hr h=>?_)
 ·obtain ⟨w,z,o,W,ms,a,b,c,Fs,Ts,rfl,_⟩:=h
  rfl
 obtain ⟨w,z,o,W,ms,a,b,c,Fs,Ts,rfl,GW,hb,lf,k⟩:=h
 refine ⟨_,(kF (qB (i:=3) sc_law_right.nd rfl (dw rfl) (Own.pe_has lG (hr.mono (by decide)) rfl (kB (pv 0) (kB (pv 1) (kB (pv 2) kD)))))
   (kF (qB (i:=4) sc_law_right.nd rfl (dw rfl) (Own.pe_has uD (hr.mono (by decide)) rfl (kB (pv 0) (kB (pv 1) (kB (pv 2) kD)))))
   (kF (xA (PW.pt (vQ (qD uX (kN kM rfl z_len di (kB (pv 4) kD)) (kX jI (kN kM rfl z_len di (kB (pv 2) kD)) kK) (qK _)) (vZ (zU (zQ (Own.pe_has yG (hr.mono (by decide)) rfl (kB (pv 0) (kB (pv 1) (kB (pv 2) (kB (pv 4) kD)))))))))) (kL (kS zV)) qN)
   (kF (xA (PW.pt (vQ (zU (zQ (Own.pe_has xK (hr.mono (by decide)) rfl (kB (pv 0) (kB (pv 1) (kB (pv 2) (kB (pv 3) kD))))))) (vZ (zU (zQ (Own.pe_has yF (hr.mono (by decide)) rfl (kB (pv 3) (kB (pv 4) kD)))))))) (kL (kS zV)) qN)
   (kL (kS (Own.pe_has xL (hr.mono (by decide)) rfl (kB (pv 1) (kB (pv 2) (kB (pv 3) kD)))))))))),?_⟩
 have TW:=GW.tr;have l42:=TW.le;have l3:=GW.three;have lm:ms.length=W.length:=by rw [GW.perm.length_eq,fv]
 have msn:ms.Nodup:=GW.perm.nodup_iff.mpr si;obtain ⟨LF,lastT,t0,per⟩:=Fc.laid_made TW.nb TW.three TW.cnt GW.perm l3 hb.1 hb.2 GW.ab lf;obtain ⟨iT,iF⟩:=kJN TW.nb GW.ab msn (by omega) lf;have lT:=LF.lt;have lF:=LF.lf;have gTs:∀ j,j<Ts.length->Ts[j]?=some (Ts.getD j []):=λ j h=>by rw [ai,aa h];rfl
 have f42:∀ F∈Fs,2<=F.length/\F.length<=42:=λ F hF=>by
  obtain ⟨i,hi,rfl⟩:=eU.mp hF;have:=kGQ (iF _ hF);exact ⟨(LF.st i _ _ _ (aa hi) (gTs i (by omega)) (gTs (i+1) (by omega))).2.1,by omega⟩
 have tok:TsOk W ms a b c Ts:=by
  refine ⟨by omega,by omega,t0,lastT,λ k T e=>?_,λ k T e j hj=>?_⟩
  ·obtain ⟨tp,hd,hl,hm⟩:=LF.top k T e
   have:=kGQ (iT T (eg e));exact ⟨hd,hl,tp.nd,by omega,hm⟩
  ·obtain ⟨tp,_⟩:=LF.top k T e
   refine tp.path _ _ (uH ?_);refine List.mem_iff_getElem?.mpr ⟨j,?_⟩;have q1:T[j]?=some (T.getD j 0):=by rw [ai,aa (by omega)];rfl
   have q2:T.tail[j]?=some (T.getD (j+1) 0):=by rw [Ca,ai,aa hj];rfl
   exact mq.mpr ⟨q1,q2⟩
 have ends:ms.getD 0 0=a/\ms.getD 1 0=b/\ms.getD (ms.length-1) 0=c:=by
  unfold xW at lf
  split at lf
  ·rename_i q
   refine ⟨by rw [ai,q.1];rfl,by rw [ai,q.2.1];rfl,?_⟩;have:=q.2.2;rw [eh] at this;rw [ai,this]
   rfl
  ·cases lf
 refine ⟨_,rfl,_,rfl,_,rfl,w,z,o,W,ms,a,b,c,Fs,Ts,rfl,GW,hb,lf,λ t H1 g1 w1=>?_⟩;refine ⟨_,rfl,_,rfl,_,rfl,w,z,o,W,ms,a,b,c,Fs,Ts,rfl,GW.kept g1,hb,lf,λ q H2 g2 w2=>?_⟩;have g12:=g1.trans g2;have G2:=GW.kept g12;obtain ⟨qs,q1,lqs,q3⟩:=id w2;refine ⟨_,rfl,q,_,rfl,.inr (SqT.of q1),_,rfl,o,_,rfl,.inr (SqT.of G2.ord),_,_,rfl,rfl,rfl,_,rfl,?_⟩;refine vS (λ cc=>absurd cc (neI (by rw [ao,ao];omega))) λ _=>?_;refine ⟨_,rfl,_,rfl,_,rfl,_,rfl,w,z,o,q,W,ms,a,b,c,Fs,rfl,G2.web,TW,G2.base,G2.ord,w2,lm,by omega,f42,per,λ H3 g3=>⟨_,rfl,zB ?_⟩⟩;have G3:=G2.kept g3;refine ⟨_,rfl,_,rfl,_,rfl,_,rfl,w,z,o,t,W,ms,a,b,c,Ts,rfl,G3.web,TW,G3.base,G3.ord,(w1.kept g2).kept g3,tok,λ H4 g4=>⟨_,rfl,zB ?_⟩⟩;have g34:=g3.trans g4;refine ⟨_,rfl,_,rfl,t,q,Ts,Fs,rfl,(w1.kept g2).kept g34,w2.kept g34,by omega,(λ k F T T' e1 e2 e3=>(LF.st k F T T' e1 e2 e3).1),λ H5 g5=>⟨_,rfl,zB ?_⟩⟩;have g35:=g34.trans g5;have G5:=G2.kept g35;refine ⟨_,rfl,_,rfl,_,rfl,z,o,t,ms,Ts,rfl,G5.ord,(w1.kept g2).kept g35,by omega,by omega,(λ T hT=>by have:=kGQ (iT T hT);omega),(λ k k2 kn=>LF.leaves msn (by omega) lastT ends.1 ends.2.1 ends.2.2 k2 kn),λ H6 g6=>?_⟩;exact k _ (g12.trans (g35.trans g6))
theorem kKE {W:Rows} {a b c:Nat} (S:Nb W) (three:∀ t∈kP W,(nxt W (nxt W t)).2=t.1) (h:Tri.E W a c) (e:(nxt W (a,c)).2=b):Tri.E W a b:=by
 obtain ⟨z,r,en,ez⟩:=yJ S h;have t:=three (a,c) (mem_steps.mpr h);rw [en] at e t;have e:z=b:=e;rw [e] at t ez;obtain ⟨y,r2,en2,ez2⟩:=yJ S ez;rw [en2] at t;obtain ⟨y3,r3,en3,ez3⟩:=yJ S ez2;have t:y=a:=t;rw [t] at ez2;exact S.sym _ _ ez2
theorem kGU {L W:Rows} {Os Ps:List (List Nat)} {O ms:List Nat} (Y:Lay L Os Ps O) (rn:Ren L W ms) (nd:∀ (p:Nat) (row:List Nat),W[p]?=some row->row.Nodup) (rng:∀ (p:Nat) (row:List Nat) (a:Nat),L[p]?=some row->a∈row->a<L.length) :
  xW W (ms.getD 0 0) (ms.getD 1 0) (ms.getD (L.length-1) 0) ms=some (Ps.map (λ P=>P.map λ u=>ms.getD u 0),Os.map λ Z=>Z.map λ u=>ms.getD u 0):=by
 have lm:=rn.nlen;have two:=Y.two;have lo:=Y.lo;have lp:=Y.lp;unfold xW;rw [if_pos ⟨rn.get (by omega),rn.get (by omega),(by rw [eh,lm];exact rn.get (by omega))⟩,lm,kME Y rn nd rng (L.length-2) (by omega),gn (by omega),gn (by omega)]
def kBB (K:cf):Sp:=λ vs H Q _=>∃ (a:av) (ns:List Int),vs=[.ref a]/\SqL K H a (ns.map V.int)/\ns.length<=63/\∀ H',Q (.bl true) H'
theorem kLV {f:av} {fd:ed} (F:Fun K "law" "law" bF f fd) (dJ:Own.Has P w K mg base "_law_pot" ["_law_script","_law_k"] 1 (kFK K)) (qR:Own.Has P w K mg base "_law_digit" ["_law_pot_here","_law_many"] 1 (bE)) (uE:Own.Has P w K mg base "_law_names" ["_law_pot_here","_law_n"] 2 (nQ)) (dH:Own.Has P w K mg base "_law_web" ["_law_rows_here","_law_names_here"] 1 (kFJ)) (aP:Own.Has P w K mg base "_law_rows" ["_law_pot_here","_law_n"] 2 (tL)) (wJ:Own.Has P w K mg base "_law_right" ["_law_web_here","_law_base","_law_order"] 9 (cM)) (aO:Own.Has P w K mg base "order_of" ["web","base"] 7 (cP)) (z_range:mg "range" = none) (z_max:mg "max" = none) (z_min:mg "min" = none) (z_len:mg "len" = none) (z_tuple:mg "tuple" = none):FnOk P w K mg base CX0 10 f fd ["_law_script"] (kBB K):=by
 refine F.ok sc_law (λ vs H Q E h=>?_) (λ cdv A outer s H vs Q E hr h=>?_)
 ·obtain ⟨a,ns,rfl,_⟩:=h
  rfl
 obtain ⟨a,ns,rfl,hS,h63,q⟩:=h
 refine ⟨_,(kF (yR iM rfl (yS rfl z_range (kB (kN (nF rfl) rfl z_max Bk (kB kK (kB (kN (kEN rfl) rfl z_min yr (kB (kN kM rfl z_len di (kB (pv 0) kD)) (kB kK kD))) kD))) kD)) (kQ (i:=1) sc_law.nd rfl (dw rfl)) (kF (qB (i:=2) sc_law.nd rfl (dw rfl) (Own.pe_has dJ (hr.mono (by decide)) rfl (kB (pv 0) (kB (pv 1) kD))))
   (kF (qB (i:=3) sc_law.nd rfl (dw rfl) (kX qO kK (Own.pe_has qR (hr.mono (by decide)) rfl (kB (pv 2) (kB (kU kZ (jH (kB kK (kB kK kD))) (Own.pe_has qR (hr.mono (by decide)) rfl (kB (pv 2) (kB kK kD))) (λ _ _=>rfl)) kD)))))
   (kF (qB (i:=4) sc_law.nd rfl (dw rfl) (Own.pe_has uE (hr.mono (by decide)) rfl (kB (pv 2) (kB (pv 3) kD))))
   (kF (qB (i:=5) sc_law.nd rfl (dw rfl) (Own.pe_has dH (hr.mono (by decide)) rfl (kB (kU qH (Own.pe_has aP (hr.mono (by decide)) rfl (kB (pv 2) (kB (pv 3) kD))) kK (λ _ _=>rfl)) (kB (pv 4) kD))))
   (kF (qB (i:=6) sc_law.nd rfl (dw rfl) (jZ (kB (kU kZ (pv 4) kK (λ _ _=>rfl)) (kB (kU kZ (pv 4) kK (λ _ _=>rfl)) (kB (kU kZ (pv 4) (wD yC kK) (λ _ _=>rfl)) kD)))))
   (kL (xA (PW.pt (vQ (zU (zQ (Own.pe_has wJ (hr.mono (by decide)) rfl (kB (pv 5) (kB (pv 6) (kB (qV qM rfl z_tuple fu (kB (pv 4) kD)) kD)))))) (vZ (zU (zQ (Own.pe_has wJ (hr.mono (by decide)) rfl (kB (pv 5) (kB (pv 6) (kB (Own.pe_has aO (hr.mono (by decide)) rfl (kB (pv 5) (kB (pv 6) kD))) kD))))))))) (kL (kS zV)) qN))))))))
   (kL (kS zV))),?_⟩
 have hl:(ns.map V.int).length=ns.length:=ao _;refine ⟨_,rfl,a,_,rfl,.inl hS,_,3,rfl,1,_,rfl,?_⟩;rw [hl];generalize hj:(if (if (3:Int)<(ns.length:Int) then 3 else (ns.length:Int))>1 then (if (3:Int)<(ns.length:Int) then 3 else (ns.length:Int)) else 1)=j;have j0:0<=j:=by rw [<-hj];split<;>omega
 have j1:j<=63:=by
  rw [<-hj]
  split
  ·split<;>omega
  ·omega
 refine ⟨j,rfl,by omega,by omega,xZ (lo:=0) (n:=j.toNat) (λ i σ H2=>∃ (x1 x2 x3 x4 x5 x6:Option V),σ=[some (.ref a),x1,x2,x3,x4,x5,x6]/\Same H H2)
  ⟨none,none,none,none,none,none,rfl,Same.refl H⟩ ?_ ?_⟩
 ·rintro i σ H2 hi ⟨x1,x2,x3,x4,x5,x6,rfl,g⟩
  refine ⟨_,rfl,_,rfl,a,ns,_,rfl,g.seq hS,h63,(by omega),(by omega),λ p x y H3 hx g3 hn hp=>?_⟩;have hnp:H p=none:=g.free hn;have gA:Same H H3:=g.trans g3;have pA:PotAt H3 p:=⟨x,y,hp,hx⟩;refine ⟨_,rfl,yS2,λ l nl=>?_⟩;have lp:l≠p:=(kH hp nl).symm;refine ⟨_,rfl,p,2,rfl,pA.other lp.symm,by decide,kGR (by decide),λ d H4 d0 d1 s4 p4=>?_⟩;have gl:=kE nl (.lst [V.int 7,V.int 38]);have g4:=keep (gA.trans gl) hnp s4;have hl4:=s4 _ _ lp (kC (H:=H3) (a:=l) (o:=.lst [V.int 7,V.int 38]))
  have:∃ m:Int,atI [V.int 7,V.int 38] d=some (.int m)/\0<m/\m<=38:=by
   rcases (show d=0\/d=1 by omega) with rfl | rfl
   ·exact ⟨7,rfl,by decide,by decide⟩
   ·exact ⟨38,rfl,by decide,by decide⟩
  obtain ⟨m,em,m0,m1⟩:=this;refine ⟨l,_,_,_,rfl,rfl,SqL.of hl4,em,p,m,rfl,p4,m0,kGR (by omega),λ d' H5 e0 e1 s5 p5=>⟨_,_,rfl,rfl,?_⟩⟩;have g5:=keep g4 hnp s5
  obtain ⟨n',rfl⟩:=Int.eq_ofNat_of_zero_le e0
  refine ⟨_,rfl,_,rfl,p,3+n',rfl,p5,by omega,λ l' ms H6 s6 p6 nl' ll' hl' perm=>?_⟩
  have g6:=keep g5 hnp s6
  refine ⟨_,rfl,_,rfl,p,3+n',rfl,p6,by omega,by omega,λ z r t q' A1 ta pa L Os Ps O H7 s7 p7 hz X GL lL nr nA lt7 lq7 ly hO o3 nt nq nta npa=>?_⟩;have g7:=keep g6 hnp s7;obtain ⟨v5,w5,pot5,_⟩:=id p5;obtain ⟨v6,w6,pot6,_⟩:=id p6;have np6:∀ b,H6 b=none->b≠p:=λ b hb z=>by rw [z,pot6] at hb;cases hb
  have lp':l'≠p:=λ z=>by rw [z,pot5] at nl';cases nl'
  have hl7:=s7 _ _ lp' hl';refine ⟨z,_,_,_,rfl,rfl,SqT.of hz,rfl,_,rfl,?_⟩;have perm':ms.Perm (cu L.length):=by rw [lL];exact perm
  refine ⟨r,l',A1,L,ms,rfl,X,hl7,perm',kEC GL (by omega),(λ p' row e x hx=>(GL.rng p' row x e hx).1),λ w W H8 g8 hW lW nm=>?_⟩;have rn:=kDK perm' lW nm;have GW:Good W:=kFT GL rn;have gW:=g7.trans g8;have lW':W.length=3+n':=by rw [lW,lL]
  have TW:=kJX GW (by omega);have lm:ms.length=L.length:=rn.nlen;have hl8:=g8 _ _ hl7;have l3:=GL.three;have at0':atI (ms.map vn) 0=some (vn (ms.getD 0 0)):=qE (j:=0) (by rw [bh,ai,aa (by omega)];rfl);have at1':atI (ms.map vn) 1=some (vn (ms.getD 1 0)):=qE (j:=1) (by rw [bh,ai,aa (by omega)];rfl);have glast:ms.getLast?=some (ms.getD (L.length-1) 0):=by rw [eh,ai,lm,aa (by omega)];rfl
  have at2':atI (ms.map vn) (-1)=some (vn (ms.getD (L.length-1) 0)):=by
   have ne:ms≠[]:=λ z=>by rw [z] at glast;cases glast
   have e:=glast;rw [eN ne] at e
   have e:ms=ms.dropLast++[ms.getD (L.length-1) 0]:=by
    rw [<-bj e];exact (eR ne).symm
   have e2:ms.map vn=ms.dropLast.map vn++[vn (ms.getD (L.length-1) 0)]:=by
    have:=congrArg (List.map vn) e;rwa [eI] at this
   rw [e2];exact xG _ _
  have isb:=kGV ly hO o3 l3 rn GW.nd TW.nb.sym;have ab:=kKE TW.nb TW.three isb.1 isb.2;have hl:=kGU ly rn GW.nd (λ p' row a' e h=>(GL.rng p' row a' e h).1);refine ⟨_,rfl,l',_,_,_,rfl,rfl,SqL.of hl8,at0',_,rfl,l',_,_,_,rfl,rfl,SqL.of hl8,at1',_,rfl,_,rfl,l',_,_,_,rfl,rfl,SqL.of hl8,at2',yS3,λ zb nzb=>?_⟩;have gb:=kE nzb (.tup [vn (ms.getD 0 0),vn (ms.getD 1 0),vn (ms.getD (L.length-1) 0)]);have hzb:=kC (H:=H8) (a:=zb) (o:=.tup [vn (ms.getD 0 0),vn (ms.getD 1 0),vn (ms.getD (L.length-1) 0)]);have permW:ms.Perm (cu W.length):=by rw [lW];exact perm'
  have hl9:=gb _ _ hl8;generalize upd H8 zb (.tup [vn (ms.getD 0 0),vn (ms.getD 1 0),vn (ms.getD (L.length-1) 0)])=H9 at *;refine ⟨_,rfl,_,rfl,_,rfl,l',_,rfl,.inl ⟨SqL.of hl9,λ o no=>?_⟩⟩;have go:=kE no (.tup (ms.map vn));have ho:=kC (H:=H9) (a:=o) (o:=.tup (ms.map vn));have hzb9:=go _ _ hzb;have g89:=gb.trans go;generalize upd H9 o (.tup (ms.map vn))=H10 at *;have Gg:Gw H10 w zb o W ms (ms.getD 0 0) (ms.getD 1 0) (ms.getD (L.length-1) 0):=⟨hW.kept g89,TW,hzb9,ho,permW,GW.three,ab⟩;have g9:=gW.trans g89;generalize ea:ms.getD 0 0=pa' at *;generalize eb:ms.getD 1 0=pb' at *;generalize ec:ms.getD (L.length-1) 0=pc' at *;refine ⟨w,zb,o,W,ms,_,_,_,_,_,rfl,Gg,isb,hl,λ H11 g11=>⟨_,rfl,zB ?_⟩⟩;have G11:=Gg.kept g11
  have hR:R W pc' pb' pa':=by
   obtain ⟨v,rv,nv,_⟩:=yJ TW.nb isb.1;have e:=isb.2;rw [nv] at e;exact e ▸ rv
  refine ⟨_,rfl,_,rfl,_,rfl,_,rfl,w,zb,W,_,_,_,rfl,G11.web,TW,GW,G11.base,isb.1,isb.2,λ o2 rest H12 g12 ho2 pl _=>?_⟩;obtain ⟨perm2,Fs',Ts',lf'⟩:=pl.laid GW hR;have G12:=G11.kept g12;refine ⟨w,zb,o2,W,_,_,_,_,_,_,rfl,⟨G12.web,TW,G12.base,ho2,perm2,G12.three,ab⟩,isb,lf',λ H13 g13=>⟨_,rfl,zB ?_⟩⟩;exact ⟨_,_,_,_,_,_,rfl,g9.trans (g11.trans (g12.trans g13))⟩
 ·rintro σ H2 ⟨x1,x2,x3,x4,x5,x6,rfl,g⟩
  exact q H2
end
theorem gZ {α:Type} {n:Nat} {us:List α} (hn:n=1) (h:us.length=n):∃ x0:α,us=[x0]:=by
 subst hn
 match us,h with
 | [x0],_=>exact ⟨_,rfl⟩
theorem wI {α:Type} {n:Nat} {us:List α} (hn:n=2) (h:us.length=n):∃ x0 x1:α,us=[x0,x1]:=by
 subst hn
 match us,h with
 | [x0,x1],_=>exact ⟨_,_,rfl⟩
theorem uY {α:Type} {n:Nat} {us:List α} (hn:n=3) (h:us.length=n):∃ x0 x1 x2:α,us=[x0,x1,x2]:=by
 subst hn
 match us,h with
 | [x0,x1,x2],_=>exact ⟨_,_,_,rfl⟩
theorem sA {α:Type} {n:Nat} {us:List α} (hn:n=4) (h:us.length=n):∃ x0 x1 x2 x3:α,us=[x0,x1,x2,x3]:=by
 subst hn
 match us,h with
 | [x0,x1,x2,x3],_=>exact ⟨_,_,_,_,rfl⟩
theorem all_mk {l:BZ} {w:iD} {K:cf} {h:gy} {mg:Str->Option ar} {fa f1 f2 f3 f4 f5 f6 f7 f8 f9 f10 f11 f12 f13 f14 f15 f16 f17 f18 f19 f20 f21 f22 f23 f24 f25 f26 f27 f28 f29 f30 f31 f32 f33 f34 f35 f36 f37:av}  (X:K.In h) (G:h.Ns cq mg) (hfa:mg "law" = some (.ref fa))
  {od1 an1 od2 an2 od3 an3 od4 an4 od5 an5 od6 an6 od7 an7 od8 an8 od9 an9 od10 an10 od11 an11 od12 an12 od13 an13 od14 an14 od15 an15 od16 an16 od17 an17 od18 an18 od19 an19 od20 an20 od21 an21 od22 an22 od23 an23 od24 an24 od25 an25 od26 an26 od27 an27 od28 an28 od29 an29 od30 an30 od31 an31 od32 an32 od33 an33 od34 an34 od35 an35 od36 an36 od37 an37:Option av} {sl1 sl2 sl3 sl4 sl5 sl6 sl7 sl8 sl9 sl10 sl11 sl12 sl13 sl14 sl15 sl16 sl17 sl18 sl19 sl20 sl21 sl22 sl23 sl24 sl25 sl26 sl27 sl28 sl29 sl30 sl31 sl32 sl33 sl34 sl35 sl36 sl37:Array (Option ar)} {oc1 kV1 dc1 pm1 cd1 ct1 oc2 kV2 dc2 pm2 cd2 ct2 oc3 kV3 dc3 pm3 cd3 ct3 oc4 kV4 dc4 pm4 cd4 ct4 oc5 kV5 dc5 pm5 cd5 ct5 oc6 kV6 dc6 pm6 cd6 ct6 oc7 kV7 dc7 pm7 cd7 ct7 oc8 kV8 dc8 pm8 cd8 ct8 oc9 kV9 dc9 pm9 cd9 ct9 oc10 kV10 dc10 pm10 cd10 ct10 oc11 kV11 dc11 pm11 cd11 ct11 oc12 kV12 dc12 pm12 cd12 ct12 oc13 kV13 dc13 pm13 cd13 ct13 oc14 kV14 dc14 pm14 cd14 ct14 oc15 kV15 dc15 pm15 cd15 ct15 oc16 kV16 dc16 pm16 cd16 ct16 oc17 kV17 dc17 pm17 cd17 ct17 oc18 kV18 dc18 pm18 cd18 ct18 oc19 kV19 dc19 pm19 cd19 ct19 oc20 kV20 dc20 pm20 cd20 ct20 oc21 kV21 dc21 pm21 cd21 ct21 oc22 kV22 dc22 pm22 cd22 ct22 oc23 kV23 dc23 pm23 cd23 ct23 oc24 kV24 dc24 pm24 cd24 ct24 oc25 kV25 dc25 pm25 cd25 ct25 oc26 kV26 dc26 pm26 cd26 ct26 oc27 kV27 dc27 pm27 cd27 ct27 oc28 kV28 dc28 pm28 cd28 ct28 oc29 kV29 dc29 pm29 cd29 ct29 oc30 kV30 dc30 pm30 cd30 ct30 oc31 kV31 dc31 pm31 cd31 ct31 oc32 kV32 dc32 pm32 cd32 ct32 oc33 kV33 dc33 pm33 cd33 ct33 oc34 kV34 dc34 pm34 cd34 ct34 oc35 kV35 dc35 pm35 cd35 ct35 oc36 kV36 dc36 pm36 cd36 ct36 oc37 kV37 dc37 pm37 cd37 ct37:ar}
  (a1:cw K cq "is_whole" = some (some (.ref f1))) (l1:K.lookup f1=some ⟨oc1,od1,.func (dn "is_whole" "is_whole" (kW yP) (kT yP) (kJ yP) .none kV1 dc1 pm1 an1 cd1 ct1),sl1⟩) (c1:dh K cd1 "is_whole" = true) (k1:dg K (.ref f1)=true)
  (a2:cw K cq "are_whole" = some (some (.ref f2))) (l2:K.lookup f2=some ⟨oc2,od2,.func (dn "are_whole" "are_whole" (kW xS) (kT xS) (kJ xS) .none kV2 dc2 pm2 an2 cd2 ct2),sl2⟩) (c2:dh K cd2 "are_whole" = true) (k2:dg K (.ref f2)=true)
  (a3:cw K cq "from_on" = some (some (.ref f3))) (l3:K.lookup f3=some ⟨oc3,od3,.func (dn "from_on" "from_on" (kW zM) (kT zM) (kJ zM) .none kV3 dc3 pm3 an3 cd3 ct3),sl3⟩) (c3:dh K cd3 "from_on" = true) (k3:dg K (.ref f3)=true)
  (a4:cw K cq "steps_of" = some (some (.ref f4))) (l4:K.lookup f4=some ⟨oc4,od4,.func (dn "steps_of" "steps_of" (kW yK) (kT yK) (kJ yK) .none kV4 dc4 pm4 an4 cd4 ct4),sl4⟩) (c4:dh K cd4 "steps_of" = true) (k4:dg K (.ref f4)=true)
  (a5:cw K cq "ties" = some (some (.ref f5))) (l5:K.lookup f5=some ⟨oc5,od5,.func (dn "ties" "ties" (kW cT) (kT cT) (kJ cT) .none kV5 dc5 pm5 an5 cd5 ct5),sl5⟩) (c5:dh K cd5 "ties" = true) (k5:dg K (.ref f5)=true)
  (a6:cw K cq "behind" = some (some (.ref f6))) (l6:K.lookup f6=some ⟨oc6,od6,.func (dn "behind" "behind" (kW wS) (kT wS) (kJ wS) .none kV6 dc6 pm6 an6 cd6 ct6),sl6⟩) (c6:dh K cd6 "behind" = true) (k6:dg K (.ref f6)=true)
  (a7:cw K cq "steps_round" = some (some (.ref f7))) (l7:K.lookup f7=some ⟨oc7,od7,.func (dn "steps_round" "steps_round" (kW jV) (kT jV) (kJ jV) .none kV7 dc7 pm7 an7 cd7 ct7),sl7⟩) (c7:dh K cd7 "steps_round" = true) (k7:dg K (.ref f7)=true)
  (a8:cw K cq "faces" = some (some (.ref f8))) (l8:K.lookup f8=some ⟨oc8,od8,.func (dn "faces" "faces" (kW uK) (kT uK) (kJ uK) .none kV8 dc8 pm8 an8 cd8 ct8),sl8⟩) (c8:dh K cd8 "faces" = true) (k8:dg K (.ref f8)=true)
  (a9:cw K cq "is_flat" = some (some (.ref f9))) (l9:K.lookup f9=some ⟨oc9,od9,.func (dn "is_flat" "is_flat" (kW zJ) (kT zJ) (kJ zJ) .none kV9 dc9 pm9 an9 cd9 ct9),sl9⟩) (c9:dh K cd9 "is_flat" = true) (k9:dg K (.ref f9)=true)
  (a10:cw K cq "must_be_flat" = some (some (.ref f10))) (l10:K.lookup f10=some ⟨oc10,od10,.func (dn "must_be_flat" "must_be_flat" (kW jL) (kT jL) (kJ jL) .none kV10 dc10 pm10 an10 cd10 ct10),sl10⟩) (c10:dh K cd10 "must_be_flat" = true) (k10:dg K (.ref f10)=true)
  (a11:cw K cq "uncornered_face" = some (some (.ref f11))) (l11:K.lookup f11=some ⟨oc11,od11,.func (dn "uncornered_face" "uncornered_face" (kW qS) (kT qS) (kJ qS) .none kV11 dc11 pm11 an11 cd11 ct11),sl11⟩) (c11:dh K cd11 "uncornered_face" = true) (k11:dg K (.ref f11)=true)
  (a12:cw K cq "are_round" = some (some (.ref f12))) (l12:K.lookup f12=some ⟨oc12,od12,.func (dn "are_round" "are_round" (kW xU) (kT xU) (kJ xU) .none kV12 dc12 pm12 an12 cd12 ct12),sl12⟩) (c12:dh K cd12 "are_round" = true) (k12:dg K (.ref f12)=true)
  (a13:cw K cq "is_base" = some (some (.ref f13))) (l13:K.lookup f13=some ⟨oc13,od13,.func (dn "is_base" "is_base" (kW zK) (kT zK) (kJ zK) .none kV13 dc13 pm13 an13 cd13 ct13),sl13⟩) (c13:dh K cd13 "is_base" = true) (k13:dg K (.ref f13)=true)
  (a14:cw K cq "must_have_base" = some (some (.ref f14))) (l14:K.lookup f14=some ⟨oc14,od14,.func (dn "must_have_base" "must_have_base" (kW jA) (kT jA) (kJ jA) .none kV14 dc14 pm14 an14 cd14 ct14),sl14⟩) (c14:dh K cd14 "must_have_base" = true) (k14:dg K (.ref f14)=true)
  (a15:cw K cq "has_ends" = some (some (.ref f15))) (l15:K.lookup f15=some ⟨oc15,od15,.func (dn "has_ends" "has_ends" (kW yQ) (kT yQ) (kJ yQ) .none kV15 dc15 pm15 an15 cd15 ct15),sl15⟩) (c15:dh K cd15 "has_ends" = true) (k15:dg K (.ref f15)=true)
  (a16:cw K cq "stretch_under" = some (some (.ref f16))) (l16:K.lookup f16=some ⟨oc16,od16,.func (dn "stretch_under" "stretch_under" (kW jE) (kT jE) (kJ jE) .none kV16 dc16 pm16 an16 cd16 ct16),sl16⟩) (c16:dh K cd16 "stretch_under" = true) (k16:dg K (.ref f16)=true)
  (a17:cw K cq "put_over" = some (some (.ref f17))) (l17:K.lookup f17=some ⟨oc17,od17,.func (dn "put_over" "put_over" (kW yL) (kT yL) (kJ yL) .none kV17 dc17 pm17 an17 cd17 ct17),sl17⟩) (c17:dh K cd17 "put_over" = true) (k17:dg K (.ref f17)=true)
  (a18:cw K cq "laid" = some (some (.ref f18))) (l18:K.lookup f18=some ⟨oc18,od18,.func (dn "laid" "laid" (kW cU) (kT cU) (kJ cU) .none kV18 dc18 pm18 an18 cd18 ct18),sl18⟩) (c18:dh K cd18 "laid" = true) (k18:dg K (.ref f18)=true)
  (a19:cw K cq "must_be_laid" = some (some (.ref f19))) (l19:K.lookup f19=some ⟨oc19,od19,.func (dn "must_be_laid" "must_be_laid" (kW jK) (kT jK) (kJ jK) .none kV19 dc19 pm19 an19 cd19 ct19),sl19⟩) (c19:dh K cd19 "must_be_laid" = true) (k19:dg K (.ref f19)=true)
  (a20:cw K cq "rounds" = some (some (.ref f20))) (l20:K.lookup f20=some ⟨oc20,od20,.func (dn "rounds" "rounds" (kW wR) (kT wR) (kJ wR) .none kV20 dc20 pm20 an20 cd20 ct20),sl20⟩) (c20:dh K cd20 "rounds" = true) (k20:dg K (.ref f20)=true)
  (a21:cw K cq "stretches" = some (some (.ref f21))) (l21:K.lookup f21=some ⟨oc21,od21,.func (dn "stretches" "stretches" (kW xN) (kT xN) (kJ xN) .none kV21 dc21 pm21 an21 cd21 ct21),sl21⟩) (c21:dh K cd21 "stretches" = true) (k21:dg K (.ref f21)=true)
  (a22:cw K cq "first_loose" = some (some (.ref f22))) (l22:K.lookup f22=some ⟨oc22,od22,.func (dn "first_loose" "first_loose" (kW jW) (kT jW) (kJ jW) .none kV22 dc22 pm22 an22 cd22 ct22),sl22⟩) (c22:dh K cd22 "first_loose" = true) (k22:dg K (.ref f22)=true)
  (a23:cw K cq "from_to" = some (some (.ref f23))) (l23:K.lookup f23=some ⟨oc23,od23,.func (dn "from_to" "from_to" (kW zL) (kT zL) (kJ zL) .none kV23 dc23 pm23 an23 cd23 ct23),sl23⟩) (c23:dh K cd23 "from_to" = true) (k23:dg K (.ref f23)=true)
  (a24:cw K cq "order_of" = some (some (.ref f24))) (l24:K.lookup f24=some ⟨oc24,od24,.func (dn "order_of" "order_of" (kW yM) (kT yM) (kJ yM) .none kV24 dc24 pm24 an24 cd24 ct24),sl24⟩) (c24:dh K cd24 "order_of" = true) (k24:dg K (.ref f24)=true)
  (a25:cw K cq "_law_pot" = some (some (.ref f25))) (l25:K.lookup f25=some ⟨oc25,od25,.func (dn "_law_pot" "_law_pot" (kW zH) (kT zH) (kJ zH) .none kV25 dc25 pm25 an25 cd25 ct25),sl25⟩) (c25:dh K cd25 "_law_pot" = true) (k25:dg K (.ref f25)=true)
  (a26:cw K cq "_law_digit" = some (some (.ref f26))) (l26:K.lookup f26=some ⟨oc26,od26,.func (dn "_law_digit" "_law_digit" (kW xR) (kT xR) (kJ xR) .none kV26 dc26 pm26 an26 cd26 ct26),sl26⟩) (c26:dh K cd26 "_law_digit" = true) (k26:dg K (.ref f26)=true)
  (a27:cw K cq "_law_put_over" = some (some (.ref f27))) (l27:K.lookup f27=some ⟨oc27,od27,.func (dn "_law_put_over" "_law_put_over" (kW jM) (kT jM) (kJ jM) .none kV27 dc27 pm27 an27 cd27 ct27),sl27⟩) (c27:dh K cd27 "_law_put_over" = true) (k27:dg K (.ref f27)=true)
  (a28:cw K cq "_law_rows" = some (some (.ref f28))) (l28:K.lookup f28=some ⟨oc28,od28,.func (dn "_law_rows" "_law_rows" (kW yN) (kT yN) (kJ yN) .none kV28 dc28 pm28 an28 cd28 ct28),sl28⟩) (c28:dh K cd28 "_law_rows" = true) (k28:dg K (.ref f28)=true)
  (a29:cw K cq "_law_names" = some (some (.ref f29))) (l29:K.lookup f29=some ⟨oc29,od29,.func (dn "_law_names" "_law_names" (kW xQ) (kT xQ) (kJ xQ) .none kV29 dc29 pm29 an29 cd29 ct29),sl29⟩) (c29:dh K cd29 "_law_names" = true) (k29:dg K (.ref f29)=true)
  (a30:cw K cq "_law_web" = some (some (.ref f30))) (l30:K.lookup f30=some ⟨oc30,od30,.func (dn "_law_web" "_law_web" (kW zG) (kT zG) (kJ zG) .none kV30 dc30 pm30 an30 cd30 ct30),sl30⟩) (c30:dh K cd30 "_law_web" = true) (k30:dg K (.ref f30)=true)
  (a31:cw K cq "_law_face" = some (some (.ref f31))) (l31:K.lookup f31=some ⟨oc31,od31,.func (dn "_law_face" "_law_face" (kW yO) (kT yO) (kJ yO) .none kV31 dc31 pm31 an31 cd31 ct31),sl31⟩) (c31:dh K cd31 "_law_face" = true) (k31:dg K (.ref f31)=true)
  (a32:cw K cq "_law_faces_right" = some (some (.ref f32))) (l32:K.lookup f32=some ⟨oc32,od32,.func (dn "_law_faces_right" "_law_faces_right" (kW qU) (kT qU) (kJ qU) .none kV32 dc32 pm32 an32 cd32 ct32),sl32⟩) (c32:dh K cd32 "_law_faces_right" = true) (k32:dg K (.ref f32)=true)
  (a33:cw K cq "_law_rounds_right" = some (some (.ref f33))) (l33:K.lookup f33=some ⟨oc33,od33,.func (dn "_law_rounds_right" "_law_rounds_right" (kW qP) (kT qP) (kJ qP) .none kV33 dc33 pm33 an33 cd33 ct33),sl33⟩) (c33:dh K cd33 "_law_rounds_right" = true) (k33:dg K (.ref f33)=true)
  (a34:cw K cq "_law_leaves_right" = some (some (.ref f34))) (l34:K.lookup f34=some ⟨oc34,od34,.func (dn "_law_leaves_right" "_law_leaves_right" (kW qQ) (kT qQ) (kJ qQ) .none kV34 dc34 pm34 an34 cd34 ct34),sl34⟩) (c34:dh K cd34 "_law_leaves_right" = true) (k34:dg K (.ref f34)=true)
  (a35:cw K cq "_law_sizes_right" = some (some (.ref f35))) (l35:K.lookup f35=some ⟨oc35,od35,.func (dn "_law_sizes_right" "_law_sizes_right" (kW qT) (kT qT) (kJ qT) .none kV35 dc35 pm35 an35 cd35 ct35),sl35⟩) (c35:dh K cd35 "_law_sizes_right" = true) (k35:dg K (.ref f35)=true)
  (a36:cw K cq "_law_right" = some (some (.ref f36))) (l36:K.lookup f36=some ⟨oc36,od36,.func (dn "_law_right" "_law_right" (kW xO) (kT xO) (kJ xO) .none kV36 dc36 pm36 an36 cd36 ct36),sl36⟩) (c36:dh K cd36 "_law_right" = true) (k36:dg K (.ref f36)=true)
  (a37:cw K cq "law" = some (some (.ref f37))) (l37:K.lookup f37=some ⟨oc37,od37,.func (dn "law" "law" (kW bF) (kT bF) (kJ bF) .none kV37 dc37 pm37 an37 cd37 ct37),sl37⟩) (c37:dh K cd37 "law" = true) (k37:dg K (.ref f37)=true)
  (y1:cw K cq "isinstance" = some none)
  (y2:cw K cq "bool" = some none)
  (y3:cw K cq "int" = some none)
  (y4:cw K cq "all" = some none)
  (y5:cw K cq "len" = some none)
  (y6:cw K cq "tuple" = some none)
  (y7:cw K cq "sorted" = some none)
  (y8:cw K cq "enumerate" = some none)
  (y9:cw K cq "list" = some none)
  (y10:cw K cq "range" = some none)
  (y11:cw K cq "zip" = some none)
  (y12:cw K cq "abs" = some none)
  (y13:cw K cq "max" = some none)
  (y14:cw K cq "divmod" = some none)
  (y15:cw K cq "min" = some none)
  (y16:cw K cq "set" = some none)
  : ∃ fd:ed,(∀ (s:ay) (v:ar),Cg s fd ⟨[v],[]⟩ [("_law_script",v)])/\∀ base:gy,K.In base->base.Ns cq mg->FnOk l.prog w K mg base CX0 10 fa fd ["_law_script"] (kBB K):=by
 have e:=hfa.symm.trans (eA X G a37);cases e
 have z_isinstance:=fk X G y1;have z_bool:=fk X G y2;have z_int:=fk X G y3;have z_all:=fk X G y4;have z_len:=fk X G y5;have z_tuple:=fk X G y6;have z_sorted:=fk X G y7;have z_enumerate:=fk X G y8;have z_list:=fk X G y9;have z_range:=fk X G y10;have z_zip:=fk X G y11;have z_abs:=fk X G y12;have z_max:=fk X G y13;have z_divmod:=fk X G y14;have z_min:=fk X G y15;have z_set:=fk X G y16;have F1:=qF (st:=yP) l1 c1 k1;have F2:=qF (st:=xS) l2 c2 k2;have F3:=qF (st:=zM) l3 c3 k3;have F4:=qF (st:=yK) l4 c4 k4;have F5:=qF (st:=cT) l5 c5 k5;have F6:=qF (st:=wS) l6 c6 k6;have F7:=qF (st:=jV) l7 c7 k7;have F8:=qF (st:=uK) l8 c8 k8;have F9:=qF (st:=zJ) l9 c9 k9;have F10:=qF (st:=jL) l10 c10 k10;have F11:=qF (st:=qS) l11 c11 k11;have F12:=qF (st:=xU) l12 c12 k12;have F13:=qF (st:=zK) l13 c13 k13;have F14:=qF (st:=jA) l14 c14 k14;have F15:=qF (st:=yQ) l15 c15 k15;have F16:=qF (st:=jE) l16 c16 k16;have F17:=qF (st:=yL) l17 c17 k17;have F18:=qF (st:=cU) l18 c18 k18;have F19:=qF (st:=jK) l19 c19 k19;have F20:=qF (st:=wR) l20 c20 k20;have F21:=qF (st:=xN) l21 c21 k21;have F22:=qF (st:=jW) l22 c22 k22;have F23:=qF (st:=zL) l23 c23 k23;have F24:=qF (st:=yM) l24 c24 k24;have F25:=qF (st:=zH) l25 c25 k25;have F26:=qF (st:=xR) l26 c26 k26;have F27:=qF (st:=jM) l27 c27 k27;have F28:=qF (st:=yN) l28 c28 k28;have F29:=qF (st:=xQ) l29 c29 k29;have F30:=qF (st:=zG) l30 c30 k30;have F31:=qF (st:=yO) l31 c31 k31;have F32:=qF (st:=qU) l32 c32 k32;have F33:=qF (st:=qP) l33 c33 k33;have F34:=qF (st:=qQ) l34 c34 k34;have F35:=qF (st:=qT) l35 c35 k35;have F36:=qF (st:=xO) l36 c36 k36;have F37:=qF (st:=bF) l37 c37 k37;have b1:=F1.binds (ps:=["thing"]) λ _ _ _ _ _ _ us hl=>by obtain ⟨_,rfl⟩:=gZ (n:=1) rfl hl;rfl
 have b2:=F2.binds (ps:=["thing","many"]) λ _ _ _ _ _ _ us hl=>by obtain ⟨_,_,rfl⟩:=wI (n:=2) rfl hl;rfl
 have b3:=F3.binds (ps:=["row","first"]) λ _ _ _ _ _ _ us hl=>by obtain ⟨_,_,rfl⟩:=wI (n:=2) rfl hl;rfl
 have b4:=F4.binds (ps:=["web"]) λ _ _ _ _ _ _ us hl=>by obtain ⟨_,rfl⟩:=gZ (n:=1) rfl hl;rfl
 have b5:=F5.binds (ps:=["web"]) λ _ _ _ _ _ _ us hl=>by obtain ⟨_,rfl⟩:=gZ (n:=1) rfl hl;rfl
 have b6:=F6.binds (ps:=["web","step"]) λ _ _ _ _ _ _ us hl=>by obtain ⟨_,_,rfl⟩:=wI (n:=2) rfl hl;rfl
 have b7:=F7.binds (ps:=["web","step"]) λ _ _ _ _ _ _ us hl=>by obtain ⟨_,_,rfl⟩:=wI (n:=2) rfl hl;rfl
 have b8:=F8.binds (ps:=["web"]) λ _ _ _ _ _ _ us hl=>by obtain ⟨_,rfl⟩:=gZ (n:=1) rfl hl;rfl
 have b9:=F9.binds (ps:=["web"]) λ _ _ _ _ _ _ us hl=>by obtain ⟨_,rfl⟩:=gZ (n:=1) rfl hl;rfl
 have b10:=F10.binds (ps:=["web"]) λ _ _ _ _ _ _ us hl=>by obtain ⟨_,rfl⟩:=gZ (n:=1) rfl hl;rfl
 have b11:=F11.binds (ps:=["web"]) λ _ _ _ _ _ _ us hl=>by obtain ⟨_,rfl⟩:=gZ (n:=1) rfl hl;rfl
 have b12:=F12.binds (ps:=["web","p","q","r"]) λ _ _ _ _ _ _ us hl=>by obtain ⟨_,_,_,_,rfl⟩:=sA (n:=4) rfl hl;rfl
 have b13:=F13.binds (ps:=["web","thing"]) λ _ _ _ _ _ _ us hl=>by obtain ⟨_,_,rfl⟩:=wI (n:=2) rfl hl;rfl
 have b14:=F14.binds (ps:=["web","base"]) λ _ _ _ _ _ _ us hl=>by obtain ⟨_,_,rfl⟩:=wI (n:=2) rfl hl;rfl
 have b15:=F15.binds (ps:=["web","base","thing"]) λ _ _ _ _ _ _ us hl=>by obtain ⟨_,_,_,rfl⟩:=uY (n:=3) rfl hl;rfl
 have b16:=F16.binds (ps:=["web","top","ahead","place"]) λ _ _ _ _ _ _ us hl=>by obtain ⟨_,_,_,_,rfl⟩:=sA (n:=4) rfl hl;rfl
 have b17:=F17.binds (ps:=["top","stretch","place"]) λ _ _ _ _ _ _ us hl=>by obtain ⟨_,_,_,rfl⟩:=uY (n:=3) rfl hl;rfl
 have b18:=F18.binds (ps:=["web","base","thing"]) λ _ _ _ _ _ _ us hl=>by obtain ⟨_,_,_,rfl⟩:=uY (n:=3) rfl hl;rfl
 have b19:=F19.binds (ps:=["web","base","order"]) λ _ _ _ _ _ _ us hl=>by obtain ⟨_,_,_,rfl⟩:=uY (n:=3) rfl hl;rfl
 have b20:=F20.binds (ps:=["web","base","order"]) λ _ _ _ _ _ _ us hl=>by obtain ⟨_,_,_,rfl⟩:=uY (n:=3) rfl hl;rfl
 have b21:=F21.binds (ps:=["web","base","order"]) λ _ _ _ _ _ _ us hl=>by obtain ⟨_,_,_,rfl⟩:=uY (n:=3) rfl hl;rfl
 have b22:=F22.binds (ps:=["web","top"]) λ _ _ _ _ _ _ us hl=>by obtain ⟨_,_,rfl⟩:=wI (n:=2) rfl hl;rfl
 have b23:=F23.binds (ps:=["row","first","last"]) λ _ _ _ _ _ _ us hl=>by obtain ⟨_,_,_,rfl⟩:=uY (n:=3) rfl hl;rfl
 have b24:=F24.binds (ps:=["web","base"]) λ _ _ _ _ _ _ us hl=>by obtain ⟨_,_,rfl⟩:=wI (n:=2) rfl hl;rfl
 have b25:=F25.binds (ps:=["_law_script","_law_k"]) λ _ _ _ _ _ _ us hl=>by obtain ⟨_,_,rfl⟩:=wI (n:=2) rfl hl;rfl
 have b26:=F26.binds (ps:=["_law_pot_here","_law_many"]) λ _ _ _ _ _ _ us hl=>by obtain ⟨_,_,rfl⟩:=wI (n:=2) rfl hl;rfl
 have b27:=F27.binds (ps:=["_law_rows_here","_law_row","_law_first","_law_last"]) λ _ _ _ _ _ _ us hl=>by obtain ⟨_,_,_,_,rfl⟩:=sA (n:=4) rfl hl;rfl
 have b28:=F28.binds (ps:=["_law_pot_here","_law_n"]) λ _ _ _ _ _ _ us hl=>by obtain ⟨_,_,rfl⟩:=wI (n:=2) rfl hl;rfl
 have b29:=F29.binds (ps:=["_law_pot_here","_law_n"]) λ _ _ _ _ _ _ us hl=>by obtain ⟨_,_,rfl⟩:=wI (n:=2) rfl hl;rfl
 have b30:=F30.binds (ps:=["_law_rows_here","_law_names_here"]) λ _ _ _ _ _ _ us hl=>by obtain ⟨_,_,rfl⟩:=wI (n:=2) rfl hl;rfl
 have b31:=F31.binds (ps:=["_law_x","_law_y","_law_z"]) λ _ _ _ _ _ _ us hl=>by obtain ⟨_,_,_,rfl⟩:=uY (n:=3) rfl hl;rfl
 have b32:=F32.binds (ps:=["_law_web_here","_law_base","_law_order","_law_parts"]) λ _ _ _ _ _ _ us hl=>by obtain ⟨_,_,_,_,rfl⟩:=sA (n:=4) rfl hl;rfl
 have b33:=F33.binds (ps:=["_law_web_here","_law_base","_law_order","_law_told"]) λ _ _ _ _ _ _ us hl=>by obtain ⟨_,_,_,_,rfl⟩:=sA (n:=4) rfl hl;rfl
 have b34:=F34.binds (ps:=["_law_base","_law_order","_law_told"]) λ _ _ _ _ _ _ us hl=>by obtain ⟨_,_,_,rfl⟩:=uY (n:=3) rfl hl;rfl
 have b35:=F35.binds (ps:=["_law_told","_law_parts"]) λ _ _ _ _ _ _ us hl=>by obtain ⟨_,_,rfl⟩:=wI (n:=2) rfl hl;rfl
 have b36:=F36.binds (ps:=["_law_web_here","_law_base","_law_order"]) λ _ _ _ _ _ _ us hl=>by obtain ⟨_,_,_,rfl⟩:=uY (n:=3) rfl hl;rfl
 refine ⟨dn "law" "law" (kW bF) (kT bF) (kJ bF) .none kV37 dc37 pm37 an37 cd37 ct37,λ s v=>.of_eq rfl,λ base _ _=>?_⟩;have aQ:Own.Has l.prog w K mg base "is_whole" ["thing"] 1 (fV):=⟨_,_,rT (P:=l.prog) (w:=w) (base:=base) (mg:=mg) F1 z_isinstance z_bool z_int,b1,k1,eA X G a1⟩;have xX:Own.Has l.prog w K mg base "are_whole" ["thing","many"] 2 (nW):=⟨_,_,oU (P:=l.prog) (w:=w) (base:=base) (mg:=mg) F2 aQ z_all z_len z_isinstance z_tuple,b2,k2,eA X G a2⟩;have dO:Own.Has l.prog w K mg base "from_on" ["row","first"] 1 (gC):=⟨_,_,kAH (P:=l.prog) (w:=w) (base:=base) (mg:=mg) F3 z_tuple,b3,k3,eA X G a3⟩;have yU:Own.Has l.prog w K mg base "steps_of" ["web"] 1 (fG):=⟨_,_,rN (P:=l.prog) (w:=w) (base:=base) (mg:=mg) F4 z_sorted z_enumerate,b4,k4,eA X G a4⟩;have kAQ:Own.Has l.prog w K mg base "ties" ["web"] 2 (tJ):=⟨_,_,kJB (P:=l.prog) (w:=w) (base:=base) (mg:=mg) F5 yU,b5,k5,eA X G a5⟩;have bS:Own.Has l.prog w K mg base "behind" ["web","step"] 1 (cS):=⟨_,_,kDH (P:=l.prog) (w:=w) (base:=base) (mg:=mg) F6,b6,k6,eA X G a6⟩;have jY:Own.Has l.prog w K mg base "steps_round" ["web","step"] 2 (bC):=⟨_,_,gO (P:=l.prog) (w:=w) (base:=base) (mg:=mg) F7 bS,b7,k7,eA X G a7⟩;have zE:Own.Has l.prog w K mg base "faces" ["web"] 3 (bD):=⟨_,_,kGH (P:=l.prog) (w:=w) (base:=base) (mg:=mg) F8 yU jY z_tuple z_sorted,b8,k8,eA X G a8⟩;have dL:Own.Has l.prog w K mg base "is_flat" ["web"] 4 (tM):=⟨_,_,kAE (P:=l.prog) (w:=w) (base:=base) (mg:=mg) F9 zE kAQ z_len,b9,k9,eA X G a9⟩;have zX:Own.Has l.prog w K mg base "must_be_flat" ["web"] 5 (aF):=⟨_,_,fD (P:=l.prog) (w:=w) (base:=base) (mg:=mg) F10 dL,b10,k10,eA X G a10⟩;have yE:Own.Has l.prog w K mg base "uncornered_face" ["web"] 4 (fW):=⟨_,_,aI (P:=l.prog) (w:=w) (base:=base) (mg:=mg) F11 zE z_len,b11,k11,eA X G a11⟩;have xY:Own.Has l.prog w K mg base "are_round" ["web","p","q","r"] 3 (nX):=⟨_,_,oV (P:=l.prog) (w:=w) (base:=base) (mg:=mg) F12 jY,b12,k12,eA X G a12⟩;have dM:Own.Has l.prog w K mg base "is_base" ["web","thing"] 4 (nV):=⟨_,_,kAF (P:=l.prog) (w:=w) (base:=base) (mg:=mg) F13 xX xY z_len,b13,k13,eA X G a13⟩;have jB:Own.Has l.prog w K mg base "must_have_base" ["web","base"] 6 (vA):=⟨_,_,bK (P:=l.prog) (w:=w) (base:=base) (mg:=mg) F14 zX yE dM,b14,k14,eA X G a14⟩;have aR:Own.Has l.prog w K mg base "has_ends" ["web","base","thing"] 3 (cR):=⟨_,_,rV (P:=l.prog) (w:=w) (base:=base) (mg:=mg) F15 xX z_sorted z_list z_range z_len,b15,k15,eA X G a15⟩;have zC:Own.Has l.prog w K mg base "stretch_under" ["web","top","ahead","place"] 4 (cK):=⟨_,_,cX (P:=l.prog) (w:=w) (base:=base) (mg:=mg) F16 xY z_len z_all z_zip,b16,k16,eA X G a16⟩;have aN:Own.Has l.prog w K mg base "put_over" ["top","stretch","place"] 1 (nP):=⟨_,_,rO (P:=l.prog) (w:=w) (base:=base) (mg:=mg) F17,b17,k17,eA X G a17⟩;have kAR:Own.Has l.prog w K mg base "laid" ["web","base","thing"] 5 (nR):=⟨_,_,kJC (P:=l.prog) (w:=w) (base:=base) (mg:=mg) F18 aR zC aN z_list z_range z_len,b18,k18,eA X G a18⟩;have jN:Own.Has l.prog w K mg base "must_be_laid" ["web","base","order"] 7 (fH):=⟨_,_,fA (P:=l.prog) (w:=w) (base:=base) (mg:=mg) F19 jB kAR,b19,k19,eA X G a19⟩;have lG:Own.Has l.prog w K mg base "rounds" ["web","base","order"] 8 (fY):=⟨_,_,kDG (P:=l.prog) (w:=w) (base:=base) (mg:=mg) F20 jN z_tuple,b20,k20,eA X G a20⟩;have uD:Own.Has l.prog w K mg base "stretches" ["web","base","order"] 8 (tK):=⟨_,_,oQ (P:=l.prog) (w:=w) (base:=base) (mg:=mg) F21 jN z_tuple,b21,k21,eA X G a21⟩;have wO:Own.Has l.prog w K mg base "first_loose" ["web","top"] 1 (nU):=⟨_,_,gP (P:=l.prog) (w:=w) (base:=base) (mg:=mg) F22 z_range z_len,b22,k22,eA X G a22⟩;have dN:Own.Has l.prog w K mg base "from_to" ["row","first","last"] 2 (fZ):=⟨_,_,kAG (P:=l.prog) (w:=w) (base:=base) (mg:=mg) F23 dO z_list,b23,k23,eA X G a23⟩;have aO:Own.Has l.prog w K mg base "order_of" ["web","base"] 7 (cP):=⟨_,_,rP (P:=l.prog) (w:=w) (base:=base) (mg:=mg) F24 jB wO dN z_len z_tuple,b24,k24,eA X G a24⟩;have dJ:Own.Has l.prog w K mg base "_law_pot" ["_law_script","_law_k"] 1 (kFK K):=⟨_,_,kAD (P:=l.prog) (w:=w) (base:=base) (mg:=mg) F25 z_abs z_max,b25,k25,eA X G a25⟩;have qR:Own.Has l.prog w K mg base "_law_digit" ["_law_pot_here","_law_many"] 1 (bE):=⟨_,_,oT (P:=l.prog) (w:=w) (base:=base) (mg:=mg) F26 z_divmod,b26,k26,eA X G a26⟩;have zY:Own.Has l.prog w K mg base "_law_put_over" ["_law_rows_here","_law_row","_law_first","_law_last"] 1 (cN):=⟨_,_,fE (P:=l.prog) (w:=w) (base:=base) (mg:=mg) F27 z_len z_range,b27,k27,eA X G a27⟩;have aP:Own.Has l.prog w K mg base "_law_rows" ["_law_pot_here","_law_n"] 2 (tL):=⟨_,_,rQ (P:=l.prog) (w:=w) (base:=base) (mg:=mg) F28 qR zY z_range z_len,b28,k28,eA X G a28⟩;have uE:Own.Has l.prog w K mg base "_law_names" ["_law_pot_here","_law_n"] 2 (nQ):=⟨_,_,oS (P:=l.prog) (w:=w) (base:=base) (mg:=mg) F29 qR z_range,b29,k29,eA X G a29⟩;have dH:Own.Has l.prog w K mg base "_law_web" ["_law_rows_here","_law_names_here"] 1 (kFJ):=⟨_,_,kAC (P:=l.prog) (w:=w) (base:=base) (mg:=mg) F30 z_len z_enumerate z_min z_tuple,b30,k30,eA X G a30⟩;have vK:Own.Has l.prog w K mg base "_law_face" ["_law_x","_law_y","_law_z"] 1 (tN):=⟨_,_,rR (P:=l.prog) (w:=w) (base:=base) (mg:=mg) F31 z_min,b31,k31,eA X G a31⟩;have yG:Own.Has l.prog w K mg base "_law_faces_right" ["_law_web_here","_law_base","_law_order","_law_parts"] 4 (gD):=⟨_,_,aK (P:=l.prog) (w:=w) (base:=base) (mg:=mg) F32 vK zE z_enumerate z_range z_len z_sorted,b32,k32,eA X G a32⟩;have xK:Own.Has l.prog w K mg base "_law_rounds_right" ["_law_web_here","_law_base","_law_order","_law_told"] 1 (cL):=⟨_,_,uU (P:=l.prog) (w:=w) (base:=base) (mg:=mg) F33 z_len z_enumerate z_set z_range,b33,k33,eA X G a33⟩;have xL:Own.Has l.prog w K mg base "_law_leaves_right" ["_law_base","_law_order","_law_told"] 1 (cQ):=⟨_,_,uV (P:=l.prog) (w:=w) (base:=base) (mg:=mg) F34 z_range z_len,b34,k34,eA X G a34⟩;have yF:Own.Has l.prog w K mg base "_law_sizes_right" ["_law_told","_law_parts"] 1 (fX):=⟨_,_,aJ (P:=l.prog) (w:=w) (base:=base) (mg:=mg) F35 z_enumerate z_len,b35,k35,eA X G a35⟩;have wJ:Own.Has l.prog w K mg base "_law_right" ["_law_web_here","_law_base","_law_order"] 9 (cM):=⟨_,_,oR (P:=l.prog) (w:=w) (base:=base) (mg:=mg) F36 lG uD yG yF xK xL z_len,b36,k36,eA X G a36⟩;exact kLV (P:=l.prog) (w:=w) (base:=base) (mg:=mg) F37 dJ qR uE dH aP wJ aO z_range z_max z_min z_len z_tuple
theorem walk {l:BZ} {q:eo} {loose:List Str} {XP:(Str->Option ar)->gy->Prop} {YP:iD->gy->Prop} {d:DefRec} {K:Fb->cf} (hn:l.most=some 63) (hdf:d.params.defaults=[])
  (hY:∀ (w:iD) (h:gy),YP w h->(K w.params).In h)
  (F:∀ (w:iD) (mg:Str->Option ar) (fa:av) (h:gy),(K w.params).In h->h.Ns cq mg->mg d.name=some (.ref fa) ->
   ∃ fd:ed,(∀ (s:ay) (u:ar),Cg s fd ⟨[u],[]⟩ [("_law_script",u)])/\∀ base:gy,(K w.params).In base->base.Ns cq mg->FnOk l.prog w (K w.params) mg base CX0 10 fa fd ["_law_script"] (kBB (K w.params))) :
  Er q loose XP YP l.row.toRowW d [] (λ f vs=>EA f vs) :=
 L2.walk_of (n:=63) (k:=10) (x:="_law_script") (CX:=λ _=>CX0) (sp:=λ w=>kBB (K w.params)) hn (by decide) hdf ⟨rfl,by decide,by decide,rfl⟩ hY F (λ _ _ a ns hl _ hS=>⟨a,ns,rfl,hS,hl,λ _=>rfl⟩) λ _ _ _ _ _ z=>z
end Prf
def PySem.W.Fast.tw3287375011386166541:Nat:=0
def PySem.W.Fast.tw5236303541304300699:Nat:=0
def PySem.W.Fast.tw3624833001228346925:Nat:=0
def PySem.W.Fast.tw15968481671174317902:Nat:=0
def PySem.W.Fast.tw4225575577454588925:Nat:=0
def PySem.W.Fast.tw8819769078391927048:Nat:=0
def PySem.W.Fast.tw1879480596626527037:Nat:=0
def PySem.W.Fast.tw1936550996958713604:Nat:=0
def PySem.W.Fast.tw1269327573939128851:Nat:=0
def PySem.W.Fast.tw9018201931716724745:Nat:=0
def PySem.W.Fast.tw7388532163657619928:Nat:=0
def PySem.W.Fast.tw11368115407892234481:Nat:=0
def PySem.W.Fast.tw3625891540843319013:Nat:=0
def PySem.W.Fast.tw2697585561709445062:Nat:=0
def PySem.W.Fast.tw9998360193150395527:Nat:=0
def PySem.W.Fast.tw13592663565046334797:Nat:=0
def PySem.W.Fast.tw6296839465431262798:Nat:=0
def PySem.W.Fast.tw4465508009529356849:Nat:=0
def PySem.W.Fast.tw4548359361242623857:Nat:=0
def PySem.W.Fast.tw17739889771964313619:Nat:=0
def PySem.W.Fast.tw13025103638012836212:Nat:=0
def PySem.W.Fast.tw984345432903620312:Nat:=0
def PySem.W.Fast.tw12911950594573865340:Nat:=0
def PySem.W.Fast.tw4800438229612287357:Nat:=0
def PySem.W.Fast.tw7906030099233741919:Nat:=0
open PySem PySem.W PyProof.Rows
set_option maxRecDepth 100000 in
set_option maxHeartbeats 0 in
theorem PySem.Challenge.cw_restdraw_k58_whole_each_face_made_once_holds : PySem.Challenge.rw_restdraw_k58_whole_each_face_made_once.Holds := by
 w_on;o_law;k_head;(case hw=>w_witness2)
 k_fill
 refine Prf.walk (l:=PySem.Challenge.rw_restdraw_k58_whole_each_face_made_once) rfl rfl (λ w h Y=>PySem.W.kIn_of Y) ?F
 case F =>
  intro w mg fa h KX G hmg;refine' Prf.all_mk KX G hmg ?a1 ?l1 ?c1 ?k1 ?a2 ?l2 ?c2 ?k2 ?a3 ?l3 ?c3 ?k3 ?a4 ?l4 ?c4 ?k4 ?a5 ?l5 ?c5 ?k5 ?a6 ?l6 ?c6 ?k6 ?a7 ?l7 ?c7 ?k7 ?a8 ?l8 ?c8 ?k8 ?a9 ?l9 ?c9 ?k9 ?a10 ?l10 ?c10 ?k10 ?a11 ?l11 ?c11 ?k11 ?a12 ?l12 ?c12 ?k12 ?a13 ?l13 ?c13 ?k13 ?a14 ?l14 ?c14 ?k14 ?a15 ?l15 ?c15 ?k15 ?a16 ?l16 ?c16 ?k16 ?a17 ?l17 ?c17 ?k17 ?a18 ?l18 ?c18 ?k18 ?a19 ?l19 ?c19 ?k19 ?a20 ?l20 ?c20 ?k20 ?a21 ?l21 ?c21 ?k21 ?a22 ?l22 ?c22 ?k22 ?a23 ?l23 ?c23 ?k23 ?a24 ?l24 ?c24 ?k24 ?a25 ?l25 ?c25 ?k25 ?a26 ?l26 ?c26 ?k26 ?a27 ?l27 ?c27 ?k27 ?a28 ?l28 ?c28 ?k28 ?a29 ?l29 ?c29 ?k29 ?a30 ?l30 ?c30 ?k30 ?a31 ?l31 ?c31 ?k31 ?a32 ?l32 ?c32 ?k32 ?a33 ?l33 ?c33 ?k33 ?a34 ?l34 ?c34 ?k34 ?a35 ?l35 ?c35 ?k35 ?a36 ?l36 ?c36 ?k36 ?a37 ?l37 ?c37 ?k37 ?y1 ?y2 ?y3 ?y4 ?y5 ?y6 ?y7 ?y8 ?y9 ?y10 ?y11 ?y12 ?y13 ?y14 ?y15 ?y16
  (case a1=>k_is);(case l1=>k_is);(case c1=>k_is);(case k1=>k_is)
  (case a2=>k_is);(case l2=>k_is);(case c2=>k_is);(case k2=>k_is)
  (case a3=>k_is);(case l3=>k_is);(case c3=>k_is);(case k3=>k_is)
  (case a4=>k_is);(case l4=>k_is);(case c4=>k_is);(case k4=>k_is)
  (case a5=>k_is);(case l5=>k_is);(case c5=>k_is);(case k5=>k_is)
  (case a6=>k_is);(case l6=>k_is);(case c6=>k_is);(case k6=>k_is)
  (case a7=>k_is);(case l7=>k_is);(case c7=>k_is);(case k7=>k_is)
  (case a8=>k_is);(case l8=>k_is);(case c8=>k_is);(case k8=>k_is)
  (case a9=>k_is);(case l9=>k_is);(case c9=>k_is);(case k9=>k_is)
  (case a10=>k_is);(case l10=>k_is);(case c10=>k_is);(case k10=>k_is)
  (case a11=>k_is);(case l11=>k_is);(case c11=>k_is);(case k11=>k_is)
  (case a12=>k_is);(case l12=>k_is);(case c12=>k_is);(case k12=>k_is)
  (case a13=>k_is);(case l13=>k_is);(case c13=>k_is);(case k13=>k_is)
  (case a14=>k_is);(case l14=>k_is);(case c14=>k_is);(case k14=>k_is)
  (case a15=>k_is);(case l15=>k_is);(case c15=>k_is);(case k15=>k_is)
  (case a16=>k_is);(case l16=>k_is);(case c16=>k_is);(case k16=>k_is)
  (case a17=>k_is);(case l17=>k_is);(case c17=>k_is);(case k17=>k_is)
  (case a18=>k_is);(case l18=>k_is);(case c18=>k_is);(case k18=>k_is)
  (case a19=>k_is);(case l19=>k_is);(case c19=>k_is);(case k19=>k_is)
  (case a20=>k_is);(case l20=>k_is);(case c20=>k_is);(case k20=>k_is)
  (case a21=>k_is);(case l21=>k_is);(case c21=>k_is);(case k21=>k_is)
  (case a22=>k_is);(case l22=>k_is);(case c22=>k_is);(case k22=>k_is)
  (case a23=>k_is);(case l23=>k_is);(case c23=>k_is);(case k23=>k_is)
  (case a24=>k_is);(case l24=>k_is);(case c24=>k_is);(case k24=>k_is)
  (case a25=>k_is);(case l25=>k_is);(case c25=>k_is);(case k25=>k_is)
  (case a26=>k_is);(case l26=>k_is);(case c26=>k_is);(case k26=>k_is)
  (case a27=>k_is);(case l27=>k_is);(case c27=>k_is);(case k27=>k_is)
  (case a28=>k_is);(case l28=>k_is);(case c28=>k_is);(case k28=>k_is)
  (case a29=>k_is);(case l29=>k_is);(case c29=>k_is);(case k29=>k_is)
  (case a30=>k_is);(case l30=>k_is);(case c30=>k_is);(case k30=>k_is)
  (case a31=>k_is);(case l31=>k_is);(case c31=>k_is);(case k31=>k_is)
  (case a32=>k_is);(case l32=>k_is);(case c32=>k_is);(case k32=>k_is)
  (case a33=>k_is);(case l33=>k_is);(case c33=>k_is);(case k33=>k_is)
  (case a34=>k_is);(case l34=>k_is);(case c34=>k_is);(case k34=>k_is)
  (case a35=>k_is);(case l35=>k_is);(case c35=>k_is);(case k35=>k_is)
  (case a36=>k_is);(case l36=>k_is);(case c36=>k_is);(case k36=>k_is)
  (case a37=>k_is);(case l37=>k_is);(case c37=>k_is);(case k37=>k_is)
  (case y1=>k_is);(case y2=>k_is);(case y3=>k_is);(case y4=>k_is)
  (case y5=>k_is);(case y6=>k_is);(case y7=>k_is);(case y8=>k_is)
  (case y9=>k_is);(case y10=>k_is);(case y11=>k_is);(case y12=>k_is)
  (case y13=>k_is);(case y14=>k_is);(case y15=>k_is);(case y16=>k_is)
